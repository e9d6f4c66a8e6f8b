import PyProof.Rows.All
import Wide.All
import OpenK.AllK
import Wide.FinOn
import PyProof.EqAt
import PyProof.EqKinds
import PyProof.TupleCall
import PySem.Syntax
import PySem.Sem
import PyProof.NeKinds
import PyProof.TupleKey
import PyProof.StrWalks
import KE.KIntText
import KE.KSortTup
import OpenK.KOwn
import KE.KTryMore
import PyProof.NsDelKeeps
import PyProof.RulesAs
import PyProof.StrLawsIdx
import PyProof.SliceStr2
import PyProof.StrBlockH
import PyProof.Rows.StrJoin2
import PyProof.Rows.FStr
import PyProof.StrLawsChain
import PyProof.StrLawsIn
import PyProof.ListRange
import PyProof.Rows.SortRev
import PySem.SetOps
import PyProof.SetKind
import PyProof.DictKinds
import PyProof.Rows.SetFrom
import PyProof.WalksMore
import PyProof.FactsAll.set_1
import PyProof.FactsBase
import PyProof.TableTree
import PyProof.FactsTree
import PyProof.PlainAttrs
import PyProof.TableCode
import PySem.Challenge.RW_learnyard_k60_texts
open List renaming mem_cons_of_mem → Qa, mem_cons_self → Qb, getElem?_eq_some_iff → Qc, length_cons → Qd, length_map → Qe, mem_cons → Qh, getElem?_eq_getElem → Qi, length_append → Qj, mem_of_getElem? → Qk, size_toArray → Ql, mem_map → Qm, getElem?_map → Qn, replicate → Qo, range → Qp, mem_append → Qq, mem_append_right → Qr, all_eq_true → Qs, mem_singleton → Qu, flatten_cons → Qw, length_singleton → Qx, getElem?_append_left → Qy, map_cons → Qz, mem_range → QA, append_nil → QB, pairwise_cons → QC, nodup_append → QD, lookup_cons → QF, filterMap_cons → QI, getElem?_append_right → QL, mem_append_left → QM, append_assoc → QN, mem_flatten → QQ, getElem_of_mem → QR, length_nil → QS, getElem_mem → QU, take_of_length_le → QV, length_range → QW, getElem?_eq_none → QX, nodup_cons → QY, length_drop → QZ, isEmpty_iff → Q0, length_eq_zero_iff → Q1, map_map → Q2, getElem?_eq_none_iff → Q3, pairwise_iff_getElem → Q5, take_append_drop → Q6, forall_mem_cons → Q9, replicate_succ → Jb, getElem?_set_self → Jc, toArray → Jd, length_take → Je, filter_cons → Jf, length_erase_of_mem → Jj, getElem?_range → Jl, range' → Jm, zip_cons_cons → Jn, find?_cons → Jo, map_append → Jp, getD → Jq
open Nat renaming le_refl → Qf, le_trans → Qt, lt_of_lt_of_le → Qv, ne_of_lt → QE, zero_le → QK, lt_irrefl → Q8, add_sub_cancel_left → Ja, le_succ → Jg, le_succ_of_le → Jh, mod_lt → Jk
open Bool renaming and_eq_true → Qg, false_eq_true → QG, eq_iff_iff → QP
open Classical renaming byContradiction → QH
open Option renaming some → QJ, map_eq_some_iff → QO, map_some → QT, isNone_iff_eq_none → Q4, bind_some → Q7, isSome_iff_exists → Ji
set_option Elab.async false
set_option linter.all false
set_option maxRecDepth 100000
namespace L2
open PySem PySem.Spec PyProof.Rows
abbrev Key:=Sum Int Str
def q9J:Key->Value->Bool
 | .inl k,v=>Value.isInt k v
 | .inr x,v=>Value.isStrOf x v
def keyH (w:World):Key->Int
 | .inl k=>hashInt k
 | .inr x=>hashStr w x
theorem q0O:∀{k:Key}{v:Value},q9J k v=true->(∃i t,k=Sum.inl i/\v=Value.int i t)\/(∃x t,k=Sum.inr x/\v=Value.str x t)
 | .inl i,v,h=>by obtain⟨t,e⟩:=Value.isInt_shape (k:=i) (v:=v) h;exact .inl ⟨i,t,rfl,e⟩
 | .inr x,v,h=>by obtain⟨t,e⟩:=Value.isStrOf_shape (x:=x) (v:=v) h;exact .inr ⟨x,t,rfl,e⟩
theorem q9u (i:Int) (t:Tok):q9J (.inl i) (.int i t)=true:=by simp[q9J,Value.isInt]
theorem q9v (x:Str) (t:Tok):q9J (.inr x) (.str x t)=true:=by simp[q9J,Value.isStrOf]
theorem qGG (a b:Int):decide ((Sum.inl a:Key)=Sum.inl b)=(a==b):=by
 by_cases e:a=b
 ·subst e;simp
 ·have h:¬(Sum.inl a:Key)=Sum.inl b:=λ q=>e (Sum.inl.inj q);rw[decide_eq_false h];exact (beq_eq_false_iff_ne.mpr e).symm
theorem qGH (a b:Str):decide ((Sum.inr a:Key)=Sum.inr b)=decide (a=b):=by
 by_cases e:a=b
 ·subst e;simp
 ·have h:¬(Sum.inr a:Key)=Sum.inr b:=λ q=>e (Sum.inr.inj q);rw[decide_eq_false h,decide_eq_false e]
theorem qGI (a:Int) (b:Str):decide ((Sum.inl a:Key)=Sum.inr b)=false:=decide_eq_false (λ q=>nomatch q)
theorem qGJ (a:Str) (b:Int):decide ((Sum.inr a:Key)=Sum.inl b)=false:=decide_eq_false (λ q=>nomatch q)
def q0u (prog:Program) (w:World):PySem.KeyKind prog w Key where
 is:=q9J
 hash:=keyH w
 inj:=λ v a b ha hb=>by
  rcases q0O ha with ⟨i,t,rfl,rfl⟩|⟨x,t,rfl,rfl⟩
  ·rcases q0O hb with ⟨j,u,rfl,e⟩|⟨y,u,rfl,e⟩
   ·injection e with e1 _;rw[e1]
   ·exact nomatch e
  ·rcases q0O hb with ⟨j,u,rfl,e⟩|⟨y,u,rfl,e⟩
   ·exact nomatch e
   ·injection e with e1 _;rw[e1]
 byValue:=λ k v h=>by rcases q0O h with ⟨i,t,rfl,rfl⟩|⟨x,t,rfl,rfl⟩<;>rfl
 pyHash:=λ hv h=>by
  rcases q0O hv with ⟨i,t,rfl,rfl⟩|⟨x,t,rfl,rfl⟩
  ·exact wpAny_pyHash_int h
  ·exact wpAny_pyHash_str h
 eqBool:=λ hu hv h=>by
  rcases q0O hu with ⟨i,t,rfl,rfl⟩|⟨x,t,rfl,rfl⟩
  ·rcases q0O hv with ⟨j,u,rfl,rfl⟩|⟨y,u,rfl,rfl⟩
   ·rw[qGG] at h;exact wpAny_eqBool_int h
   ·rw[qGI] at h;exact SeqAt.EqAt.int_str i t y u _ _ _ _ h
  ·rcases q0O hv with ⟨j,u,rfl,rfl⟩|⟨y,u,rfl,rfl⟩
   ·rw[qGJ] at h;exact SeqAt.EqAt.str_int x t j u _ _ _ _ h
   ·rw[qGH] at h;exact wpAny_eqBool_str h
 «strs»:=λ k x t v h=>by
  rcases q0O h with ⟨i,u,rfl,e⟩|⟨y,u,rfl,e⟩
  ·exact nomatch e
  ·injection e with e1 _
   subst e1;cases v<;>rfl
theorem q7P (prog:Program) (w:World) (i:Int) (t:Tok):(q0u prog w).is (.inl i) (.int i t)=true:=q9u i t
theorem q7Q (prog:Program) (w:World) (x:Str) (t:Tok):(q0u prog w).is (.inr x) (.str x t)=true:=q9v x t
end L2
namespace L2
open PySem PySem.Spec PyProof.Rows
variable {b:Addr}
inductive V where
 |non|bl (b:Bool)|int (i:Int)|str (x:Str)|byt (b:Array UInt8)|flt (b:UInt64)|ref (a:Addr)|ty (n:String)
 deriving DecidableEq
def RelV:V->Value->Prop
 | .non,u=>u=Value.none
 | .bl b,u=>u=Value.bool b
 | .int i,u=>∃t,u=Value.int i t
 | .str x,u=>∃t,u=Value.str x t
 | .byt b,u=>∃t,u=Value.bytes b t
 | .flt b,u=>∃t,u=Value.float b t
 | .ref a,u=>u=Value.ref a
 | .ty n,u=>u=Value.type n
abbrev Vals:List V->List Value->Prop:=Paired RelV
theorem Vals.length {xs:List V}{us:List Value}(r:Vals xs us):xs.length=us.length:=Paired.length r
theorem Vals.get:∀{xs:List V}{us:List Value}{i:Nat}{x:V},Vals xs us->xs[i]? = some x->∃u,us[i]? = some u/\RelV x u
 |_,_,_,_,.nil,e=>by simp at e
 |_,_,0,_,.cons r _,e=>by simp at e;subst e;exact⟨_,rfl,r⟩
 |_,_,i+1,x,.cons _ t,e=>by obtain⟨u,h1,h2⟩:=Vals.get (i:=i) (x:=x) t (by simpa using e);exact⟨u,by simpa using h1,h2⟩
theorem Vals.append:∀{xs ys:List V}{us ws:List Value},Vals xs us->Vals ys ws->Vals (xs++ys) (us++ws)
 |_,_,_,_,.nil,s=>s
 |_,_,_,_,.cons r t,s=> .cons r (Vals.append t s)
theorem Vals.take:∀{xs:List V}{us:List Value}(n:Nat),Vals xs us->Vals (xs.take n) (us.take n)
 |_,_,0,_=> .nil
 |_,_,_+1,.nil=> .nil
 |_,_,n+1,.cons r t=> .cons r (Vals.take n t)
theorem Vals.drop:∀{xs:List V}{us:List Value}(n:Nat),Vals xs us->Vals (xs.drop n) (us.drop n)
 |_,_,0,r=>r
 |_,_,_+1,.nil=> .nil
 |_,_,n+1,.cons _ t=>Vals.drop n t
theorem Vals.none_of:∀{xs:List V}{us:List Value}{i:Nat},Vals xs us->xs[i]? = none->us[i]? = none:=λ {xs us i} r e=>by have h1:=r.length;have h2:xs.length<=i:=Q3.mp e;exact Q3.mpr (by lia)
def RelO:Option V->Option Value->Prop
 |some v,some u=>RelV v u
 |none,none=>True
 |_,_=>False
def KV {κ:Type}:List (κ×V)->List (κ×Value)->Prop:=Paired λ (p:κ×V) (q:κ×Value)=>p.1=q.1/\RelV p.2 q.2
def kV:Key->V
 | .inl i=> .int i
 | .inr x=> .str x
inductive HO where
 /-- a list -/
 |lst (xs:List V)
 /-- a tuple (never changes) -/
 |tup (xs:List V)
 /-- a dict whose keys are ints and texts;one whose keys are tuples of ints and texts (the empty one is both) -/
 |dK (kvs:List (Key×V))|dT (kvs:List (List Key×V))
 /-- a set of ints: its members,its size -/
 |set (S:Int->Bool) (n:Nat)
 /-- an instance of the class at C,its dict at dx,its attributes -/
 |ins (C dx:Addr) (fs:List (Str×V))
 /-- the dict of the instance at x -/
 |own (x:Addr)
 /-- the dict of an exception -/
 |xd (fs:List (Str×V))
 /-- a bound method,f of x -/
 |met (f x:Addr)
 /-- a range object lo,lo+1,.. below hi -/
 |rng (lo hi:Int)
 /-- a thing that is known to the object (the script;a dict while a loop walks it): read,never written while it is so -/
 |frz (o:Obj) (u:HO)
 /-- a code object's table -/
 |tbl (ps:Array Value)
 /-- any other thing,by what is true of its one object (a def of one's own: SetO a S n:=HO.ext λ h=> ..) -/
 |ext (φ:Heap->Prop)
abbrev Hp:=Addr->Option HO
def upd (H:Hp) (a:Addr) (o:HO):Hp:=λ b=>if b=a then some o else H b
theorem q0M {H:Hp}{a:Addr}{o:HO}:upd H a o a=some o:=by unfold upd;rw[if_pos rfl]
theorem q05 {H:Hp}{a:Addr}{o:HO}(h:b≠a):upd H a o b=H b:=by unfold upd;rw[if_neg h]
theorem q0D {H:Hp}{a:Addr}{o:HO}(h:H a=some o) (h':H b=none):a≠b:=by intro e;subst e;rw[h] at h';cases h'
section
variable (P:Program) (w:World)
def q1P (H:Hp) (h:Heap) (a:Addr):HO->Prop
 | .lst xs=>xs.length<=sizeLine/\∃(its:List Value) (n:Nat),Vals xs its/\h.get? a=some {cls:= .type "list",data:= .seq its.toArray n}
 | .tup xs=>xs.length<=sizeLine/\∃its:List Value,Vals xs its/\IsTup h a its.toArray
 | .dK kvs=>kvs.length<=sizeLine/\(a==sysModules)=false/\∃vs,KV kvs vs/\h.DictOf (q0u P w) a vs
 | .dT kvs=>kvs.length<=sizeLine/\(a==sysModules)=false/\∃xs:List (List Key×Addr×Value),
   Paired (λ (p:List Key×V) (q:List Key×Addr×Value)=>p.1=q.1/\H q.2.1=some (.tup (p.1.map kV))/\RelV p.2 q.2.2) kvs xs/\
   ∃o es ep,h.get? a=some o/\o.ExactDict/\o.data = .dict es ep/\es.toList=xs.map (entryOfKey (tupleKind (q0u P w)))/\(xs.map (·.1)).Nodup
 | .set S n=>h.SetOf (intKind P w) a S n
 | .ins C dx fs=>H dx=some (.own a)/\fs.length<=1000/\dx≠a/\h.get? a=some (PySem.W.instObj C dx)/\
   ∃mA,h.Ns1 dx mA/\(∀f,RelO (fs.lookup f) (mA f))/\PySem.Within mA (fs.map (·.1))
 | .own _=>∃o,h.get? a=some o
 | .xd fs=>∃mA,h.Ns1 a mA/\∀f,RelO (fs.lookup f) (mA f)
 | .rng lo hi=>∃t u v,h.get? a=some {cls:= .type "range",data:= .fields #[.int lo t,.int hi u,.int 1 v]}
 | .frz o u=>h.get? a=some o/\q1P H h a u
 | .tbl ps=>h.get? a=some {cls:= .none,data:= .fields ps}
 | .met f x=>h.get? a=some (PySem.W.methodObj (.ref f) (.ref x))
 | .ext φ=>φ h/\(∃o,h.get? a=some o)/\∀h1 h2:Heap,φ h1->(∀o,h1.get? a=some o->h2.get? a=some o)->φ h2
def HOk (H:Hp) (h:Heap):Prop:=∀a o,H a=some o->q1P P w H h a o
end
section
variable {P:Program}{w:World}{H H':Hp}{h h':Heap}{a:Addr}{o:HO}
theorem q1P.lt (x:q1P P w H h a o):a<h.objs.size:=by
 cases o with
 |lst xs=>obtain⟨_,_,_,_,e⟩:=x;exact Heap.lt_size e
 |tup xs=>obtain⟨_,_,_,p⟩:=x;exact p.lt
 |dK kvs=>obtain⟨_,_,_,_,o,_,_,e,_⟩:=x;exact Heap.lt_size e
 |dT kvs=>obtain⟨_,_,_,_,o,_,_,e,_⟩:=x;exact Heap.lt_size e
 |set S n=>obtain⟨o,_,_,_,e,_⟩:=x;exact Heap.lt_size e
 |ins C dx fs=>obtain⟨_,_,_,e,_⟩:=x;exact Heap.lt_size e
 |own y=>obtain⟨_,e⟩:=x;exact Heap.lt_size e
 |xd fs=>obtain⟨_,⟨_,_,_,e,_⟩,_⟩:=x;exact Heap.lt_size e
 |rng lo hi=>obtain⟨_,_,_,e⟩:=x;exact Heap.lt_size e
 |frz ob u=>obtain⟨e,_⟩:=x;exact Heap.lt_size e
 |tbl ps=>exact Heap.lt_size (show h.get? a=some _ from x)
 |met f y=>exact Heap.lt_size (show h.get? a=some _ from x)
 |ext φ=>obtain⟨_,⟨_,e⟩,_⟩:=x;exact Heap.lt_size e
theorem Paired.mapP {α β:Type}{F G:α->β->Prop}:∀{l₁:List α}{l₂:List β},Paired F l₁ l₂->(∀a b,F a b->G a b)->Paired G l₁ l₂
 |_,_,.nil,_=> .nil
 |_,_,.cons r t,f=> .cons (f _ _ r) (Paired.mapP t f)
theorem q1P.stay (x:q1P P w H h a o) (k:∀b u,(b=a\/H b=some (.own a))->h.get? b=some u->h'.get? b=some u)
  (ho:∀b,H b=some (.own a)->H' b=some (.own a)) (ht:∀b xs,H b=some (.tup xs)->H' b=some (.tup xs)):q1P P w H' h' a o:=by
 induction o with
 |lst xs=>obtain⟨z,its,n,r,e⟩:=x;exact⟨z,its,n,r,k _ _ (.inl rfl) e⟩
 |tup xs=>obtain⟨z,its,r,ob,e,c⟩:=x;exact⟨z,its,r,ob,k _ _ (.inl rfl) e,c⟩
 |dK kvs=>obtain⟨z,y,vs,r,ob,es,ep,e,c⟩:=x;exact⟨z,y,vs,r,ob,es,ep,k _ _ (.inl rfl) e,c⟩
 |dT kvs =>
  obtain⟨z,y,xs,r,ob,es,ep,e,c⟩:=x;exact⟨z,y,xs,Paired.mapP r λ p q z=>⟨z.1,ht _ _ z.2.1,z.2.2⟩,ob,es,ep,k _ _ (.inl rfl) e,c⟩
 |set S n=>obtain⟨ob,es,ep,t,e,c⟩:=x;exact⟨ob,es,ep,t,k _ _ (.inl rfl) e,c⟩
 |ins C dx fs =>
  obtain⟨d,z,ne,e,mA,⟨od,es,ep,e2,c⟩,r⟩:=x;exact⟨ho _ d,z,ne,k _ _ (.inl rfl) e,mA,⟨od,es,ep,k _ _ (.inr d) e2,c⟩,r⟩
 |own y=>obtain⟨ob,e⟩:=x;exact⟨ob,k _ _ (.inl rfl) e⟩
 |xd fs=>obtain⟨mA,⟨od,es,ep,e,c⟩,r⟩:=x;exact⟨mA,⟨od,es,ep,k _ _ (.inl rfl) e,c⟩,r⟩
 |rng lo hi=>obtain⟨t,u,v,e⟩:=x;exact⟨t,u,v,k _ _ (.inl rfl) e⟩
 |frz ob u ih=>obtain⟨e,q⟩:=x;exact⟨k _ _ (.inl rfl) e,ih q⟩
 |tbl ps =>
  have e:h.get? a=some {cls:= .none,data:= .fields ps}:=x;show h'.get? a=some {cls:= .none,data:= .fields ps};exact k a _ (.inl rfl) e
 |met f y =>
  have e:h.get? a=some (PySem.W.methodObj (.ref f) (.ref y)):=x;show h'.get? a=some (PySem.W.methodObj (.ref f) (.ref y));exact k a _ (.inl rfl) e
 |ext φ=>obtain⟨p,⟨o,e⟩,st⟩:=x;exact⟨st _ _ p λ o q=>k _ _ (.inl rfl) q,⟨o,k _ _ (.inl rfl) e⟩,st⟩
theorem HOk.lt (x:HOk P w H h) (e:H a=some o):a<h.objs.size:=(x a o e).lt
theorem HOk.fresh (x:HOk P w H h) (e:h.objs.size<=a):H a=none:=by
 cases q:H a with
 |none=>rfl
 |some u=>exact absurd (Qv (x.lt q) e) (Q8 _)
theorem HOk.kept (x:HOk P w H h) (k:∀b u,h.get? b=some u->h'.get? b=some u):HOk P w H h':=λ a o e =>
 (x a o e).stay (λ b u _ q=>k b u q) (λ _ q=>q) λ _ _ q=>q
theorem HOk.laid (x:HOk P w H h) (k:∀b u,h.get? b=some u->h'.get? b=some u) (hp:h.objs.size<=a) (new:q1P P w (upd H a o) h' a o):HOk P w (upd H a o) h':=λ b u e=>by
 have hn:=x.fresh hp
 by_cases hb:b=a
 ·subst hb;rw[q0M] at e;cases e;exact new
 ·rw[q05 hb] at e;exact (x b u e).stay (λ c v _ q=>k c v q) (λ c q=>by rw[q05 (q0D q hn)];exact q) λ c xs q=>by rw[q05 (q0D q hn)];exact q
end
def Rd (H:Hp) (a:Addr) (u:HO):Prop:=H a=some u\/∃o,H a=some (.frz o u)
theorem Rd.ok {P:Program}{w:World}{H:Hp}{h:Heap}{a:Addr}{u:HO}(r:Rd H a u) (x:HOk P w H h):q1P P w H h a u:=by
 rcases r with r|⟨o,r⟩
 ·exact x a u r
 ·obtain⟨_,q⟩:=x a _ r;exact q
def Mut:Option HO->Prop
 |some (.lst _)=>True
 |some (.dK _)=>True
 |some (.dT _)=>True
 |some (.set _ _)=>True
 |some (.ins _ _ _)=>True
 |some (.ext _)=>True
 |_=>False
section
variable {P:Program}{w:World}{H:Hp}{h h':Heap}{x e:Addr}{o':HO}
theorem HOk.write (ok:HOk P w H h) (mu:Mut (H x)) (he:e=x\/H e=some (.own x)) (k:∀b u,b≠e->h.get? b=some u->h'.get? b=some u) (heo:∃u,h'.get? e=some u)
  (new:q1P P w (upd H x o') h' x o'):HOk P w (upd H x o') h':=λ b u q=>by
 have nown:∀c y,H c=some (.own y)->c≠x:=λ c y r z=>by subst z;rw[r] at mu;exact mu
 have ntup:∀c xs,H c=some (.tup xs)->c≠x:=λ c xs r z=>by subst z;rw[r] at mu;exact mu
 by_cases hb:b=x
 ·subst hb;rw[q0M] at q;cases q;exact new
 ·rw[q05 hb] at q
  by_cases hbe:b=e
  ·have q':H b=some (.own x):=by
    rcases he with z|z
    ·exact absurd (hbe.trans z) hb
    ·rw[hbe];exact z
   rw[q] at q';cases q';obtain⟨v,hv⟩:=heo;exact⟨v,by rw[hbe];exact hv⟩
  ·refine (ok b u q).stay (λ c v hc r=>k c v ?_ r) (λ c r=>by rw[q05 (nown c b r)];exact r) λ c xs r=>by rw[q05 (ntup c xs r)];exact r
   rcases hc with rfl|hc
   ·exact hbe
   ·rintro rfl;rcases he with z|z
    ·exact nown c b hc z
    ·rw[hc] at z;cases z;exact hb rfl
end
structure Un (fs ex:List Addr) (H H':Hp) (h h':Heap):Prop where
 keep:∀b o,h.get? b=some o->H b=none->b∉fs->b∉ex->h'.get? b=some o
 slot:∀b o,h.get? b=some o->H b=none->b∈fs->b∉ex->∃sl,h'.get? b=some {o with slots:=sl}
 free:∀b o,h.get? b=some o->H b=none->b∉ex->H' b=none
 there:∀b o,h.get? b=some o->b∉ex->∃o',h'.get? b=some o'
 tups:∀b xs,H b=some (.tup xs)->H' b=some (.tup xs)
 frzs:∀b o u,H b=some (.frz o u)->H' b=some (.frz o u)
 tbls:∀b ps,H b=some (.tbl ps)->∃more,H' b=some (.tbl (ps++more))
section
variable {fs fs' ex ex':List Addr}{H H1 H2:Hp}{h h1 h2 h':Heap}{a x e:Addr}{o:HO}
theorem Un.any (u:Un fs ex H H1 h h1) {ob:Obj}(q:h.get? b=some ob) (n:H b=none) (hx:b∉ex):∃sl,h1.get? b=some {ob with slots:=sl}:=by
 by_cases hb:b∈fs
 ·exact u.slot b ob q n hb hx
 ·exact⟨ob.slots,u.keep b ob q n hb hx⟩
theorem Un.kept (k:∀b u,h.get? b=some u->h'.get? b=some u):Un fs ex H H h h' :=
 ⟨λ b ob q _ _ _=>k b ob q,λ b ob q _ _ _=>⟨ob.slots,k b ob q⟩,λ _ _ _ n _=>n,λ b ob q _=>⟨ob,k b ob q⟩,λ _ _ q=>q,λ _ _ _ q=>q,λ _ ps q=>⟨#[],by rw[q];simp⟩⟩
theorem Un.refl:Un fs ex H H h h:=Un.kept λ _ _ q=>q
theorem Un.laid (k:∀b u,h.get? b=some u->h'.get? b=some u) (hp:h.objs.size<=a) (hn:H a=none):Un fs ex H (upd H a o) h h' where
 keep:=λ b u q _ _ _=>k b u q
 slot:=λ b u q _ _ _=>⟨u.slots,k b u q⟩
 free:=λ b u q n _=>by rw[q05 (QE (Qv (Heap.lt_size q) hp))];exact n
 there:=λ b u q _=>⟨u,k b u q⟩
 tups:=λ b xs q=>by rw[q05 (q0D q hn)];exact q
 frzs:=λ b u xs q=>by rw[q05 (q0D q hn)];exact q
 tbls:=λ b ps q=>⟨#[],by rw[q05 (q0D q hn),q];simp⟩
theorem Un.write (mu:Mut (H x)) (he:e=x\/H e=some (.own x)) (k:∀b u,b≠e->h.get? b=some u->h'.get? b=some u) (heo:∃u,h'.get? e=some u):Un fs ex H (upd H x o) h h':=by
 have hx:∀b,H b=none->b≠x:=λ b n z=>by subst z;rw[n] at mu;exact mu
 have hb:∀b,H b=none->b≠e:=λ b n z=>by
  subst z;rcases he with r|r
  ·exact hx b n r
  ·rw[n] at r;cases r
 have hm:∀b u,H b=some u->¬Mut (some u)->b≠x:=λ b u q nm z=>by subst z;rw[q] at mu;exact nm mu
 refine⟨λ b u q n _ _=>k b u (hb b n) q,λ b u q n _ _=>⟨u.slots,k b u (hb b n) q⟩,λ b u q n _=>by rw[q05 (hx b n)];exact n,λ b u q _=>?_,
  λ b xs q=>by rw[q05 (hm b _ q λ z=>z)];exact q,λ b u xs q=>by rw[q05 (hm b _ q λ z=>z)];exact q,λ b ps q=>⟨#[],by rw[q05 (hm b _ q λ z=>z),q];simp⟩⟩
 by_cases hbe:b=e
 ·subst hbe;exact heo
 ·exact⟨u,k b u hbe q⟩
end
def trk (h:Heap) (H:Hp):List Addr:=(Qp h.objs.size).filter λ a=>(H a).isSome
def hidT (h:Heap) (H:Hp):Heap:=PySem.W.hideAll h (trk h H)
theorem q9w (h:Heap) (H:Hp):(hidT h H).objs.size=h.objs.size:=PySem.W.hideAll_size _ _
theorem qBy {h:Heap}{H:Hp}{o:Obj}(e:h.get? b=some o) (n:H b=none):(hidT h H).get? b=some o :=
 PySem.W.hideAll_get _ e λ hm=>by have q:(H b).isSome=true:=(List.mem_filter.mp hm).2;rw[n] at q;simp at q
theorem qE8 {h:Heap}{H:Hp}{o:Obj}(e:(hidT h H).get? b=some o):h.get? b=some o/\H b=none:=by
 have e':h.get? b=some o:=PySem.W.of_hideAll (trk h H) e;refine⟨e',?_⟩;cases q:H b with
 |none=>rfl
 |some x =>
  have hm:b∈trk h H:=List.mem_filter.mpr ⟨QA.mpr (Heap.lt_size e'),by simp[q]⟩;have z:(hidT h H).get? b=none:=PySem.W.hideAll_none (trk h H) hm;rw[z] at e;cases e
end L2
namespace L2
open PySem PySem.Spec PyProof.Rows
variable {t' i:Nat}{ch:List Addr}{x:Str}{M:Model}{A:Around}{E:Value->Shared->Prop}
structure Mod (K:PySem.W.Frag) (mg:Str->Option Value) (base:Heap):Prop where
 kin:K.In base
 glob:base.Ns mainGlobals mg
 blt:∃mb,base.Ns builtinsNs mb/\∀x:Str,x ≠ "__name__"->mb x=bootBuiltins x
 nolimit:base.NoLimit
structure Cx where
 prog:Program
 w:World
 K:PySem.W.Frag
 mg:Str->Option Value
 base:Heap
 A:Around
 N:List Str
 s₀:Shared
 H₀:Hp
 env:Env
 outer:List Env
 stack:List Env
 ex:List Addr
 fn:Str->Bool
 calm:Bool
 pn:List (Addr×Obj)
 xe:Value->Shared->Prop
def frs (l:List Env):List Addr:=l.filterMap (·.frame)
abbrev Cx.fs (X:Cx):List Addr:=frs X.outer
def Vis (sc:Scope) (x:Str):Prop:=sc.names.lookup x=some .local\/sc.names.lookup x=some .cell\/sc.names.lookup x=some .free
def Loc (sc:Scope) (x:Str):Prop:=sc.names.lookup x=some .local\/sc.names.lookup x=some .cell
def Look (env:Env) (h:Heap) (m:Str->Option Value) (x:Str) (u:Value):Prop :=
 (env.kindOf x=some .local/\m x=some u)\/((env.kindOf x=some .cell\/env.kindOf x=some .free)/\∃c,env.cells.lookup x=some c/\h.IsCell c (some u))
structure Cx.Ok (X:Cx):Prop where
 mod:Mod X.K X.mg X.base
 kind:X.env.scope.kind = .function
 glob:X.env.globals=mainGlobals
 blt:X.env.builtins=builtinsNs
 above:X.s₀.heap.objs.size<=X.env.locals
 inj:∀x y c,X.env.cells.lookup x=some c->X.env.cells.lookup y=some c->x=y
 has:∀x,(X.env.kindOf x=some .cell\/X.env.kindOf x=some .free)->∃c,X.env.cells.lookup x=some c
 cab:∀x c,X.fn x=true->X.env.cells.lookup x=some c->X.s₀.heap.objs.size<=c
 hd:X.calm=true->X.A.handled=none
 frames:X.A.frames=some X.stack
 stk:X.stack=X.outer\/(X.stack=X.env::X.outer/\X.env.frame=some X.env.locals)
 exf:∀b∈X.ex,b≠X.env.locals/\∀x c,X.env.cells.lookup x=some c->c≠b
 bs:∀b o,X.base.get? b=some o->X.s₀.heap.get? b=some o/\X.H₀ b=none
 bsz:X.base.objs.size<=X.s₀.heap.objs.size
 noex:∀b o,X.base.get? b=some o->b∉X.ex
 exfs:∀b∈X.ex,b∉X.fs
 funs:X.s₀.heap.FunFrames X.base X.outer
 frf:∀b∈X.fs,X.H₀ b=none
structure Inv (X:Cx) (pins:List (Addr×Obj)) (σ:List (Option V)) (H:Hp) (s:Shared):Prop where
 ok:X.Ok
 os:s.os=X.s₀.os
 bare:AllBare s.gens
 base:Un X.fs X.ex X.H₀ H X.s₀.heap s.heap
 loc:∃m,s.heap.Ns X.env.locals m/\∀(i:Nat) (x:Str) (v:V),X.N[i]? = some x->σ[i]? = some (some v)->Vis X.env.scope x->∃u,RelV v u/\Look X.env s.heap m x u
 cell:∀x c,X.env.cells.lookup x=some c->∃v,s.heap.IsCell c v
 free:H X.env.locals=none
 freeC:∀x c,X.env.cells.lookup x=some c->H c=none
 pin:∀p∈X.pn++pins,s.heap.get? p.1=some p.2/\H p.1=none/\p.1≠X.env.locals/\p.1∉X.fs/\∀v,p.2.data ≠ .cell v
 hok:HOk X.prog X.w H s.heap
 len:σ.length=X.N.length
section
variable {X:Cx}{pins:List (Addr×Obj)}{σ:List (Option V)}{H H':Hp}{s:Shared}{h':Heap}
theorem Cx.Ok.nofr (ok:X.Ok) {b:Addr}{o:Obj}(e:X.base.get? b=some o):b∉X.fs:=λ hb=>by have:=(ok.funs.mem hb).1;rw[e] at this;cases this
theorem Inv.bs (I:Inv X pins σ H s):∀b o,X.base.get? b=some o->s.heap.get? b=some o/\H b=none:=λ b o e =>
 ⟨I.base.keep b o (I.ok.bs b o e).1 (I.ok.bs b o e).2 (I.ok.nofr e) (I.ok.noex b o e),I.base.free b o (I.ok.bs b o e).1 (I.ok.bs b o e).2 (I.ok.noex b o e)⟩
theorem Inv.bk (I:Inv X pins σ H s):∀b o,X.base.get? b=some o->s.heap.get? b=some o:=λ b o e=>(I.bs b o e).1
theorem Inv.mod (I:Inv X pins σ H s):Mod X.K X.mg X.base:=I.ok.mod
theorem Inv.kIn (I:Inv X pins σ H s):X.K.In s.heap:=I.ok.mod.kin.keeps I.bk
theorem Inv.fr (I:Inv X pins σ H s):∃m,Fr X.base X.env.locals s.heap m :=
 let ⟨m,hn,_⟩:=I.loc
 ⟨m,hn,I.bk,Qt I.ok.bsz I.ok.above⟩
theorem Inv.lt (I:Inv X pins σ H s):X.env.locals<s.heap.objs.size:=let ⟨_,hn,_⟩:=I.loc;hn.lt
theorem Inv.sz (I:Inv X pins σ H s):X.s₀.heap.objs.size<=s.heap.objs.size:=Qt I.ok.above (Nat.le_of_lt I.lt)
theorem Inv.nofs (I:Inv X pins σ H s) {a:Addr}(h:s.heap.objs.size<=a):a∉X.fs:=λ hb=>by obtain⟨_,o,ho,_⟩:=I.ok.funs.mem hb;exact absurd (Qv (Heap.lt_size ho) (Qt I.sz h)) (Q8 _)
theorem Inv.cne (I:Inv X pins σ H s):∀x c,X.env.cells.lookup x=some c->c≠X.env.locals:=λ x c e z=>by obtain⟨v,o,ho,hd⟩:=I.cell x c e;obtain⟨m,⟨o',es,ep,ho',hd',_⟩,_⟩:=I.loc;rw[z,ho'] at ho;cases ho;rw[hd'] at hd;cases hd
theorem Inv.funs (I:Inv X pins σ H s):s.heap.FunFrames X.base X.outer:=by
 have all:∀(l:List Env),(∀b∈frs l,b∈X.fs)->X.s₀.heap.FunFrames X.base l->s.heap.FunFrames X.base l:=by
  intro l
  induction l with
  |nil=>intro _ _;trivial
  |cons env r ih =>
   intro hs hl;obtain⟨hk,⟨L,o,hf,hn,ho,hd⟩,hr⟩:=hl;have hL:L∈X.fs:=hs L (by unfold frs;rw[QI,hf];exact Qb);obtain⟨sl,e⟩:=I.base.slot L o ho (I.ok.frf L hL) hL λ z=>I.ok.exfs L z hL;exact⟨hk,⟨L,_,hf,hn,e,hd⟩,ih (λ b hb=>hs b (by unfold frs;rw[QI,hf];exact Qa _ hb)) hr⟩
 exact all X.outer (λ _ hb=>hb) I.ok.funs
theorem Inv.stack (I:Inv X pins σ H s):s.heap.FunFrames X.base X.stack:=by
 rcases I.ok.stk with e|⟨e,hf⟩
 ·rw[e];exact I.funs
 ·rw[e];obtain⟨m,hn,_⟩:=I.loc;refine .cons (by rw[I.ok.kind];decide) hf hn ?_ I.funs;exact Heap.get?_none_of_le (Qt I.ok.bsz I.ok.above)
theorem Inv.q2L (I:Inv X pins σ H s):∀b∈frs X.stack,b∈X.env.locals::X.fs:=λ b hb=>by
 rcases I.ok.stk with e|⟨e,hf⟩
 ·rw[e] at hb;exact Qa _ hb
 ·rw[e] at hb;unfold frs at hb;rw[QI,hf] at hb;exact hb
theorem Inv.q7R (I:Inv X pins σ H s):∀b∈frs X.stack,H b=none:=λ b hb=>by
 rcases Qh.mp (I.q2L b hb) with e|hb
 ·rw[e];exact I.free
 ·obtain⟨_,o,ho,_⟩:=I.ok.funs.mem hb;exact I.base.free b o ho (I.ok.frf b hb) λ z=>I.ok.exfs b z hb
theorem Inv.step {g':Array GenState}{t':Nat}{d':Drawn}(I:Inv X pins σ H s)
  (hch:∀b∈ch,(b∈X.ex\/X.s₀.heap.objs.size<=b)/\b≠X.env.locals/\(∀x c,X.env.cells.lookup x=some c->c≠b)/\∀p∈X.pn++pins,p.1≠b)
  (keep:∀b o,b≠X.env.locals->b∉X.fs->b∉ch->s.heap.get? b=some o->H b=none->h'.get? b=some o)
  (slot:∀b o,b≠X.env.locals->b∈X.fs->b∉ch->s.heap.get? b=some o->H b=none->∃sl,h'.get? b=some {o with slots:=sl}) (free:∀b o,b∉ch->s.heap.get? b=some o->H b=none->H' b=none)
  (there:∀b o,b∉ch->s.heap.get? b=some o->∃o',h'.get? b=some o')
  (tups:∀b xs,H b=some (.tup xs)->H' b=some (.tup xs)) (frzs:∀b o u,H b=some (.frz o u)->H' b=some (.frz o u)) (tbls:∀b ps,H b=some (.tbl ps)->∃more,H' b=some (.tbl (ps++more)))
  (ns:∀m,s.heap.Ns X.env.locals m->h'.Ns X.env.locals m) (hok:HOk X.prog X.w H' h') (hg:AllBare g') :
  Inv X pins σ H' {s with heap:=h',gens:=g',drawn:=d',toks:=t'}:=by
 have neL:∀b o,X.s₀.heap.get? b=some o->b≠X.env.locals:=λ b o e=>QE (Qv (Heap.lt_size e) I.ok.above);have neC:∀b o,X.s₀.heap.get? b=some o->b∉X.ex->b∉ch:=λ b o e hx hb=>by
  rcases (hch b hb).1 with z|z
  ·exact hx z
  ·exact absurd (Qv (Heap.lt_size e) z) (Q8 _)
 have cellK:∀x c,X.env.cells.lookup x=some c->∀v,s.heap.IsCell c v->h'.IsCell c v:=λ x c e v ⟨o,ho,hd⟩=>by
  have nch:c∉ch:=λ z=>(hch c z).2.2.1 x c e rfl
  by_cases hc:c∈X.fs
  ·obtain⟨sl,q⟩:=slot c o (I.cne x c e) hc nch ho (I.freeC x c e);exact⟨_,q,hd⟩
  ·exact⟨o,keep c o (I.cne x c e) hc nch ho (I.freeC x c e),hd⟩
 refine⟨I.ok,I.os,hg,⟨λ b o e n hb hx=>?_,λ b o e n hb hx=>?_,λ b o e n hx=>?_,λ b o e hx=>?_,λ b xs e=>tups b xs (I.base.tups b xs e),λ b o xs e=>frzs b o xs (I.base.frzs b o xs e),λ b ps e=>?_⟩,?_,λ x c e=>?_,?_,λ x c e=>?_,λ p hp=>?_,hok,I.len⟩
 ·exact keep b o (neL b o e) hb (neC b o e hx) (I.base.keep b o e n hb hx) (I.base.free b o e n hx)
 ·obtain⟨sl,e1⟩:=I.base.slot b o e n hb hx;obtain⟨sl',e2⟩:=slot b _ (neL b o e) hb (neC b o e hx) e1 (I.base.free b o e n hx);exact⟨sl',e2⟩
 ·obtain⟨o',e1⟩:=I.base.there b o e hx;exact free b o' (neC b o e hx) e1 (I.base.free b o e n hx)
 ·obtain⟨o',e1⟩:=I.base.there b o e hx;exact there b o' (neC b o e hx) e1
 ·obtain⟨m1,e1⟩:=I.base.tbls b ps e;obtain⟨m2,e2⟩:=tbls b _ e1;exact⟨m1++m2,by rw[e2,Array.append_assoc]⟩
 ·obtain⟨m,hn,hl⟩:=I.loc;refine⟨m,ns m hn,λ i x v e1 e2 e3=>?_⟩;obtain⟨u,r,l⟩:=hl i x v e1 e2 e3;refine⟨u,r,?_⟩;rcases l with l|⟨k,c,e,z⟩
  ·exact .inl l
  ·exact .inr ⟨k,c,e,cellK x c e _ z⟩
 ·obtain⟨v,z⟩:=I.cell x c e;exact⟨v,cellK x c e v z⟩
 ·obtain⟨m,⟨o,_,_,ho,_⟩,_⟩:=I.loc;exact free _ o (λ z=>(hch _ z).2.1 rfl) ho I.free
 ·obtain⟨v,o,ho,hd⟩:=I.cell x c e;exact free c o (λ z=>(hch c z).2.2.1 x c e rfl) ho (I.freeC x c e)
 ·obtain⟨e,n,ne,nf,d⟩:=I.pin p hp;have nch:p.1∉ch:=λ z=>(hch p.1 z).2.2.2 p hp rfl;exact⟨keep p.1 p.2 ne nf nch e n,free p.1 p.2 nch e n,ne,nf,d⟩
theorem Inv.un {t':Nat}(I:Inv X pins σ H s) (u:Un X.fs [] H H' s.heap h') (hok:HOk X.prog X.w H' h'):Inv X pins σ H' {s with heap:=h',toks:=t'}:=by
 obtain⟨m,⟨o,es,ep,ho,r⟩,_⟩:=id I.loc;obtain⟨sl,hL⟩:=u.any ho I.free (by simp);exact I.step (g':=s.gens) (d':=s.drawn) (ch:=[]) (λ _ z=>nomatch z) (λ b o _ hb _ e n=>u.keep b o e n hb (by simp)) (λ b o _ hb _ e n=>u.slot b o e n hb (by simp)) (λ b o _ e n=>u.free b o e n (by simp)) (λ b o _ e=>u.there b o e (by simp)) u.tups u.frzs u.tbls (λ m' hm=>by obtain⟨o',es',ep',ho',r'⟩:=hm;rw[ho] at ho';cases ho';exact⟨_,es',ep',hL,r'⟩) hok I.bare
theorem Inv.call {g':Array GenState}{t':Nat}{d':Drawn}(I:Inv X pins σ H s) (u:Un (frs X.stack) ch H H' s.heap h') (hok:HOk X.prog X.w H' h') (hg:AllBare g')
  (hch:∀b∈ch,(b∈X.ex\/X.s₀.heap.objs.size<=b)/\b≠X.env.locals/\(∀x c,X.env.cells.lookup x=some c->c≠b)/\∀p∈X.pn++pins,p.1≠b) :
  Inv X pins σ H' {s with heap:=h',gens:=g',drawn:=d',toks:=t'}:=by
 obtain⟨m,⟨o,es,ep,ho,r⟩,_⟩:=id I.loc;obtain⟨sl,hL⟩:=u.any ho I.free λ z=>(hch _ z).2.1 rfl;exact I.step (ch:=ch) hch (λ b o hL hb hc e n=>u.keep b o e n (λ z=>(Qh.mp (I.q2L b z)).elim hL hb) hc) (λ b o _ _ hc e n=>u.any e n hc) (λ b o hc e n=>u.free b o e n hc) (λ b o hc e=>u.there b o e hc) u.tups u.frzs u.tbls (λ m' hm=>by obtain⟨o',es',ep',ho',r'⟩:=hm;rw[ho] at ho';cases ho';exact⟨_,es',ep',hL,r'⟩) hok hg
theorem Inv.turned {t':Nat}{it:Addr}(I:Inv X pins σ H s) (k:∀b o,b≠it->s.heap.get? b=some o->h'.get? b=some o) (hn:H it=none) (hL:it≠X.env.locals)
  (h1:it∈X.ex\/X.s₀.heap.objs.size<=it) (h2:∀x c,X.env.cells.lookup x=some c->c≠it) (h3:∀p∈X.pn++pins,p.1≠it):Inv X pins σ H {s with heap:=h',toks:=t'}:=by
 have nit:∀b u,H b=some u->b≠it:=λ b u e z=>by rw[z,hn] at e;cases e
 refine I.step (g':=s.gens) (d':=s.drawn) (ch:=[it]) (λ b hb=>?_) (λ b o _ _ hc e _=>k b o (λ z=>hc (by simp[z])) e) (λ b o _ _ hc e _=>⟨o.slots,k b o (λ z=>hc (by simp[z])) e⟩) (λ _ _ _ _ n=>n)
  (λ b o hc e=>⟨o,k b o (λ z=>hc (by simp[z])) e⟩) (λ _ _ e=>e) (λ _ _ _ e=>e) (λ b ps e=>⟨#[],by rw[e];simp⟩) (λ m hm=>?_) (λ b u e=>?_) I.bare
 ·have e:b=it:=by simpa using hb
  subst e;exact⟨h1,hL,h2,h3⟩
 ·obtain⟨o,es,ep,ho,r⟩:=hm;exact⟨o,es,ep,k _ o (Ne.symm hL) ho,r⟩
 ·refine (I.hok b u e).stay (λ c v hc q=>k c v ?_ q) (λ _ q=>q) λ _ _ q=>q;rcases hc with z|z
  ·rw[z];exact nit b u e
  ·exact nit c _ z
theorem Inv.tok (I:Inv X pins σ H s) (t:Nat):Inv X pins σ H {s with toks:=t}:=I.un (h':=s.heap) (t':=t) Un.refl I.hok
theorem Inv.kept {t':Nat}(I:Inv X pins σ H s) (k:∀b u,s.heap.get? b=some u->h'.get? b=some u):Inv X pins σ H {s with heap:=h',toks:=t'}:=I.un (Un.kept k) (I.hok.kept k)
theorem Inv.laid {a:Addr}{o:HO}{t':Nat}(I:Inv X pins σ H s) (k:∀b u,s.heap.get? b=some u->h'.get? b=some u) (hp:s.heap.objs.size<=a) (new:q1P X.prog X.w (upd H a o) h' a o) :
  Inv X pins σ (upd H a o) {s with heap:=h',toks:=t'}:=I.un (Un.laid k hp (I.hok.fresh hp)) (I.hok.laid k hp new)
theorem Inv.write {x e:Addr}{o:HO}{t':Nat}(I:Inv X pins σ H s) (mu:Mut (H x)) (he:e=x\/H e=some (.own x)) (k:∀b u,b≠e->s.heap.get? b=some u->h'.get? b=some u) (heo:∃u,h'.get? e=some u)
  (new:q1P X.prog X.w (upd H x o) h' x o):Inv X pins σ (upd H x o) {s with heap:=h',toks:=t'}:=I.un (Un.write mu he k heo) (I.hok.write mu he k heo new)
theorem Inv.weak {σ':List (Option V)}(I:Inv X pins σ H s) (hl:σ'.length=σ.length) (w:∀(i:Nat) v,σ'[i]? = some (some v)->σ[i]? = some (some v)):Inv X pins σ' H s :=
 ⟨I.ok,I.os,I.bare,I.base,let ⟨m,hn,hl'⟩:=I.loc;⟨m,hn,λ i x v e1 e2 e3=>hl' i x v e1 (w i v e2) e3⟩,I.cell,I.free,I.freeC,I.pin,I.hok,hl.trans I.len⟩
theorem Inv.q44 {pins':List (Addr×Obj)}(I:Inv X pins σ H s) (h:∀p∈pins',s.heap.get? p.1=some p.2/\H p.1=none/\p.1≠X.env.locals/\p.1∉X.fs/\∀v,p.2.data ≠ .cell v):Inv X pins' σ H s :=
 ⟨I.ok,I.os,I.bare,I.base,I.loc,I.cell,I.free,I.freeC,λ p hp=>(Qq.mp hp).elim (λ z=>I.pin p (QM _ z)) (h p),I.hok,I.len⟩
theorem q5M {N:List Str}(hN:N.Nodup) {j:Nat}(a:N[i]? = some x) (b:N[j]? = some x):i=j:=by obtain⟨h1,e1⟩:=Qc.mp a;obtain⟨h2,e2⟩:=Qc.mp b;exact (List.getElem_inj hN).mp (e1.trans e2.symm)
theorem q9x {M:Model}{A:Around}{E:Value->Shared->Prop}{v:V}{u:Value}{Q:Unit->Shared->Prop}(I:Inv X pins σ H s) (hN:X.N.Nodup) (hi:X.N[i]? = some x) (hx:Loc X.env.scope x) (r:RelV v u)
  (h:∀s',Inv X pins (σ.set i (some v)) H s'->(∃a,Heap.SameBut a s.heap s'.heap/\(a=X.env.locals\/X.env.cells.lookup x=some a))->Q () s') (hf:X.fn x=true\/X.env.scope.names.lookup x=some .local:=by first|exact .inl rfl|exact .inr rfl|assumption):wpAny M A (storeName X.env x u) Q E s:=by
 obtain⟨m,hn,hl⟩:=id I.loc;have hcls:(X.env.scope.kind == .class || (X.env.scope.kind == .module&&X.env.locals != X.env.globals))=false:=by rw[I.ok.kind];rfl
 have hiσ:i < σ.length:=by rw[I.len];exact (Qc.mp hi).1
 have cne:=I.cne;have tracked:∀{a:Addr}{h':Heap},(∃o,s.heap.get? a=some o/\H a=none)->Heap.SameBut a s.heap h'->HOk X.prog X.w H h':=λ {a h'} ha hs b ob e=>by
  obtain⟨_,_,hfree⟩:=ha;refine (I.hok b ob e).stay (λ c w' hc q=>(hs.2 c ?_).trans q) (λ _ q=>q) λ _ _ q=>q;rintro rfl;rcases hc with rfl|hc
  ·rw[hfree] at e;cases e
  ·rw[hfree] at hc;cases hc
 rcases hx with hk|hk
 ·refine wpAny_storeName_local hk hn (λ h' hn' hs=>?_) hcls;obtain⟨oL,_,_,hoL,_⟩:=id hn;refine h _ ⟨I.ok,I.os,I.bare,⟨λ b o e n hb hx=>?_,λ b o e n hb hx=>?_,I.base.free,λ b o e hx=>?_,I.base.tups,I.base.frzs,I.base.tbls⟩,⟨_,hn',λ j y v' e1 e2 e3=>?_⟩,λ y c e=>?_,I.free,I.freeC,λ p hp=>?_,tracked ⟨oL,hoL,I.free⟩ hs,by simpa using I.len⟩ ⟨_,hs,.inl rfl⟩
  ·exact (hs.2 b (QE (Qv (Heap.lt_size e) I.ok.above))).trans (I.base.keep b o e n hb hx)
  ·obtain⟨sl,e1⟩:=I.base.slot b o e n hb hx;exact⟨sl,(hs.2 b (QE (Qv (Heap.lt_size e) I.ok.above))).trans e1⟩
  ·obtain⟨o',e1⟩:=I.base.there b o e hx;exact⟨o',(hs.2 b (QE (Qv (Heap.lt_size e) I.ok.above))).trans e1⟩
  ·by_cases hj:j=i
   ·subst hj;rw[hi] at e1;cases e1;rw[Jc hiσ] at e2;cases e2;exact⟨u,r,.inl ⟨hk,by simp⟩⟩
   ·rw[List.getElem?_set_ne (Ne.symm hj)] at e2;obtain⟨u',r',q⟩:=hl j y v' e1 e2 e3;refine⟨u',r',?_⟩;rcases q with ⟨k,e⟩|⟨k,c,e,z⟩
    ·refine .inl ⟨k,?_⟩;have:y≠x:=λ e=>hj (q5M hN e1 (e▸hi));simp[this,e]
    ·exact .inr ⟨k,c,e,z.sameBut hs (cne y c e)⟩
  ·obtain⟨w',z⟩:=I.cell y c e;exact⟨w',z.sameBut hs (cne y c e)⟩
  ·obtain⟨e,n,ne,nf,d⟩:=I.pin p hp;exact⟨(hs.2 p.1 ne).trans e,n,ne,nf,d⟩
 ·have hfn:X.fn x=true:=by
   rcases hf with z|z
   ·exact z
   ·rw[z] at hk;cases hk
  obtain⟨c,hc⟩:=I.ok.has x (.inl hk);obtain⟨w',z⟩:=I.cell x c hc;refine wpAny_storeName_cell I.ok.kind hk hc z (λ h' hc' hs=>?_);obtain⟨oc,hoc,hocd⟩:=id z;refine h {s with heap:=h'} ⟨I.ok,I.os,I.bare,⟨λ b o e n hb hx=>?_,λ b o e n hb hx=>?_,I.base.free,λ b o e hx=>?_,I.base.tups,I.base.frzs,I.base.tbls⟩,⟨m,hn.sameBut hs (Ne.symm (cne x c hc)),λ j y v' e1 e2 e3=>?_⟩,λ y c' e=>?_,I.free,I.freeC,λ p hp=>?_,tracked ⟨oc,hoc,I.freeC x c hc⟩ hs,by simpa using I.len⟩ ⟨c,hs,.inr hc⟩
  ·exact (hs.2 b (QE (Qv (Heap.lt_size e) (I.ok.cab x c hfn hc)))).trans (I.base.keep b o e n hb hx)
  ·obtain⟨sl,e1⟩:=I.base.slot b o e n hb hx;exact⟨sl,(hs.2 b (QE (Qv (Heap.lt_size e) (I.ok.cab x c hfn hc)))).trans e1⟩
  ·obtain⟨o',e1⟩:=I.base.there b o e hx;exact⟨o',(hs.2 b (QE (Qv (Heap.lt_size e) (I.ok.cab x c hfn hc)))).trans e1⟩
  ·by_cases hj:j=i
   ·subst hj;rw[hi] at e1;cases e1;rw[Jc hiσ] at e2;cases e2;exact⟨u,r,.inr ⟨.inl hk,c,hc,hc'⟩⟩
   ·rw[List.getElem?_set_ne (Ne.symm hj)] at e2;obtain⟨u',r',q⟩:=hl j y v' e1 e2 e3;refine⟨u',r',?_⟩;rcases q with q|⟨k,c',e,z'⟩
    ·exact .inl q
    ·refine .inr ⟨k,c',e,z'.sameBut hs ?_⟩;rintro rfl;exact hj (q5M hN e1 (I.ok.inj _ _ _ e hc▸hi))
  ·by_cases hcc:c'=c
   ·subst hcc;exact⟨_,hc'⟩
   ·obtain⟨w2,z2⟩:=I.cell y c' e;exact⟨w2,z2.sameBut hs hcc⟩
  ·obtain⟨e,n,ne,nf,d⟩:=I.pin p hp;refine⟨(hs.2 p.1 ?_).trans e,n,ne,nf,d⟩;intro q;rw[q,hoc] at e;have q':oc=p.2:=QJ.inj e;exact d w' (by rw[<-q'];exact hocd)
theorem q1K {M:Model}{A:Around}{E:Value->Shared->Prop}{v:V}{u:Value}{Q:Unit->Shared->Prop}(I:Inv X pins σ H s) (hN:X.N.Nodup) (hi:X.N[i]? = some x) (hx:Loc X.env.scope x) (r:RelV v u)
  (h:∀s',Inv X pins (σ.set i (some v)) H s'->Q () s') (hf:X.fn x=true\/X.env.scope.names.lookup x=some .local:=by first|exact .inl rfl|exact .inr rfl|assumption):wpAny M A (storeName X.env x u) Q E s :=
 q9x I hN hi hx r (λ s' I' _=>h s' I') hf
theorem Inv.qE9 {s':Shared}(I:Inv X pins σ H s) (ho:s'.os=s.os) (u:Un (frs X.stack) ch H H' s.heap s'.heap) (hok:HOk X.prog X.w H' s'.heap) (hg:AllBare s'.gens)
  (hch:∀b∈ch,(b∈X.ex\/X.s₀.heap.objs.size<=b)/\b≠X.env.locals/\(∀x c,X.env.cells.lookup x=some c->c≠b)/\∀p∈X.pn++pins,p.1≠b):Inv X pins σ H' s':=by
 obtain⟨h',g',d',t',o'⟩:=s';have e:o'=s.os:=ho;subst e;exact I.call (g':=g') (t':=t') (d':=d') u hok hg hch
end
abbrev XK:=Value->Option Addr->Hp->Prop
abbrev St:=List (Option V)
abbrev VK:=V->Hp->Prop
def EP (X:Cx) (pins:List (Addr×Obj)) (σ:St) (Q:VK) (u:Value) (s':Shared):Prop:=∃v H',Inv X pins σ H' s'/\RelV v u/\Q v H'
def TP (X:Cx) (pins:List (Addr×Obj)) (σ:St) (Q:Bool->Hp->Prop) (b:Bool) (s':Shared):Prop:=∃H',Inv X pins σ H' s'/\Q b H'
theorem thn {α:Type}{t:Sem α}{Q Q':α->Shared->Prop}{s:Shared}(h:wpAny M A t Q E s) (hQ:∀a s,Q a s->Q' a s):wpAny M A t Q' E s:=wpAny_mono h hQ λ _ _ x=>x
end L2
namespace L2
open PySem PySem.Spec PyProof.Rows
section
variable {X:Cx}
def Gl (X:Cx) (x:Str):Prop:=X.env.kindOf x=some .globalImplicit
theorem q1w {E:Value->Shared->Prop}{pins:List (Addr×Obj)}{s:Shared}{σ:St}{H:Hp}{x:Str}{u:Value}{pos:Pos}{Q:Value->Shared->Prop}(I:Inv X pins σ H s) (hg:Gl X x) (hm:X.mg x=some u) (h:Q u s)
  (hd:(x==("__debug__":Str))=false:=by decide):wpAny (model X.prog X.w) X.A (eval (.Name x pos) X.env) Q E s :=
 Calls.Name_function_global I.ok.kind hg (Calls.loadGlobal_global (by rw[I.ok.glob];exact I.mod.glob.keeps I.bk) hm h) hd
theorem q1r {E:Value->Shared->Prop}{pins:List (Addr×Obj)}{s:Shared}{σ:St}{H:Hp}{x:Str}{u:Value}{pos:Pos}{Q:Value->Shared->Prop}(I:Inv X pins σ H s) (hg:Gl X x) (hm:X.mg x=none) (hv:bootBuiltins x=some u) (h:Q u s)
  (hn:x ≠ "__name__":=by decide) (hd:(x==("__debug__":Str))=false:=by decide):wpAny (model X.prog X.w) X.A (eval (.Name x pos) X.env) Q E s:=by
 obtain⟨mb,h1,h2⟩:=I.mod.blt;exact Calls.Name_function_global I.ok.kind hg (Calls.loadGlobal_builtin (by rw[I.ok.glob];exact I.mod.glob.keeps I.bk) hm (by rw[I.ok.blt];exact h1.keeps I.bk) ((h2 x hn).trans hv) h) hd
variable {a b:Expr}{ta tb:TE}{pos:Pos}
variable {tA tB':TT}{rest:List Expr}
end
end L2
namespace L2
open PySem PySem.Spec PyProof.Rows
variable {K:PySem.W.Frag}{tg:Expr}{P:Program}{w:World}
def SqL (K:PySem.W.Frag) (H:Hp) (a:Addr) (xs:List V):Prop :=
 Rd H a (.lst xs)\/
  ∃(o:Obj) (its:Array Value) (n:Nat),K.lookup a=some o/\o.cls = .type "list"/\o.dict=none/\o.data = .seq its n/\its.size<=sizeLine/\Vals xs its.toList
def SqT (K:PySem.W.Frag) (H:Hp) (a:Addr) (xs:List V):Prop :=
 Rd H a (.tup xs)\/
  ∃(o:Obj) (its:Array Value) (n:Nat),K.lookup a=some o/\o.cls = .type "tuple"/\o.data = .seq its n/\its.size<=sizeLine/\Vals xs its.toList
def absV:Value->Option V
 | .none=>some .non
 | .bool b=>some (.bl b)
 | .int i _=>some (.int i)
 | .str x _=>some (.str x)
 | .bytes b _=>some (.byt b)
 | .float b _=>some (.flt b)
 | .ref a=>some (.ref a)
 | .type n=>some (.ty n)
 |_=>none
theorem RelV.abs {x:V}{u:Value}(r:RelV x u):absV u=some x:=by
 cases x with
 |non=>cases r;rfl
 |bl _=>cases r;rfl
 |int _=>obtain⟨t,rfl⟩:=r;rfl
 |str _=>obtain⟨t,rfl⟩:=r;rfl
 |byt _=>obtain⟨t,rfl⟩:=r;rfl
 |flt _=>obtain⟨t,rfl⟩:=r;rfl
 |ref _=>cases r;rfl
 |ty _=>cases r;rfl
theorem RelV.inj {x y:V}{u:Value}(r:RelV x u) (q:RelV y u):x=y:=QJ.inj (r.abs.symm.trans q.abs)
theorem Vals.inj:∀{xs ys:List V}{us:List Value},Vals xs us->Vals ys us->xs=ys
 |_,_,_,.nil,.nil=>rfl
 |_,_,_,.cons r t,.cons r' t'=>by rw[r.inj r',Vals.inj t t']
section
variable {X:Cx}{pins:List (Addr×Obj)}{σ:St}{H:Hp}{s:Shared}{a:Addr}{xs ys:List V}
theorem SqL.of (h:H a=some (.lst xs)):SqL K H a xs:= .inl (.inl h)
theorem SqT.of (h:H a=some (.tup xs)):SqT K H a xs:= .inl (.inl h)
theorem Inv.list (I:Inv X pins σ H s) (h:SqL X.K H a xs):∃its:List Value,Vals xs its/\PlainL s.heap a its.toArray/\xs.length<=sizeLine:=by
 rcases h with h|⟨o,its,n,hk,hc,hd,hs,hz,r⟩
 ·obtain⟨z,its,n,r,e⟩:=h.ok I.hok;exact⟨its,r,⟨_,n,e,rfl,rfl,rfl⟩,z⟩
 ·refine⟨its.toList,r,⟨o,n,I.kIn a o hk,hc,hd,by simpa using hs⟩,?_⟩;have e:=r.length;simp only[Array.length_toList] at e;lia
theorem Inv.tuple (I:Inv X pins σ H s) (h:SqT X.K H a xs):∃its:List Value,Vals xs its/\IsTup s.heap a its.toArray/\xs.length<=sizeLine:=by
 rcases h with h|⟨o,its,n,hk,hc,hs,hz,r⟩
 ·obtain⟨z,its,r,p⟩:=h.ok I.hok;exact⟨its,r,p,z⟩
 ·refine⟨its.toList,r,⟨o,I.kIn a o hk,hc,n,by simpa using hs⟩,?_⟩;have e:=r.length;simp only[Array.length_toList] at e;lia
theorem Inv.qBz (I:Inv X pins σ H s) (h:SqL X.K H a xs) (h':SqL X.K H a ys):xs=ys:=by
 obtain⟨its,r,⟨o,n,e,_,_,d⟩,_⟩:=I.list h;obtain⟨its',r',⟨o',n',e',_,_,d'⟩,_⟩:=I.list h';rw[e] at e';cases e';rw[d] at d';injection d' with d1 _
 have:its=its':=by simpa using congrArg Array.toList d1
 subst this;exact r.inj r'
theorem Inv.q9y (I:Inv X pins σ H s) (h:SqT X.K H a xs) (h':SqT X.K H a ys):xs=ys:=by
 obtain⟨its,r,⟨o,e,_,n,d⟩,_⟩:=I.tuple h;obtain⟨its',r',⟨o',e',_,n',d'⟩,_⟩:=I.tuple h';rw[e] at e';cases e';rw[d] at d';injection d' with d1 _
 have:its=its':=by simpa using congrArg Array.toList d1
 subst this;exact r.inj r'
end
abbrev Cx.wish (X:Cx) (E:Value->Shared->Prop):Cx:={X with xe:=E}
theorem Cx.Ok.wish {X:Cx}(ok:X.Ok) (E:Value->Shared->Prop):(X.wish E).Ok :=
 ⟨ok.mod,ok.kind,ok.glob,ok.blt,ok.above,ok.inj,ok.has,ok.cab,ok.hd,ok.frames,ok.stk,ok.exf,ok.bs,ok.bsz,ok.noex,ok.exfs,ok.funs,ok.frf⟩
theorem Cx.Ok.q45 {X:Cx}{E:Value->Shared->Prop}(ok:(X.wish E).Ok):X.Ok :=
 ⟨ok.mod,ok.kind,ok.glob,ok.blt,ok.above,ok.inj,ok.has,ok.cab,ok.hd,ok.frames,ok.stk,ok.exf,ok.bs,ok.bsz,ok.noex,ok.exfs,ok.funs,ok.frf⟩
section
variable {X:Cx}{pins:List (Addr×Obj)}{σ:St}{H:Hp}{s:Shared}{E:Value->Shared->Prop}
theorem Inv.wish (I:Inv X pins σ H s) (E:Value->Shared->Prop):Inv (X.wish E) pins σ H s:=⟨I.ok.wish E,I.os,I.bare,I.base,I.loc,I.cell,I.free,I.freeC,I.pin,I.hok,I.len⟩
theorem Inv.q45 (I:Inv (X.wish E) pins σ H s):Inv X pins σ H s:=⟨I.ok.q45,I.os,I.bare,I.base,I.loc,I.cell,I.free,I.freeC,I.pin,I.hok,I.len⟩
end
section
variable {X:Cx}{st:Stmt}{rest:List Stmt}{t u:TS}{e:Expr}{te:TE}{pos:Pos}
theorem Inv.quiet {pins:List (Addr×Obj)}{σ:St}{H:Hp}{s:Shared}(I:Inv X pins σ H s):interactive X.env=false:=by simp[interactive,I.ok.kind]
end
abbrev TG:=V->St->Hp->(St->Hp->Prop)->Prop
abbrev TGs:=List V->St->Hp->(St->Hp->Prop)->Prop
def PG (X:Cx) (target:Expr) (t:TG):Prop :=
 ∀(pins:List (Addr×Obj)) (s:Shared) (σ:St) (H:Hp) (v:V) (u:Value) (Q:St->Hp->Prop),Inv X pins σ H s->RelV v u->t v σ H Q->
  wpAny (model X.prog X.w) X.A (assign target X.env u) (λ _ s'=>∃σ' H',Inv X pins σ' H' s'/\Q σ' H') X.xe s
def PGs (X:Cx) (ts:List Expr) (t:TGs):Prop :=
 ∀(pins:List (Addr×Obj)) (s:Shared) (σ:St) (H:Hp) (vs:List V) (us:List Value) (Q:St->Hp->Prop),Inv X pins σ H s->Vals vs us->t vs σ H Q->
  wpAny (model X.prog X.w) X.A (assignInOrder ((assignEach ts X.env).map (·.2)) us) (λ _ s'=>∃σ' H',Inv X pins σ' H' s'/\Q σ' H') X.xe s
section
variable {X:Cx}{pos:Pos}
def qIv (i:Nat):TG:=λ v σ H Q=>Q (σ.set i (some v)) H
theorem q5N {i:Nat}{x:Str}(hN:X.N.Nodup) (hi:X.N[i]? = some x) (hx:Loc X.env.scope x) (hf:X.fn x=true\/X.env.scope.names.lookup x=some .local:=by first|exact .inl rfl|exact .inr rfl|assumption):PG X (.Name x pos) (qIv i):=by intro pins s σ H v u Q I r h;exact wpAny_assign_Name (q1K I hN hi hx r (λ s' I'=>⟨_,H,I',h⟩) hf)
def gNil:TGs:=λ vs σ H Q=>vs=[]/\Q σ H
def qIw (t:TG) (u:TGs):TGs:=λ vs σ H Q=>∃v r,vs=v::r/\t v σ H λ σ' H'=>u r σ' H' Q
theorem q9z:PGs X [] gNil:=by intro pins s σ H vs us Q I r h;obtain⟨e,h⟩:=h;subst e;cases r;exact assignInOrder_nil ⟨σ,H,I,h⟩
theorem q3o {e:Expr}{es:List Expr}{t:TG}{u:TGs}(h1:PG X e t) (h2:PGs X es u)
  (hs:(assignEach (e::es) X.env).map (·.2)=assign e X.env::(assignEach es X.env).map (·.2):=by rfl):PGs X (e::es) (qIw t u):=by
 intro pins s σ H vs us Q I r h;obtain⟨v,vr,e1,h⟩:=h;subst e1;cases r with
 |cons r rr =>
  rw[hs];refine assignInOrder_cons (thn (h1 pins s σ H _ _ _ I r h) λ _ s1 ⟨σ1,H1,I1,q1⟩=>?_);exact h2 pins s1 σ1 H1 _ _ Q I1 rr q1
def gTup (K:PySem.W.Frag) (n:Nat) (t:TGs):TG:=λ v σ H Q=>∃a xs,v = .ref a/\SqT K H a xs/\xs.length=n/\t xs σ H Q
theorem qDW {es:List Expr}{k:Nat}{t:TGs}{n:Nat}(hc:X.calm=true) (h:PGs X es t)
  (hn:(assignEach es X.env).length=n:=by rfl) (hst:(assignEach es X.env).findIdx? (·.1)=none:=by rfl):PG X (.Tuple es k pos) (gTup X.K n t):=by
 intro pins s σ H v u Q I r hw;obtain⟨a,xs,e1,hq,hl,hw⟩:=hw;subst e1;cases r;obtain⟨its,rv,ht,hz⟩:=I.tuple hq;refine assign_Tuple_tuple (I.ok.hd hc) ht (by simp[hn,<-hl,rv.length]) hst λ h' hx=>?_;have I1:Inv X pins σ H {s with heap:=h'}:=I.kept (t':=s.toks) λ b o e=>hx b o (QE (Heap.lt_size e)) e;exact h pins _ σ H xs _ Q I1 (by simpa using rv) hw
end
structure It where
 go:Nat->Hp->Prop
 yld:Nat->Hp->V->Hp->Prop
 stop:Nat->Hp->Prop
def FpOk (X:Cx) (pins:List (Addr×Obj)) (H:Hp) (b:Addr):Prop :=
 H b=none/\b≠X.env.locals/\b∉X.fs/\(b∈X.ex\/X.s₀.heap.objs.size<=b)/\(∀x c,X.env.cells.lookup x=some c->c≠b)/\∀p∈X.pn++pins,p.1≠b
theorem Inv.fpOk {X:Cx}{pins:List (Addr×Obj)}{σ:St}{H H':Hp}{s:Shared}{b:Addr}(I:Inv X pins σ H s) (hb:s.heap.objs.size<=b) (hn:H' b=none):FpOk X pins H' b:=by
 refine⟨hn,Nat.ne_of_gt (Qv I.lt hb),I.nofs hb,.inr (Qt I.sz hb),λ x c e z=>?_,λ p hp z=>?_⟩
 ·obtain⟨v,q⟩:=I.cell x c e;exact absurd (Qv q.lt (by rw[z];exact hb)) (Q8 _)
 ·exact absurd (Qv (Heap.lt_size (I.pin p hp).1) (by rw[z];exact hb)) (Q8 _)
structure Turn (P:Program) (w:World) (K:PySem.W.Frag) (tg:Expr) (J:It) (fp:List Addr) (it:Addr) (tn:Nat->Heap->Prop):Prop where
 mem:it∈fp
 obj:∀i h,tn i h->∀b∈fp,∃o,h.get? b=some o/\∀v,o.data ≠ .cell v
 keep:∀i h h',tn i h->(∀b∈fp,∀o,h.get? b=some o->h'.get? b=some o)->tn i h'
 item:∀(X:Cx),X.prog=P->X.w=w->X.K=K->X.calm=true->∀(i:Nat) (pins:List (Addr×Obj)) (s:Shared) (σ:St) (H:Hp) (E:Value->Shared->Prop),Inv X pins σ H s->(∀b∈fp,FpOk X pins H b)->tn i s.heap->J.go i H->
  wpAny (model P w) X.A (pyNext (.ref it)) (λ r s1=>∃u,r=some u/\
   wpAny (model P w) X.A (letOwnedTupleGo tg (.ref it) u) (λ _ s2=>∃x H',Inv X pins σ H' s2/\RelV x u/\J.yld i H x H'/\tn (i+1) s2.heap/\∀b∈fp,H' b=none) E s1) E s
 done:∀(X:Cx),X.prog=P->X.w=w->X.K=K->X.calm=true->∀(i:Nat) (pins:List (Addr×Obj)) (s:Shared) (σ:St) (H:Hp) (E:Value->Shared->Prop),Inv X pins σ H s->(∀b∈fp,FpOk X pins H b)->tn i s.heap->J.stop i H->
  wpAny (model P w) X.A (pyNext (.ref it)) (λ r s1=>r=none/\Inv X pins σ H s1) E s
 self:∀(A:Around) (i:Nat) (s:Shared) (Q:Value->Shared->Prop) (E:Value->Shared->Prop),tn i s.heap->Q (.ref it) s->wpAny (model P w) A (pyIter (.ref it)) Q E s
def PIE (X:Cx) (pins:List (Addr×Obj)) (σ:St) (tg:Expr) (R:It->Hp->Prop) (itv:Value) (s2:Shared):Prop :=
 ∃(it:Addr) (fp:List Addr) (tn:Nat->Heap->Prop) (J:It) (H':Hp),itv = .ref it/\Inv X pins σ H' s2/\Turn X.prog X.w X.K tg J fp it tn/\tn 0 s2.heap/\(∀b∈fp,FpOk X pins H' b)/\R J H'
theorem qA0 {M:Model}{A:Around}{E:Value->Shared->Prop}{s:Shared}{it:Addr}{u:Value}{o:Obj}{n:String}{vs:Array Value}{Q:Unit->Shared->Prop}(ho:s.heap.get? it=some o) (hc:o.cls = .type n) (hd:o.data = .fields vs)
  (hn:["enumerate", "zip", "dict_itemiterator", "dict_reverseitemiterator", "odict_iterator", "itertools.zip_longest", "itertools.pairwise"].contains n=false) (hQ:Q () s):wpAny M A (letOwnedTupleGo tg (.ref it) u) Q E s:=by
 unfold letOwnedTupleGo;cases tg<;>first
  |exact wpAny_pure hQ
  |(cases u<;>first
    |exact wpAny_pure hQ
    |(refine wpAny_bind (wpAny_load ho ?_)
      rw[hc,hd];show wpAny M A (if (["enumerate", "zip", "dict_itemiterator", "dict_reverseitemiterator", "odict_iterator", "itertools.zip_longest", "itertools.pairwise"].contains n&&vs[0]?==some (rawInt _))=true then _ else _) Q E s;rw[if_neg (by intro h;rw[hn,Bool.false_and] at h;cases h)];exact wpAny_pure hQ))
def Itl (K:PySem.W.Frag) (a:Addr):It :=
 ⟨λ i H=>∃xs x,SqL K H a xs/\xs[i]? = some x,λ i H x H'=>H'=H/\∀xs,SqL K H a xs->xs[i]? = some x,λ i H=>∃xs,SqL K H a xs/\xs.length<=i⟩
def Itt (K:PySem.W.Frag) (a:Addr):It :=
 ⟨λ i H=>∃xs x,SqT K H a xs/\xs[i]? = some x,λ i H x H'=>H'=H/\∀xs,SqT K H a xs->xs[i]? = some x,λ i H=>∃xs,SqT K H a xs/\xs.length<=i⟩
def Itr (lo:Int) (n:Nat):It:=⟨λ i _=>i<n,λ i H x H'=>H'=H/\x = .int (lo+i),λ i _=>n<=i⟩
theorem qA1 (a it:Addr):Turn P w K tg (Itl K a) [it] it (λ i h=>h.IsListIter it a i) where
 mem:=by simp
 obj:=λ i h st b hb=>by
  have e:b=it:=by simpa using hb
  subst e;obtain⟨o,e,c,d⟩:=st;exact⟨o,e,λ v z=>by rw[d] at z;cases z⟩
 keep:=λ i h h' st k=>st.at λ o e=>k it (by simp) o e
 item:=by intro X hP hw hK hc i pins s σ H E I hf st hg;subst hP hw hK;obtain⟨xs,x,hq,hx⟩:=hg;obtain⟨its,rv,p,hz⟩:=I.list hq;obtain⟨u,hu,ru⟩:=rv.get hx;obtain⟨f0,f1,f2,f3,f4,f5⟩:=hf it (by simp);refine wpAny_pyNext_list_item st p.isList (x:=u) (by simpa using hu) λ h' st' sb=>?_;have I1:Inv X pins σ H {s with heap:=h'}:=I.turned (t':=s.toks) (λ b o hb e=>(sb.2 b hb).trans e) f0 f1 f3 f4 f5;obtain⟨o,e,c,d⟩:=id st';exact⟨u,rfl,qA0 (s:={s with heap:=h'}) e c d (by decide) ⟨x,H,I1,ru,⟨rfl,λ ys hy=>by rw[I.qBz hy hq];exact hx⟩,st',λ b hb=>(hf b hb).1⟩⟩
 done:=by intro X hP hw hK hc i pins s σ H E I hf st hg;subst hP hw hK;obtain⟨xs,hq,hx⟩:=hg;obtain⟨its,rv,p,hz⟩:=I.list hq;obtain⟨f0,f1,f2,f3,f4,f5⟩:=hf it (by simp);have hl:=rv.length;exact wpAny_pyNext_list_end (I.ok.hd hc) st p.isList (by simp;lia) λ h' eb=>⟨rfl,I.turned (t':=s.toks) (λ b o hb e=>eb b o hb e) f0 f1 f3 f4 f5⟩
 self:=λ _ _ _ _ _ st h=>wpAny_pyIter_listiter st h
theorem q9K (a it:Addr):Turn P w K tg (Itt K a) [it] it (λ i h=>h.IsTupleIter it a i) where
 mem:=by simp
 obj:=λ i h st b hb=>by
  have e:b=it:=by simpa using hb
  subst e;obtain⟨o,e,c,d⟩:=st;exact⟨o,e,λ v z=>by rw[d] at z;cases z⟩
 keep:=λ i h h' st k=>st.at λ o e=>k it (by simp) o e
 item:=by intro X hP hw hK hc i pins s σ H E I hf st hg;subst hP hw hK;obtain⟨xs,x,hq,hx⟩:=hg;obtain⟨its,rv,p,hz⟩:=I.tuple hq;obtain⟨u,hu,ru⟩:=rv.get hx;obtain⟨f0,f1,f2,f3,f4,f5⟩:=hf it (by simp);refine wpAny_pyNext_tuple_item st (show s.heap.IsTuple a its.toArray from p) (x:=u) (by simpa using hu) λ h' st' sb=>?_;have I1:Inv X pins σ H {s with heap:=h'}:=I.turned (t':=s.toks) (λ b o hb e=>(sb.2 b hb).trans e) f0 f1 f3 f4 f5;obtain⟨o,e,c,d⟩:=id st';exact⟨u,rfl,qA0 (s:={s with heap:=h'}) e c d (by decide) ⟨x,H,I1,ru,⟨rfl,λ ys hy=>by rw[I.q9y hy hq];exact hx⟩,st',λ b hb=>(hf b hb).1⟩⟩
 done:=by intro X hP hw hK hc i pins s σ H E I hf st hg;subst hP hw hK;obtain⟨xs,hq,hx⟩:=hg;obtain⟨its,rv,p,hz⟩:=I.tuple hq;obtain⟨f0,f1,f2,f3,f4,f5⟩:=hf it (by simp);have hl:=rv.length;exact wpAny_pyNext_tuple_end (I.ok.hd hc) st (show s.heap.IsTuple a its.toArray from p) (by simp;lia) λ h' eb=>⟨rfl,I.turned (t':=s.toks) (λ b o hb e=>eb b o hb e) f0 f1 f3 f4 f5⟩
 self:=λ _ _ _ _ _ st h=>wpAny_pyIter_tupleiter st h
theorem q9L (it:Addr) (lo:Int) (n:Nat):Turn P w K tg (Itr lo n) [it] it (λ i h=>IsRangeIter h it (lo+(i:Nat)*1) ((n:Int)-(i:Nat)) 1) where
 mem:=by simp
 obj:=λ i h st b hb=>by
  have e:b=it:=by simpa using hb
  subst e;exact⟨_,st,λ v z=>by have z':Data.fields _=Data.cell v:=z;cases z'⟩
 keep:=λ i h h' st k=>k it (by simp) _ st
 item:=by intro X hP hw hK hc i pins s σ H E I hf st hg;subst hP hw hK;obtain⟨f0,f1,f2,f3,f4,f5⟩:=hf it (by simp);have W:=Walks.range (prog:=X.prog) (w:=X.w) (I.ok.hd hc) it lo 1 n;refine W.item i s _ _ hg st λ v h' tk hv st' kk=>?_;obtain⟨t,rfl⟩:=hv;have I1:Inv X pins σ H {s with heap:=h',toks:=tk}:=I.turned (λ b o hb e=>kk b o (by simpa using hb) e) f0 f1 f3 f4 f5;refine⟨_,rfl,qA0 (s:={s with heap:=h',toks:=tk}) (n := "range_iterator") st' rfl rfl (by decide) ⟨.int (lo+i),H,I1,⟨t,?_⟩,⟨rfl,rfl⟩,st',λ b hb=>(hf b hb).1⟩⟩;rw[Int.mul_one]
 done:=by intro X hP hw hK hc i pins s σ H E I hf st hg;subst hP hw hK;obtain⟨f0,f1,f2,f3,f4,f5⟩:=hf it (by simp);exact wpAny_pyNext_range_end (I.ok.hd hc) st (by have:n<=i:=hg;lia) λ h' eb=>⟨rfl,I.turned (t':=s.toks) (λ b o hb e=>eb b o hb e) f0 f1 f3 f4 f5⟩
 self:=λ _ _ _ _ _ st h=>wpAny_pyIter_rangeiter st h
end L2
namespace L2
open PySem PySem.Spec PyProof.Rows
variable {pins:List (Addr×Obj)}{σ:St}{H:Hp}{s:Shared}{fp:List Addr}
section
variable {X:Cx}{tg:Expr}
theorem q89 {R:It->Hp->Prop}{E:Value->Shared->Prop}{lo hi:Int}{t u v:Tok}{tk:Nat}(I:Inv X pins σ H s) (h1:-(2^62)<=lo) (h2:lo<2^62) (h3:-(2^62)<=hi) (h4:hi<2^62)
  (q:R (Itr lo (hi-lo).toNat) H):wpAny (model X.prog X.w) X.A (pyIter (.ref s.heap.objs.size)) (PIE X pins σ tg R) E {s with heap:=s.heap.push {cls:= .type "range",data:= .fields #[.int lo t,.int hi u,.int 1 v]},toks:=tk}:=by
 refine wpAny_pyIter_range (IsRange.new ..) (small_one h1 h2 h3 h4) ?_;have I1:Inv X pins σ H {s with heap:=s.heap.push {cls:= .type "range",data:= .fields #[.int lo t,.int hi u,.int 1 v]},toks:=tk}:=I.kept λ b o e=>Heap.get?_push_of_some _ e;refine⟨(s.heap.push {cls:= .type "range",data:= .fields #[.int lo t,.int hi u,.int 1 v]}).objs.size,[(s.heap.push {cls:= .type "range",data:= .fields #[.int lo t,.int hi u,.int 1 v]}).objs.size],_,_,H,rfl,
  I1.kept (t':=tk) λ b o e=>Heap.get?_push_of_some _ e,q9L _ lo (hi-lo).toNat,?_,λ b hb=>?_,q⟩
 ·have e1:lo+((0:Nat):Int)*1=lo:=by simp
  have e2:(((hi-lo).toNat:Nat):Int)-((0:Nat):Int)=Builtin.Range.rangeSize lo hi 1:=by rw[rangeSize_one];split<;>lia
  show IsRangeIter _ _ (lo+((0:Nat):Int)*1) ((((hi-lo).toNat:Nat):Int)-((0:Nat):Int)) 1;rw[e1,e2];exact Heap.get?_push_size _ rfl
 ·have e:b=(s.heap.push {cls:= .type "range",data:= .fields #[.int lo t,.int hi u,.int 1 v]}).objs.size:=by simpa using hb
  subst e;exact I1.fpOk (Qf _) (I1.hok.fresh (Qf _))
def q66 (fp:List Addr) (h:Heap):List (Addr×Obj):=fp.filterMap λ b=>(h.get? b).map λ o=>(b,o)
theorem q2D {h:Heap}{b:Addr}{o:Obj}(hb:b∈fp) (e:h.get? b=some o):(b,o)∈q66 fp h:=List.mem_filterMap.mpr ⟨b,hb,by rw[e];rfl⟩
theorem qA2 {h:Heap}{p:Addr×Obj}(hp:p∈q66 fp h):p.1∈fp/\h.get? p.1=some p.2:=by
 obtain⟨b,hb,e⟩:=List.mem_filterMap.mp hp;cases q:h.get? b with
 |none=>rw[q] at e;cases e
 |some o =>
  rw[q] at e;have e':(b,o)=p:=QJ.inj e;subst e';exact⟨hb,q⟩
theorem Inv.pinned (I:Inv X pins σ H s) (hf:∀b∈fp,FpOk X pins H b) (ho:∀b∈fp,∃o,s.heap.get? b=some o/\∀v,o.data ≠ .cell v):Inv X (pins++q66 fp s.heap) σ H s :=
 I.q44 λ p hp=>(Qq.mp hp).elim (λ z=>I.pin p (Qr _ z)) λ z=>by obtain⟨hb,e⟩:=qA2 z;obtain⟨f0,f1,f2,_⟩:=hf p.1 hb;obtain⟨o,e',d⟩:=ho p.1 hb;rw[e] at e';cases e';exact⟨e,f0,f1,f2,d⟩
theorem Inv.q16 {pl:List (Addr×Obj)}(I:Inv X (pins++pl) σ H s):Inv X pins σ H s:=I.q44 λ p hp=>I.pin p (Qr _ (QM _ hp))
end
end L2
namespace L2
open PySem PySem.Spec PyProof.Rows
variable {f:Value->Value->Sem Value}
abbrev R2:=V->V->Hp->VK->Prop
def OpR (X:Cx) (f:Value->Value->Sem Value) (r:R2):Prop :=
 ∀(pins:List (Addr×Obj)) (s:Shared) (σ:St) (H:Hp) (x y:V) (v u:Value) (Q:VK),Inv X pins σ H s->RelV x v->RelV y u->r x y H Q->
  wpAny (model X.prog X.w) X.A (f v u) (EP X pins σ Q) X.xe s
def qA3 (X:Cx) (f:Value) (r:List V->Hp->VK->Prop):Prop :=
 ∀(pins:List (Addr×Obj)) (s:Shared) (σ:St) (H:Hp) (xs:List V) (us:List Value) (Q:VK),Inv X pins σ H s->Vals xs us->r xs H Q->
  wpAny (model X.prog X.w) X.A (call f us) (EP X pins σ Q) X.xe s
def TruR (X:Cx) (r:V->Hp->(Bool->Hp->Prop)->Prop):Prop :=
 ∀(pins:List (Addr×Obj)) (s:Shared) (σ:St) (H:Hp) (x:V) (v:Value) (Q:Bool->Hp->Prop),Inv X pins σ H s->RelV x v->r x H Q->
  wpAny (model X.prog X.w) X.A (truthy v) (TP X pins σ Q) X.xe s
def rI (C:Int->Int->Prop) (g:Int->Int->V):R2:=λ x y H Q=>∃i j,x = .int i/\y = .int j/\C i j/\Q (g i j) H
def rI0 (g:Int->Int->V):R2:=λ x y H Q=>∃i j,x = .int i/\y = .int j/\Q (g i j) H
section
variable {X:Cx}{a b c:Expr}{ta tb tc:TE}{pos:Pos}
theorem opI {f:Value->Value->Sem Value}{C:Int->Int->Prop}{g:Int->Int->Int}
  (rule:∀(i j:Int) (t u:Tok) (s:Shared) (Q:Value->Shared->Prop) (E:Value->Shared->Prop),C i j->Q (.int (g i j) s.toks) {s with toks:=s.toks+1}->wpAny (model X.prog X.w) X.A (f (.int i t) (.int j u)) Q E s) :
  OpR X f (rI C λ i j=> .int (g i j)):=by
 intro pins s σ H x y v u Q I rx ry h;obtain⟨i,j,rfl,rfl,hc,q⟩:=h;obtain⟨t,rfl⟩:=rx;obtain⟨t',rfl⟩:=ry;exact rule i j t t' s _ _ hc ⟨.int (g i j),H,I.tok _,⟨_,rfl⟩,q⟩
theorem opI0 {f:Value->Value->Sem Value}{g:Int->Int->Int}
  (rule:∀(i j:Int) (t u:Tok) (s:Shared) (Q:Value->Shared->Prop) (E:Value->Shared->Prop),Q (.int (g i j) s.toks) {s with toks:=s.toks+1}->wpAny (model X.prog X.w) X.A (f (.int i t) (.int j u)) Q E s) :
  OpR X f (rI0 λ i j=> .int (g i j)):=by
 intro pins s σ H x y v u Q I rx ry h;obtain⟨i,j,rfl,rfl,q⟩:=h;obtain⟨t,rfl⟩:=rx;obtain⟨t',rfl⟩:=ry;exact rule i j t t' s _ _ ⟨.int (g i j),H,I.tok _,⟨_,rfl⟩,q⟩
theorem opB0 {g:Int->Int->Bool}
  (rule:∀(i j:Int) (t u:Tok) (s:Shared) (Q:Value->Shared->Prop) (E:Value->Shared->Prop),Q (.bool (g i j)) s->wpAny (model X.prog X.w) X.A (f (.int i t) (.int j u)) Q E s) :
  OpR X f (rI0 λ i j=> .bl (g i j)):=by
 intro pins s σ H x y v u Q I rx ry h;obtain⟨i,j,rfl,rfl,q⟩:=h;obtain⟨t,rfl⟩:=rx;obtain⟨t',rfl⟩:=ry;exact rule i j t t' s _ _ ⟨.bl (g i j),H,I,rfl,q⟩
def CDiv (i j:Int):Prop:=0<j/\j<1073741824
def CPow (i j:Int):Prop:=0<=j/\j<=1000000/\i.natAbs<2^64
def CMul (i j:Int):Prop:=(-(2^64)<i/\i<2^64)\/(-(2^64)<j/\j<2^64)
theorem CMul.ok {i j:Int}(h:CMul i j):IntMulOk i j:=by
 rcases h with ⟨h1,h2⟩|⟨h1,h2⟩
 ·exact .of_left (intBits_le_64 h1 h2)
 ·exact .of_right (intBits_le_64 h1 h2)
theorem q9M (k:Nat):(0:Int)<=2^k:=by rw[two_pow_cast];exact Int.natCast_nonneg _
theorem qGK:OpR X (binaryOp .Add) (rI0 λ i j=> .int (i+j)):=opI0 λ _ _ _ _ _ _ _ q=>add_int q
theorem qGL:OpR X (binaryOp .Sub) (rI0 λ i j=> .int (i-j)):=opI0 λ _ _ _ _ _ _ _ q=>sub_int q
theorem qGM:OpR X (binaryOp .Mult) (rI CMul λ i j=> .int (i*j)):=opI λ _ _ _ _ _ _ _ hc q=>mul_int q hc.ok
theorem qEA:OpR X (binaryOp .FloorDiv) (rI CDiv λ i j=> .int (i / j)):=opI λ i j _ _ _ _ _ hc q=>by have h1:(0:Int)<j:=hc.1;have h2:j<1073741824:=hc.2;exact floordiv_int (by lia) (by rw[Int.fdiv_eq_ediv_of_nonneg i (by lia)];exact q) (.inl (PyProof.noPylong_small (by lia)))
theorem qGN:OpR X (binaryOp .Mod) (rI (λ _ j=>0<j) λ i j=> .int (i % j)):=opI λ i j _ _ _ _ _ hc q=>by have h1:(0:Int)<j:=hc;exact mod_int' (by lia) (by rw[Int.fmod_eq_emod_of_nonneg i (by lia)];exact q)
theorem qGO:OpR X (binaryOp .LShift) (rI CPow λ i j=> .int (i*2^j.toNat)):=opI λ _ _ _ _ _ _ _ hc q=>lshift_int_small hc.1 hc.2.1 hc.2.2 q
theorem qGP:OpR X (binaryOp .RShift) (rI (λ _ j=>0<=j) λ i j=> .int (i / 2^j.toNat)):=opI λ i j _ _ _ _ _ hc q =>
 rshift_int hc (by rw[Int.fdiv_eq_ediv_of_nonneg i (q9M _)];exact q)
theorem qGQ:OpR X (binaryOp .BitAnd) (rI0 λ i j=> .int (Builtin.bitAnd i j)):=opI0 λ _ _ _ _ _ _ _ q=>and_int q
theorem qIx:OpR X (binaryOp .BitOr) (rI0 λ i j=> .int (Builtin.bitOr i j)):=opI0 λ _ _ _ _ _ _ _ q=>or_int q
theorem qGR:OpR X (binaryOp .BitXor) (rI0 λ i j=> .int (Builtin.bitXor i j)):=opI0 λ _ _ _ _ _ _ _ q=>xor_int q
end
section
variable {X:Cx}{a b c:Expr}{ta tb tc:TE}{pos:Pos}
theorem q1x {pins:List (Addr×Obj)}{σ:St}{H:Hp}{s:Shared}{Q:VK}{k k':Bool}(I:Inv X pins σ H s) (q:Q (.bl k) H) (e:k=k'):EP X pins σ Q (.bool k') s:=by subst e;exact⟨.bl k,H,I,rfl,q⟩
theorem qIy:OpR X (compareOp .LtE) (rI0 λ i j=> .bl (decide (i<=j))):=opB0 λ _ _ _ _ _ _ _ q=>le_int q
theorem qIz:OpR X (compareOp .Gt) (rI0 λ i j=> .bl (decide (j<i))):=opB0 λ _ _ _ _ _ _ _ q=>gt_int q
theorem qA4:OpR X (compareOp .In) (λ x y H Q=>∃i j,x = .str i/\y = .str j/\Q (.bl (!(Builtin.Str.occurrences j i 0 j.length 1).isEmpty)) H):=by intro pins s σ H x y v u Q I rx ry h;obtain⟨i,j,rfl,rfl,q⟩:=h;obtain⟨t,rfl⟩:=rx;obtain⟨t',rfl⟩:=ry;exact in_str (q1x I q rfl)
theorem qGS:OpR X (compareOp .Is) (λ x y H Q=>y = .non/\Q (.bl (decide (x = .non))) H):=by
 intro pins s σ H x y v u Q I rx ry h;obtain⟨rfl,q⟩:=h;cases ry;refine is_none_gen (q1x I q ?_);cases x<;>first
  |(cases rx;rfl)
  |(obtain⟨t,rfl⟩:=rx;rfl)
theorem qEB:OpR X (compareOp .IsNot) (λ x y H Q=>y = .non/\Q (.bl (!decide (x = .non))) H):=by
 intro pins s σ H x y v u Q I rx ry h;obtain⟨rfl,q⟩:=h;cases ry;refine isnot_none_gen (q1x I q ?_);cases x<;>first
  |(cases rx;rfl)
  |(obtain⟨t,rfl⟩:=rx;rfl)
def TruV (K:PySem.W.Frag) (x:V) (H:Hp) (k:Bool):Prop :=
 match x with
 | .non=>k=false
 | .bl b=>k=b
 | .int i=>k=(i != 0)
 | .str y=>y.length<=sizeLine/\k=((y.length:Int) != 0)
 | .byt y=>y.size<=sizeLine/\k=((y.size:Int) != 0)
 | .ref p=>(∃xs,SqL K H p xs/\k=!xs.isEmpty)\/(∃xs,SqT K H p xs/\k=!xs.isEmpty)\/∃kvs,H p=some (.dK kvs)/\k=!kvs.isEmpty
 |_=>False
theorem q9N {κ:Type}{kvs:List (κ×V)}{vs:List (κ×Value)}(r:KV kvs vs):(!vs.isEmpty)=!kvs.isEmpty:=by cases r<;>rfl
theorem q4t {xs:List V}{its:List Value}(r:Vals xs its):(!its.toArray.isEmpty)=!xs.isEmpty:=by cases r<;>simp
theorem q4u:(sizeLine:Nat)<2^63:=by rw[sizeLine_eq];decide
theorem qGT:TruR X (λ x H Q=>∃k,TruV X.K x H k/\Q k H):=by
 intro pins s σ H x v Q I rx h;obtain⟨k,e,q⟩:=h;have hl:=q4u;have hs:sizeLine=16777216:=sizeLine_eq;cases x with
 |non =>
  cases rx;have e':k=false:=e;subst e';exact truthy_none ⟨H,I,q⟩
 |bl b =>
  cases rx;have e':k=b:=e;subst e';exact wpAny_truthy_bool ⟨H,I,q⟩
 |int i =>
  obtain⟨t,rfl⟩:=rx;have e':k=(i != 0):=e;subst e';exact PySem.P.truthy_int ⟨H,I,q⟩
 |str y =>
  obtain⟨t,rfl⟩:=rx;obtain⟨hy,e'⟩:y.length<=sizeLine/\k=((y.length:Int) != 0):=e;subst e';exact PySem.P.truthy_str (by lia) ⟨H,I.tok _,q⟩
 |byt y =>
  obtain⟨t,rfl⟩:=rx;obtain⟨hy,e'⟩:y.size<=sizeLine/\k=((y.size:Int) != 0):=e;subst e';exact PySem.W.truthy_bytes (by lia) ⟨H,I.tok _,q⟩
 |ref p =>
  cases rx;have e':(∃xs,SqL X.K H p xs/\k=!xs.isEmpty)\/(∃xs,SqT X.K H p xs/\k=!xs.isEmpty)\/∃kvs,H p=some (.dK kvs)/\k=!kvs.isEmpty:=e;rcases e' with ⟨xs,hx,e'⟩|⟨xs,hx,e'⟩|⟨kvs,hx,e'⟩
  ·subst e';obtain⟨its,r,pl,hz⟩:=I.list hx;have hlen:=r.length;exact wpAny_truthy_list pl.isList (by simp only[Ql];lia) ⟨H,I.tok _,by rw[q4t r];exact q⟩
  ·subst e';obtain⟨its,r,pl,hz⟩:=I.tuple hx;have hlen:=r.length;exact truthy_tuple pl (by simp only[Ql];lia) ⟨H,I.tok _,by rw[q4t r];exact q⟩
  ·subst e';obtain⟨hz,hS,vs,r,m⟩:kvs.length<=sizeLine/\(p==sysModules)=false/\∃vs,KV kvs vs/\s.heap.DictOf (q0u X.prog X.w) p vs:=I.hok p _ hx;have hlen:kvs.length=vs.length:=Paired.length r;exact wpAny_truthy_dict hS m (by lia) ⟨H,I.tok _,by rw[q9N r];exact q⟩
 |_=>exact (show False from e).elim
theorem q9O:OpR X (binaryOp .Add) (λ x y H Q=>∃i j,x = .str i/\y = .str j/\i.length+j.length<=sizeLine/\Q (.str (i++j)) H):=by intro pins s σ H x y v u Q I rx ry h;obtain⟨i,j,rfl,rfl,hz,q⟩:=h;obtain⟨t,rfl⟩:=rx;obtain⟨t',rfl⟩:=ry;exact add_str (λ t' tk=>⟨.str (i++j),H,I.tok _,⟨_,rfl⟩,q⟩) hz
theorem vals1 {x:V}{us:List Value}(r:Vals [x] us):∃u,us=[u]/\RelV x u:=by
 cases r with
 |cons r1 r2=>cases r2;exact⟨_,rfl,r1⟩
theorem q67:qA3 X (.type "int") (λ xs H Q=>(∃i,xs=[.int i]/\Q (.int i) H)\/∃k,xs=[.bl k]/\Q (.int (if k then 1 else 0)) H):=by
 intro pins s σ H xs us Q I r h;rcases h with ⟨i,rfl,q⟩|⟨k,rfl,q⟩
 ·obtain⟨u,rfl,t,rfl⟩:=vals1 r;exact call_int_int ⟨.int i,H,I,⟨_,rfl⟩,q⟩
 ·obtain⟨u,rfl,r1⟩:=vals1 r;cases r1;exact call_int_bool ⟨.int (if k then 1 else 0),H,I.tok _,⟨_,rfl⟩,q⟩
theorem q68:qA3 X (.type "str") (λ xs H Q=>∃i,xs=[.int i]/\i.natAbs.log2<1920/\Q (.str (toString i)) H):=by intro pins s σ H xs us Q I r h;obtain⟨i,rfl,hz,q⟩:=h;obtain⟨u,rfl,t,rfl⟩:=vals1 r;exact PySem.P.str_of_int hz ⟨.str _,H,I.tok _,⟨_,rfl⟩,q⟩
end
end L2
namespace L2
open PySem PySem.Spec PyProof.Rows
theorem RelO.some_of {v:V}{o:Option Value}(r:RelO (some v) o):∃u,o=some u/\RelV v u:=by
 cases o with
 |none=>exact (show False from r).elim
 |some u=>exact⟨u,rfl,r⟩
end L2
namespace L2
open PySem PySem.Spec PyProof.Rows
variable {A:Around}{K:PySem.W.Frag}
structure Room (k:Nat) (A:Around):Prop where
 hd:A.handled=none
 dp:A.depth+3*k+5<recursionLimit
 un:A.units+16*k+200<cLine
theorem Room.mono {j k:Nat}(r:Room k A) (h:j<=k):Room j A:=⟨r.hd,by have:=r.dp;lia,by have:=r.un;lia⟩
theorem Room.deeper {k:Nat}(r:Room (k+1) A) (env:Env):Room k (A.deeper env) :=
 ⟨r.hd,by have:=r.dp;show A.depth+1+3*k+5<_;lia,by have:=r.un;show A.units+3+16*k+200<_;lia⟩
theorem Room.depth {k:Nat}(r:Room k A):A.depth<recursionLimit:=by have:=r.dp;lia
theorem Room.units {k:Nat}(r:Room k A):A.units+64<cLine:=by have:=r.un;lia
abbrev Sp:=List V->Hp->VK->XK->Prop
abbrev CXT:=List Env->Hp->Shared->XK->Value->Shared->Prop
structure Env0 (P:Program) (w:World) (K:PySem.W.Frag) (mg:Str->Option Value) (base:Heap) (A:Around) (outer:List Env) (s:Shared) (H:Hp):Prop where
 frames:A.frames=some outer
 mod:Mod K mg base
 bs:∀b o,base.get? b=some o->s.heap.get? b=some o/\H b=none
 bsz:base.objs.size<=s.heap.objs.size
 funs:s.heap.FunFrames base outer
 frf:∀b∈frs outer,H b=none
 hok:HOk P w H s.heap
 bare:AllBare s.gens
def CE (outer:List Env) (P:Program) (w:World) (H:Hp) (s:Shared) (Q:VK) (u:Value) (s':Shared):Prop :=
 ∃v H',s'.os=s.os/\AllBare s'.gens/\Un (frs outer) [] H H' s.heap s'.heap/\HOk P w H' s'.heap/\RelV v u/\Q v H'
def CR (CX:CXT) (outer:List Env) (P:Program) (w:World) (H:Hp) (s:Shared) (Q:VK) (E:XK) (r:Result) (s':Shared):Prop :=
 match r with
 | .ok (.ret u)=>CE outer P w H s Q u s'
 | .ok _=>False
 | .error e=>CX outer H s E e s'
structure FnOk (P:Program) (w:World) (K:PySem.W.Frag) (mg:Str->Option Value) (base:Heap) (CX:CXT) (k:Nat) (f:Addr) (fd:FuncData) (ps:List Str) (sp:Sp):Prop where
 len:∀vs H Q E,sp vs H Q E->vs.length=ps.length
 run:∀(A:Around) (outer:List Env) (s:Shared) (H:Hp) (args:Args) (us:List Value) (vs:List V) (Q:VK) (E:XK),Room k A->Env0 P w K mg base A outer s H->BindsTo s fd args (ps.zip us)->Vals vs us->sp vs H Q E->
  codeAny (model P w) A (.call (.ref f) args) (CR CX outer P w H s Q E) s
theorem FnOk.imp {P:Program}{w:World}{mg:Str->Option Value}{base:Heap}{CX:CXT}{k:Nat}{f:Addr}{fd:FuncData}{ps:List Str}{sp sp':Sp}(F:FnOk P w K mg base CX k f fd ps sp)
  (h:∀vs H Q E,sp' vs H Q E->sp vs H Q E):FnOk P w K mg base CX k f fd ps sp' :=
 ⟨λ vs H Q E q=>F.len vs H Q E (h _ _ _ _ q),λ A outer s H args us vs Q E hr he hb hv hs=>F.run A outer s H args us vs Q E hr he hb hv (h _ _ _ _ hs)⟩
section
variable {X:Cx}{pins:List (Addr×Obj)}{σ:St}{H:Hp}{s s':Shared}
theorem Inv.env0 (I:Inv X pins σ H s):Env0 X.prog X.w X.K X.mg X.base X.A X.stack s H :=
 ⟨I.ok.frames,I.ok.mod,I.bs,Qt I.ok.bsz I.sz,I.stack,I.q7R,I.hok,I.bare⟩
theorem Inv.after {Q:VK}{u:Value}(I:Inv X pins σ H s) (h:CE X.stack X.prog X.w H s Q u s'):EP X pins σ Q u s':=by obtain⟨v,H',os,bare,un,hok,r,q⟩:=h;obtain⟨hh,g,d,t,os'⟩:=s';obtain rfl:os'=s.os:=os;exact⟨v,H',I.call (h':=hh) (g':=g) (d':=d) (t':=t) (ch:=[]) un hok bare (λ b z=>absurd z (by simp)),r,q⟩
end
def Binds (K:PySem.W.Frag) (fd:FuncData) (ps:List Str) (ds:List Value):Prop :=
 ∀(s:Shared) (us:List Value),K.In s.heap->(us++ds).length=ps.length->BindsTo s fd ⟨us,[]⟩ (ps.zip (us++ds))
theorem Binds.all {fd:FuncData}{ps:List Str}(h:∀us:List Value,us.length=ps.length->bindArgs fd ⟨us,[]⟩=pure (ps.zip us)):Binds K fd ps []:=λ s us _ hl=>by rw[QB] at hl |-;exact .of_eq (h us hl)
section
variable {X:Cx}{CX:CXT}{k:Nat}{f C:Addr}{fd:FuncData}{ps:List Str}{sp:Sp}{dvs:List V}{ds:List Value}{E:XK}{x m:Str}{p pos apos:Pos}{e o:Expr}{es:List Expr}{ta:TE}{t:TA}
structure Mk (K:PySem.W.Frag) (C f:Addr):Prop where
 makes:PySem.W.makesIn K C=true
 init:PySem.W.findIn K (.ref C) "__init__" = some (some (.ref f))
 fn:PySem.W.isFn K (.ref f)=true
 kp:PySem.W.keepIn K (.ref C)=true
end
structure FnScope (N P:List Str) (sc:Scope):Prop where
 kind:sc.kind = .function
 co:sc.isCoroutine=false
 gen:sc.isGenerator=false
 nd:N.Nodup
 pre:N.take P.length=P
 par:∀x∈P,sc.names.lookup x=some .local\/sc.names.lookup x=some .cell
 nofree:∀y∈sc.names,y.2 ≠ .free
theorem q69 {kindOf:Str->Option NameKind}{x:Str}:∀{binds:List (Str×Value)}{m:Str->Option Value},(∀v,(x,v)∉binds)->bindL kindOf binds m x=m x
 |[],_,_=>rfl
 |(n,v)::r,m,h=>by
  unfold bindL;rw[q69 λ w hw=>h w (Qa _ hw)];split
  ·have:x≠n:=(by rintro rfl;exact h v Qb);simp[this]
  ·rfl
theorem q6A {kindOf:Str->Option NameKind}{x:Str}:∀{binds:List (Str×Value)}{m:Str->Option Value},(∀v,(x,v)∉binds)->bindC kindOf binds m x=m x
 |[],_,_=>rfl
 |(n,v)::r,m,h=>by
  unfold bindC;rw[q6A λ w hw=>h w (Qa _ hw)];split
  ·rfl
  ·have:x≠n:=(by rintro rfl;exact h v Qb);simp[this]
theorem q6B {kindOf:Str->Option NameKind}{x:Str}{v:Value}:∀{P:List Str}{vs:List Value}{i:Nat}{m:Str->Option Value},P.Nodup->P[i]? = some x->vs[i]? = some v->kindOf x=some .local->
  bindL kindOf (P.zip vs) m x=some v
 |[],_,_,_,_,h,_,_=>by simp at h
 |_::_,[],_,_,_,_,h,_=>by simp at h
 |p::P,w::vs,0,m,nd,h1,h2,hk=>by simp at h1 h2;subst h1;subst h2;show bindL kindOf ((p,w)::P.zip vs) m p=_;unfold bindL;rw[q69 λ v hv=>(QY.mp nd).1 (List.of_mem_zip hv).1,if_pos hk];simp
 |p::P,w::vs,i+1,m,nd,h1,h2,hk=>by show bindL kindOf ((p,w)::P.zip vs) m x=_;unfold bindL;exact q6B (i:=i) (QY.mp nd).2 (by simpa using h1) (by simpa using h2) hk
theorem q6C {kindOf:Str->Option NameKind}{x:Str}{v:Value}:∀{P:List Str}{vs:List Value}{i:Nat}{m:Str->Option Value},P.Nodup->P[i]? = some x->vs[i]? = some v->kindOf x≠some .local->
  bindC kindOf (P.zip vs) m x=some v
 |[],_,_,_,_,h,_,_=>by simp at h
 |_::_,[],_,_,_,_,h,_=>by simp at h
 |p::P,w::vs,0,m,nd,h1,h2,hk=>by simp at h1 h2;subst h1;subst h2;show bindC kindOf ((p,w)::P.zip vs) m p=_;unfold bindC;rw[q6A λ v hv=>(QY.mp nd).1 (List.of_mem_zip hv).1,if_neg hk];simp
 |p::P,w::vs,i+1,m,nd,h1,h2,hk=>by show bindC kindOf ((p,w)::P.zip vs) m x=_;unfold bindC;exact q6C (i:=i) (QY.mp nd).2 (by simpa using h1) (by simpa using h2) hk
def start (N:List Str) (vs:List V):St:=vs.map some++Qo (N.length-vs.length) none
def cxOf (CX:CXT) (P:Program) (w:World) (K:PySem.W.Frag) (mg:Str->Option Value) (base:Heap) (N:List Str) (qual:Str) (scope:Scope) (f:Addr) (cd:Value) (A:Around) (outer:List Env) (s:Shared) (H:Hp) (E:XK):Cx where
 prog:=P
 w:=w
 K:=K
 mg:=mg
 base:=base
 A:=A.deeper (envOfC qual scope s.heap.objs.size f cd)
 N:=N
 s₀:=s
 H₀:=H
 env:=envOfC qual scope s.heap.objs.size f cd
 outer:=outer
 stack:=envOfC qual scope s.heap.objs.size f cd::outer
 ex:=[]
 calm:=true
 fn:=λ _=>true
 pn:=[]
 xe:=λ e s'=>wpAny (model P w) (A.deeper (envOfC qual scope s.heap.objs.size f cd)) (leaving (envOfC qual scope s.heap.objs.size f cd) e) (λ _ s''=>CX outer H s E e s'') (λ e' s''=>CX outer H s E e' s'') s'
theorem q8A {sc:Scope}{n:Nat}{x:Str}(h:sc.names.lookup x=some .cell):∃c,(cellsFrom n sc.names []).lookup x=some c:=by have q:=PySem.W.cellsFrom_some sc.names n [] (.inl h);exact Ji.mp q
theorem qA5 {CX:CXT}{P:Program}{w:World}{mg:Str->Option Value}{base:Heap}{N ps:List Str}{qual:Str}{scope:Scope}{f:Addr}{cd:Value}{outer:List Env}{s s1:Shared}{H:Hp}{E:XK}{us:List Value}{vs:List V}
  (S:FnScope N ps scope) (hd:A.handled=none) (e0:Env0 P w K mg base A outer s H) (hl:vs.length=ps.length) (r:Vals vs us)
  (x:InCallC s s.heap.objs.size (bindL (envOfC qual scope s.heap.objs.size f cd).kindOf (ps.zip us) λ _=>none) (cellsFrom (s.heap.objs.size+1) scope.names []) (bindC (envOfC qual scope s.heap.objs.size f cd).kindOf (ps.zip us) λ _=>none) s1) :
  Inv (cxOf CX P w K mg base N qual scope f cd A outer s H E) [] (start N vs) H s1:=by
 have hpl:ps.length<=N.length:=by have:=congrArg List.length S.pre;rw[Je] at this;lia
 obtain⟨h1,tk,rfl,hk⟩:=x.done;have noA:∀b:Addr,b∉(cxOf CX P w K mg base N qual scope f cd A outer s H E).ex:=λ b z=>absurd (show b∈([]:List Addr) from z) (by simp);refine⟨⟨e0.mod,S.kind,rfl,rfl,Qf _,λ y z c h1 h2=>?_,λ y hy=>?_,λ y c _ h=>?_,λ _=>hd,Around.frames_deeper e0.frames,.inr ⟨rfl,rfl⟩,λ b z=>absurd z (noA b),e0.bs,e0.bsz,λ b _ _=>noA b,λ b z=>absurd z (noA b),e0.funs,e0.frf⟩,
  rfl,e0.bare,Un.kept hk,⟨_,x.toInCall.ns,λ i y v h1 h2 h3=>?_⟩,λ y c h=>⟨_,x.cell y c h⟩,e0.hok.fresh (Qf _),λ y c h=>?_,λ p hp=>absurd (show p∈([]:List (Addr×Obj)) from hp) (by simp),e0.hok.kept hk,?_⟩
 ·exact name_of_addr x.apart (PySem.mem_of_lookup h1) (PySem.mem_of_lookup h2)
 ·have hy:scope.names.lookup y=some .cell\/scope.names.lookup y=some .free:=hy;rcases hy with hy|hy
  ·exact q8A hy
  ·exact absurd rfl (S.nofree _ (PySem.mem_of_lookup hy))
 ·exact Nat.le_of_lt (x.above y c (PySem.mem_of_lookup h))
 ·have hi:i<vs.length:=by
   unfold start at h2
   by_cases hi:i<vs.length
   ·exact hi
   ·rw[QL (by simpa using hi)] at h2;rw[List.getElem?_replicate] at h2;split at h2<;>cases h2
  have ha:vs[i]? = some v:=by
   unfold start at h2;rw[Qy (by simpa using hi),Qn] at h2;cases e:vs[i]? with
   |none=>rw[e] at h2;cases h2
   |some a=>rw[e] at h2;cases h2;rfl
  obtain⟨u,hu,rv⟩:=r.get ha;have hp:ps[i]? = some y:=by rw[<-S.pre,List.getElem?_take_of_lt (by lia)];exact h1
  have ndP:ps.Nodup:=by rw[<-S.pre];exact S.nd.sublist (List.take_sublist _ _)
  refine⟨u,rv,?_⟩;rcases S.par y (Qk hp) with k|k
  ·exact .inl ⟨k,q6B ndP hp hu k⟩
  ·obtain⟨c,e⟩:=q8A (n:=s.heap.objs.size+1) k;refine .inr ⟨.inl k,c,e,?_⟩;have q:=x.cell y c e;rw[q6C ndP hp hu (by show scope.names.lookup y≠_;rw[k];decide)] at q;exact q
 ·exact e0.hok.fresh (Nat.le_of_lt (x.above y c (PySem.mem_of_lookup h)))
 ·unfold start;show _=N.length;rw[Qj,Qe,List.length_replicate];lia
end L2
namespace L2
open PySem PySem.Spec PyProof.Rows
variable {Q:Value->Shared->Prop}
section
variable {κ:Type}[DecidableEq κ]
def valV (kvs:List (κ×V)) (k:κ):Option V:=(kvs.find? λ kv=>decide (kv.1=k)).map (·.2)
theorem q3p {p:κ×V}{r:List (κ×V)}{k:κ}(e:p.1=k):valV (p::r) k=some p.2:=by simp[valV,Jo,e]
theorem q2f {p:κ×V}{r:List (κ×V)}{k:κ}(e:¬p.1=k):valV (p::r) k=valV r k:=by simp[valV,Jo,e]
theorem RelO.q2g {o:Option V}{u:Option Value}(r:RelO o u):o.isSome=u.isSome:=by
 cases o with
 |none=>cases u with
  |none=>rfl
  |some _=>exact (show False from r).elim
 |some _=>cases u with
  |none=>exact (show False from r).elim
  |some _=>rfl
theorem KV.val {kvs:List (κ×V)}{vs:List (κ×Value)}(r:KV kvs vs) (k:κ):RelO (valV kvs k) (valueAt vs k):=by
 unfold KV at r
 induction r with
 |nil=>exact True.intro
 |@cons p q ps qs h t ih =>
  obtain⟨h1,h2⟩:=h
  by_cases e:p.1=k
  ·have e':q.1=k:=h1.symm.trans e;have b:valueAt (q::qs) k=some q.2:=(by simp[valueAt,Jo,e']);rw[q3p e,b];exact h2
  ·have e':¬q.1=k:=λ z=>e (h1.trans z);have b:valueAt (q::qs) k=valueAt qs k:=(by simp[valueAt,Jo,e']);rw[q2f e,b];exact ih
theorem KV.length {kvs:List (κ×V)}{vs:List (κ×Value)}(r:KV kvs vs):kvs.length=vs.length:=Paired.length r
end
theorem qC0 {P:Program}{w:World}{k:Key}{u:Value}(r:RelV (kV k) u):(q0u P w).is k u=true:=by
 cases k with
 |inl i=>obtain⟨t,e⟩:=(show ∃t,u=Value.int i t from r);subst e;exact q7P P w i t
 |inr x=>obtain⟨t,e⟩:=(show ∃t,u=Value.str x t from r);subst e;exact q7Q P w x t
theorem q6D {P:Program}{w:World}:∀{ks:List Key}{us:List Value},Vals (ks.map kV) us->ItemsAre (q0u P w) ks us
 |[],_,r=>by rw[List.map_nil] at r;cases r;exact .nil
 |k::ks,_,r=>by
  rw[Qz] at r;cases r with
  |cons h t=>exact .cons (qC0 h) (q6D t)
abbrev KT (H:Hp):List (List Key×V)->List (List Key×Addr×Value)->Prop:=Paired λ p q=>p.1=q.1/\H q.2.1=some (.tup (p.1.map kV))/\RelV p.2 q.2.2
theorem KT.val {H:Hp}{kvs:List (List Key×V)}{xs:List (List Key×Addr×Value)}(r:KT H kvs xs) (k:List Key):RelO (valV kvs k) ((atKey xs k).map (·.2)):=by
 induction r with
 |nil=>exact True.intro
 |@cons p q ps qs h t ih =>
  obtain⟨h1,_,h2⟩:=h
  by_cases e:p.1=k
  ·have e':q.1=k:=h1.symm.trans e;have b:atKey (q::qs) k=some q.2:=(by simp[atKey,Jo,e']);rw[q3p e,b];exact h2
  ·have e':¬q.1=k:=λ z=>e (h1.trans z);have b:atKey (q::qs) k=atKey qs k:=(by simp[atKey,Jo,e']);rw[q2f e,b];exact ih
section
variable {P:Program}{w:World}{H:Hp}{h:Heap}{a:Addr}
theorem qGU {u:HO}(ok:HOk P w H h) (e:Rd H a u):q1P P w H h a u:=e.ok ok
theorem qA6 {kvs:List (Key×V)}(ok:HOk P w H h) (e:Rd H a (.dK kvs)):kvs.length<=sizeLine/\(a==sysModules)=false/\∃vs,KV kvs vs/\h.DictOf (q0u P w) a vs :=
 show q1P P w H h a (.dK kvs) from qGU ok e
theorem q8B {ks:List Key}(ok:HOk P w H h) (e:H a=some (.tup (ks.map kV))):(tupleKind (q0u P w)).is h ks a:=by
 obtain⟨_,its,r,o,h1,h2,n,h3⟩:=(show q1P P w H h a (.tup (ks.map kV)) from ok a _ e)
 exact⟨o,its.toArray,n,h1,h2,h3,by simpa using q6D r⟩
theorem qC1 {kvs:List (List Key×V)}(ok:HOk P w H h) (e:Rd H a (.dT kvs)):kvs.length<=sizeLine/\(a==sysModules)=false/\
  ∃xs,KT H kvs xs/\h.DictOfH (tupleKind (q0u P w)) a xs:=by
 obtain⟨z,y,xs,r,o,es,ep,h1,h2,h3,h4,h5⟩:=(show q1P P w H h a (.dT kvs) from qGU ok e)
 refine⟨z,y,xs,r,o,es,ep,h1,h2,h3,h4,λ x hx=>?_,h5⟩;have all:∀{l:List (List Key×V)}{m:List (List Key×Addr×Value)},KT H l m->∀x∈m,(tupleKind (q0u P w)).is h x.1 x.2.1:=by
  intro l m q
  induction q with
  |nil=>intro x hx;exact nomatch hx
  |@cons p q ps qs hq t ih =>
   intro x hx;rcases Qh.mp hx with e|hx
   ·subst e;exact q8B ok (by rw[<-hq.1];exact hq.2.1)
   ·exact ih x hx
 exact all r x hx
end
def DGet (H:Hp) (a:Addr) (y:V) (r:Option V):Prop :=
 (∃kvs k,Rd H a (.dK kvs)/\y=kV k/\r=valV kvs k)\/∃kvs k b,Rd H a (.dT kvs)/\y = .ref b/\H b=some (.tup (k.map kV))/\r=valV kvs k
section
variable {X:Cx}{pins:List (Addr×Obj)}{σ:St}{H:Hp}{s:Shared}{a:Addr}{y v:V}{u r:Value}{o:Option V}{A:Around}{E:Value->Shared->Prop}
theorem qA7 (hu:A.units+1<cLine) (I:Inv X pins σ H s) (g:DGet H a y (some v)) (ry:RelV y u) (h:∀w' s',Inv X pins σ H s'->RelV v w'->Q w' s') :
  wpAny (model X.prog X.w) A (getItem (.ref a) u) Q E s:=by
 rcases g with ⟨kvs,k,e,ey,l⟩|⟨kvs,k,b,e,ey,eb,l⟩
 ·subst ey;obtain⟨z,hd,vs,rel,dd⟩:=qA6 I.hok e;obtain⟨w',hw,rw'⟩:=RelO.some_of (v:=v) (o:=valueAt vs k) (by rw[l];exact rel.val k);exact wpAny_getItem_of (qC0 ry) dd.mapOf hw (h w' _ (I.tok _) rw')
 ·subst ey;cases (show u=Value.ref b from ry);obtain⟨z,hd,xs,rel,dd⟩:=qC1 I.hok e;obtain⟨w',hw,rw'⟩:=RelO.some_of (v:=v) (o:=(atKey xs k).map (·.2)) (by rw[l];exact rel.val k);obtain⟨p,hp,hp2⟩:=QO.mp hw;refine wpAny_getItem_heap (tupleKind_room_in1 hu) (q8B I.hok eb) dd hp ?_;rw[hp2];exact h w' _ (I.tok _) rw'
theorem d_in (hu:A.units+1<cLine) (I:Inv X pins σ H s) (g:DGet H a y o) (ry:RelV y u) (h:∀s',Inv X pins σ H s'->Q (.bool o.isSome) s') :
  wpAny (model X.prog X.w) A (compareOp .In u (.ref a)) Q E s:=by
 rcases g with ⟨kvs,k,e,ey,l⟩|⟨kvs,k,b,e,ey,eb,l⟩
 ·subst ey;obtain⟨z,hd,vs,rel,dd⟩:=qA6 I.hok e;refine wpAny_in_of (qC0 ry) hd dd.mapOf ?_;rw[<-(rel.val k).q2g,<-l];exact h _ (I.tok _)
 ·subst ey;cases (show u=Value.ref b from ry);obtain⟨z,hd,xs,rel,dd⟩:=qC1 I.hok e;refine wpAny_in_heap (tupleKind_room_in1 hu) (q8B I.hok eb) hd dd ?_;have q:=(rel.val k).q2g;rw[Option.isSome_map] at q;rw[<-q,<-l];exact h _ (I.tok _)
theorem qEC (hu:A.units+1<cLine) (I:Inv X pins σ H s) (g:DGet H a y o) (ry:RelV y u) (h:∀s',Inv X pins σ H s'->Q (.bool (!o.isSome)) s') :
  wpAny (model X.prog X.w) A (compareOp .NotIn u (.ref a)) Q E s:=by
 rcases g with ⟨kvs,k,e,ey,l⟩|⟨kvs,k,b,e,ey,eb,l⟩
 ·subst ey;obtain⟨z,hd,vs,rel,dd⟩:=qA6 I.hok e;refine wpAny_notIn_of (qC0 ry) hd dd.mapOf ?_;rw[<-(rel.val k).q2g,<-l];exact h _ (I.tok _)
 ·subst ey;cases (show u=Value.ref b from ry);obtain⟨z,hd,xs,rel,dd⟩:=qC1 I.hok e;refine wpAny_notIn_heap (tupleKind_room_in1 hu) (q8B I.hok eb) hd dd ?_;have q:=(rel.val k).q2g;rw[Option.isSome_map] at q;rw[<-q,<-l];exact h _ (I.tok _)
end
section
variable {X:Cx}{pins:List (Addr×Obj)}{σ:St}{H:Hp}{s:Shared}{a:Addr}{kvs:List (Key×V)}{k:Key}{u:Value}{A:Around}{E:Value->Shared->Prop}
theorem qJ0 (I:Inv X pins σ H s) (e:Rd H a (.dK kvs)) (h:∀t s',Inv X pins σ H s'->Q (.int kvs.length t) s'):wpAny (model X.prog X.w) A (call (.builtin "len") [.ref a]) Q E s:=by obtain⟨z,hd,vs,rel,dd⟩:=qA6 I.hok e;refine call_len_dict hd dd (by rw[<-rel.length];rw[sizeLine_eq] at z;lia) ?_;rw[<-rel.length];exact h _ _ (I.tok _)
end
def IsD (H:Hp) (a:Addr):Prop:=(∃kvs,Rd H a (.dK kvs))\/∃kvs,Rd H a (.dT kvs)
theorem qGV {X:Cx}{pins:List (Addr×Obj)}{σ:St}{H:Hp}{s:Shared}{a:Addr}(I:Inv X pins σ H s) (d:IsD H a) :
  s.TypeIs (.ref a) "dict"/\(∀b,Value.ref a = .ref b->∃ob,s.heap.get? b=some ob/\ob.dict=none)/\(a==sysModules)=false:=by
 rcases d with ⟨kvs,e⟩|⟨kvs,e⟩
 ·obtain⟨_,hd,vs,_,dd⟩:=qA6 I.hok e;refine⟨dd.typeIs,λ b q=>?_,hd⟩;cases q;obtain⟨ob,_,_,h1,h2,_⟩:=dd;exact⟨ob,h1,h2.2.1⟩
 ·obtain⟨_,hd,xs,_,dd⟩:=qC1 I.hok e;refine⟨dd.typeIs,λ b q=>?_,hd⟩;cases q;obtain⟨ob,_,_,h1,h2,_⟩:=dd;exact⟨ob,h1,h2.2.1⟩
end L2
namespace HT
open PySem PyProof.Rows
section
variable {prog:Program}{w:World}{A:Around}{E:Value->Shared->Prop}{s:Shared}
theorem qED {t b:Addr}{vs ws:List Value}{Q:Value->Shared->Prop}(ht:IsTup s.heap t vs.toArray) (hb:IsTup s.heap b ws.toArray) (hv:vs≠[])
  (h1:ws=[]->Q (.ref t) s) (h2:ws≠[]->Q (.ref s.heap.objs.size) {s with heap:=s.heap.push {cls:= .type "tuple",data:= .seq (vs++ws).toArray}})
  (hsz:vs.length+ws.length<=sizeLine):wpAny (model prog w) A (binaryOp .Add (.ref t) (.ref b)) Q E s:=by
 obtain⟨⟨cls,dd,data,sl⟩,ho,hc,n,hd⟩:=id ht;obtain⟨⟨cls2,dd2,data2,sl2⟩,ho2,hc2,n2,hd2⟩:=id hb;simp only at hc hd hc2 hd2;subst hc hd hc2 hd2;have e:vs.toArray++ws.toArray=(vs++ws).toArray:=by simp
 by_cases hw:ws=[]
 ·exact concat_meets ⟨_,ho,rfl⟩ ⟨_,ho2,rfl⟩ noFill_tuple_add seq_tuple_add PySem.F.slot_tuple_add PySem.F.entry_tuple_add (PySem.F.args_tuple_add_2 _ _)
   (tuple_addW1 t b vs.toArray ws.toArray n n2 dd dd2 sl sl2 (by simpa using hv) (by simp[hw])) ⟨ho,ho2,h1 hw⟩
 ·refine concat_meets ⟨_,ho,rfl⟩ ⟨_,ho2,rfl⟩ noFill_tuple_add seq_tuple_add PySem.F.slot_tuple_add PySem.F.entry_tuple_add (PySem.F.args_tuple_add_2 _ _)
   (tuple_addW2 t b vs.toArray ws.toArray n n2 dd dd2 sl sl2 (by simpa using hv) (by simpa using hw) (by rw[Ql,Ql];exact hsz)) ⟨ho,ho2,?_⟩
  rw[e];exact h2 hw
def sIx (n d:Nat):Option Int->Nat
 |none=>d
 |some v=>if v<0 then (v+(n:Int)).toNat else min v.toNat n
theorem qGW (n d:Nat) (hd:d<=n) (o:Option Int):sIx n d o<=n:=by
 cases o with
 |none=>exact hd
 |some v =>
  show (if v<0 then (v+(n:Int)).toNat else min v.toNat n)<=n
  by_cases hv:v<0
  ·rw[if_pos hv];lia
  ·rw[if_neg hv];exact Nat.min_le_right _ _
theorem qA8 (v:Int) (n d:Nat):(if v<0 then max (v+(n:Int)) 0 else min v (n:Int))=((sIx n d (some v):Nat):Int):=by
 show (if v<0 then max (v+(n:Int)) 0 else min v (n:Int))=(((if v<0 then (v+(n:Int)).toNat else min v.toNat n):Nat):Int)
 by_cases hv:v<0
 ·simp only[if_pos hv];lia
 ·simp only[if_neg hv];lia
theorem q9P (lo hi:Option Int) (n:Nat):Builtin.Slice.sliceAdjust lo hi 1 (n:Int)=(((sIx n 0 lo:Nat):Int),((sIx n n hi:Nat):Int)):=by
 have h1:¬((1:Int)<0):=by lia
 unfold Builtin.Slice.sliceAdjust;simp only[h1,if_false];refine Prod.ext ?_ ?_
 ·cases lo with
  |none=>rfl
  |some v=>exact qA8 v n 0
 ·cases hi with
  |none=>rfl
  |some v=>exact qA8 v n n
theorem q9Q (i j:Nat):Builtin.Slice.slicePlaces (i:Int) (j:Int) 1=j-i:=by
 unfold Builtin.Slice.slicePlaces;have h1:(1:Int) > 0:=by lia
 simp only[h1,if_true,Int.ediv_one];split<;>lia
theorem q4v {v:Value}{o:Option Int}{Q:Option Int->Shared->Prop}(p:IsPart v o) (h:Q o s):wpAny (model prog w) A (Builtin.Slice.slicePartIndex v) Q E s:=by
 cases p with
 |none=>exact slicePart_none h
 |int i t=>exact slicePart_int h
theorem q1s {sl:Addr}{vl vu:Value}{lo hi:Option Int}{n:Nat}{Q:Int×Int×Nat->Shared->Prop}(hs:s.heap.IsSliceOf sl vl vu .none) (pl:IsPart vl lo) (pu:IsPart vu hi)
  (h:Q (((sIx n 0 lo:Nat):Int),1,sIx n n hi-sIx n 0 lo) s):wpAny (model prog w) A (Builtin.Slice.sliceApplied (.ref sl) (pure (n:Int))) Q E s:=by
 obtain⟨os,hos,hcs,hds⟩:=id hs;unfold Builtin.Slice.sliceApplied Builtin.Slice.sliceFields;refine wpAny_bind (wpAny_bind (wpAny_field hos hds (x:=vl) rfl (wpAny_bind (wpAny_field hos hds (x:=vu) rfl (wpAny_bind (wpAny_field hos hds (x:= .none) rfl (wpAny_pure ?_)))))));refine wpAny_bind (slicePart_none ?_);show wpAny _ _ (if ((1:Int)==0)=true then _ else _) _ _ s;rw[if_neg (by decide)];refine wpAny_bind (q4v pl (wpAny_bind (q4v pu (wpAny_bind (wpAny_pure ?_)))));show wpAny _ _ (match Builtin.Slice.sliceAdjust lo hi 1 (n:Int) with|(lo,hi)=>pure (lo,(1:Int),Builtin.Slice.slicePlaces lo hi 1)) _ _ s;rw[q9P lo hi n];show wpAny _ _ (pure (((sIx n 0 lo:Nat):Int),(1:Int),Builtin.Slice.slicePlaces ((sIx n 0 lo:Nat):Int) ((sIx n n hi:Nat):Int) 1)) _ _ s;rw[q9Q];exact wpAny_pure h
theorem qC2 (xs:Array Value) (i k:Nat):((Qp k).filterMap λ (m:Nat)=>xs[((i:Int)+(m:Int)*1).toNat]?).toArray=((xs.toList.drop i).take k).toArray:=by
 have e:(λ (m:Nat)=>xs[((i:Int)+(m:Int)*1).toNat]?)=λ m=>xs[i+m]?:=by
  funext m;have:((i:Int)+(m:Int)*1).toNat=i+m:=by lia
  rw[this]
 rw[e];have:=pick_run xs i k;rw[List.filterMap_map] at this;have e2:((λ x=>xs[x]?) ∘ λ x=>i+x)=λ m=>xs[i+m]?:=rfl;rw[e2] at this;rw[this]
theorem q3D {t sl:Addr}{items:Array Value}{vl vu:Value}{lo hi:Option Int}{Q:Value->Shared->Prop}(ht:IsTup s.heap t items) (hs:s.heap.IsSliceOf sl vl vu .none) (pl:IsPart vl lo) (pu:IsPart vu hi)
  (hw:¬(sIx items.size 0 lo=0/\sIx items.size items.size hi=items.size))
  (h:Q (.ref s.heap.objs.size) {s with heap:=s.heap.push {cls:= .type "tuple",data:= .seq ((items.toList.drop (sIx items.size 0 lo)).take (sIx items.size items.size hi-sIx items.size 0 lo)).toArray}})
  (hsz:items.size<=sizeLine):wpAny (model prog w) A (getItem (.ref t) (.ref sl)) Q E s:=by
 have htake:sizeOk (.seq ((items.toList.drop (sIx items.size 0 lo)).take (sIx items.size items.size hi-sIx items.size 0 lo)).toArray):=by show ((items.toList.drop (sIx items.size 0 lo)).take (sIx items.size items.size hi-sIx items.size 0 lo)).toArray.size<=sizeLine;rw[Ql,Je,QZ,Array.length_toList];lia
 have hj:sIx items.size items.size hi<=items.size:=qGW _ _ (Qf _) hi;obtain⟨os,hos,hcs,hds⟩:=id hs;have hTs:s.TypeIs (.ref sl) "slice":=⟨os,hos,hcs⟩
 unfold getItem
 try with_reducible refine wpAny_holding ?_
 first|refine wpAny_bind (wpAny_pure ?_)|skip
 refine wpAny_bind (wpAny_sequenceKey ht.typeIs (by decide) ?_);refine wpAny_bind (wpAny_callSpecial?_slot (name:=Str.ofString "__getitem__") ht.typeIs PyProof.Rows.slot_tuple_getitem
  (wpAny_call_entry PyProof.Rows.slot_tuple_getitem ht.typeIs entry_tuple_getitem ?_ (args_tuple_getitem _ _)))
 show wpAny _ _ (Builtin.Tuple.tupleItemsOf (.ref t) >>= _) _ _ s;refine wpAny_bind (tupleItemsOf_ ht ?_);refine wpAny_bind (wpAny_typeOf hTs ?_);rw[if_pos (by decide)];refine wpAny_bind (q1s hs pl pu ?_);have hno:¬((((sIx items.size 0 lo:Nat):Int)==0&&(1:Int)==1&&(sIx items.size items.size hi-sIx items.size 0 lo)==items.size)=true):=by intro q;rw[Qg,Qg] at q;have q1:((sIx items.size 0 lo:Nat):Int)=0:=eq_of_beq q.1.1;have q2:sIx items.size items.size hi-sIx items.size 0 lo=items.size:=eq_of_beq q.2;exact hw ⟨by lia,by lia⟩
 show wpAny _ _ (if (((sIx items.size 0 lo:Nat):Int)==0&&(1:Int)==1&&(sIx items.size items.size hi-sIx items.size 0 lo)==items.size)=true then _ else _) _ _ s;rw[if_neg hno,qC2]
 first
  |exact wpAny_bind (m:=Builtin.Tuple.tupleExact _) (wpAny_newObj_type (wpAny_pure ⟨_,rfl,wpAny_pure h⟩) htake)
  |exact wpAny_bind (m:=Builtin.Tuple.tupleExact _) (wpAny_newObj_type (wpAny_bind (wpAny_pure (wpAny_pure ⟨_,rfl,wpAny_pure h⟩))) htake)
  |exact wpAny_bind (wpAny_bind (m:=Builtin.Tuple.tupleExact _) (wpAny_newObj_type (wpAny_pure (wpAny_pure ⟨_,rfl,wpAny_pure h⟩)) htake))
  |exact wpAny_bind (wpAny_bind (m:=Builtin.Tuple.tupleExact _) (wpAny_newObj_type (wpAny_pure ⟨_,rfl,wpAny_pure h⟩) htake))
end
end HT
namespace L2
open PySem PySem.Spec PyProof.Rows
section
variable {X:Cx}{e:Expr}{te:TE}{lo hi:Option Expr}{tl th:TO}{pos p2:Pos}
def SlR (X:Cx) (r:V->Option Int->Option Int->Hp->VK->Prop):Prop :=
 ∀(pins:List (Addr×Obj)) (s:Shared) (σ:St) (H:Hp) (x:V) (v vl vu:Value) (lo hi:Option Int) (sl:Addr) (Q:VK),Inv X pins σ H s->RelV x v->s.heap.IsSliceOf sl vl vu .none->IsPart vl lo->IsPart vu hi->r x lo hi H Q->
  ∃T id,typeLookup (.type T) "__getitem__" = pure (some (.builtin id))/\s.TypeIs v T/\wpAny (model X.prog X.w) X.A (getItem v (.ref sl)) (EP X pins σ Q) X.xe s
def cutV (xs:List V) (lo hi:Option Int):List V:=(xs.drop (HT.sIx xs.length 0 lo)).take (HT.sIx xs.length xs.length hi-HT.sIx xs.length 0 lo)
theorem q2Q (xs:List V) (lo hi:Option Int):(cutV xs lo hi).length<=xs.length:=by unfold cutV;rw[Je,QZ];lia
def rSlT (K:PySem.W.Frag):V->Option Int->Option Int->Hp->VK->Prop:=λ x lo hi H Q=>∃a xs,x = .ref a/\SqT K H a xs/\
 ¬(HT.sIx xs.length 0 lo=0/\HT.sIx xs.length xs.length hi=xs.length)/\∀p,H p=none->Q (.ref p) (upd H p (.tup (cutV xs lo hi)))
theorem qGX:SlR X (rSlT X.K):=by
 intro pins s σ H x v vl vu lo hi sl Q I rx hs pl pu h;obtain⟨a,xs,rfl,hx,hw,q⟩:=h;cases rx;obtain⟨its,r,ht,hz⟩:=I.tuple hx;have hlen:its.toArray.size=xs.length:=by rw[Ql];exact r.length.symm
 refine⟨"tuple",_,PyProof.Rows.slot_tuple_getitem.lookup,ht.typeIs,?_⟩;refine HT.q3D ht hs pl pu (by rw[hlen];exact hw) ?_ (by rw[hlen];exact hz);rw[hlen];refine⟨.ref s.heap.objs.size,_,I.laid (t':=s.toks) (o:= .tup (cutV xs lo hi)) (λ b ob q=>Heap.get?_push_of_some _ q) (Qf _) ?_,rfl,q _ (I.hok.fresh (Qf _))⟩;exact⟨Qt (q2Q xs lo hi) hz,_,(r.drop (HT.sIx xs.length 0 lo)).take (HT.sIx xs.length xs.length hi-HT.sIx xs.length 0 lo),IsTup.new _ _⟩
def qJ1 (K:PySem.W.Frag):R2:=λ x y H Q=>∃a b xs ys,x = .ref a/\y = .ref b/\SqT K H a xs/\SqT K H b ys/\xs≠[]/\xs.length+ys.length<=sizeLine/\
 (ys=[]->Q (.ref a) H)/\(ys≠[]->∀p,H p=none->Q (.ref p) (upd H p (.tup (xs++ys))))
theorem Vals.q5O {xs:List V}{us:List Value}(r:Vals xs us):us=[]↔xs=[]:=by
 cases r with
 |nil=>simp
 |cons _ _=>simp
theorem qEE:OpR X (binaryOp .Add) (qJ1 X.K):=by intro pins s σ H x y v u Q I rx ry h;obtain⟨a,b,xs,ys,rfl,rfl,ha,hb,hx,hz,q1,q2⟩:=h;cases rx;cases ry;obtain⟨its,r1,p1,_⟩:=I.tuple ha;obtain⟨its2,r2,p2,_⟩:=I.tuple hb;refine HT.qED p1 p2 (λ z=>hx (r1.q5O.mp z)) (λ z=>⟨.ref a,H,I,rfl,q1 (r2.q5O.mp z)⟩) (λ z=>?_) (by rw[<-r1.length,<-r2.length];exact hz);refine⟨.ref s.heap.objs.size,_,I.laid (t':=s.toks) (o:= .tup (xs++ys)) (λ b ob q=>Heap.get?_push_of_some _ q) (Qf _) ?_,rfl,q2 (λ w=>z (r2.q5O.mpr w)) _ (I.hok.fresh (Qf _))⟩;exact⟨by rw[Qj];exact hz,_,r1.append r2,IsTup.new _ _⟩
end
end L2
namespace L2
open PySem PySem.Spec PyProof.Rows
def ixN (n:Nat) (i:Int):Option Nat:=if 0<=i then (if i<n then some i.toNat else none) else if -(n:Int)<=i then some (i+n).toNat else none
def atI {α:Type}(xs:List α) (i:Int):Option α:=(ixN xs.length i).bind λ j=>xs[j]?
theorem qEF {n:Nat}{i:Int}{j:Nat}(h:ixN n i=some j):seqIndex? i n=some j/\j<n/\-(n:Int)<=i/\i<n:=by
 unfold ixN at h
 by_cases h0:0<=i
 ·rw[if_pos h0] at h
  by_cases h1:i<n
  ·rw[if_pos h1] at h;have e:i.toNat=j:=QJ.inj h;exact⟨by rw[seqIndex_of h0 h1,e],by lia,by lia,h1⟩
  ·rw[if_neg h1] at h;cases h
 ·rw[if_neg h0] at h
  by_cases h1:-(n:Int)<=i
  ·rw[if_pos h1] at h;have e:(i+n).toNat=j:=QJ.inj h;exact⟨by rw[seqIndex_neg (by lia) h1,e],by lia,h1,by lia⟩
  ·rw[if_neg h1] at h;cases h
theorem q7S {α:Type}{xs:List α}{i:Int}{v:α}(h:atI xs i=some v):∃j,seqIndex? i xs.length=some j/\xs[j]? = some v/\j<xs.length/\-(xs.length:Int)<=i/\i<xs.length:=by
 unfold atI at h;cases e:ixN xs.length i with
 |none=>rw[e] at h;cases h
 |some j =>
  rw[e] at h;obtain⟨h1,h2,h3,h4⟩:=qEF e;exact⟨j,h1,h,h2,h3,h4⟩
def qA9 (b:Expr):Prop:=∀o i,subscripted b false o i=operate [o,i] (getItem o i)
def IxR (X:Cx) (r:R2):Prop :=
 ∀(value slice:Expr) (pins:List (Addr×Obj)) (s:Shared) (σ:St) (H:Hp) (x y:V) (v u:Value) (Q:VK),Inv X pins σ H s->RelV x v->RelV y u->r x y H Q->
  subscripted slice false v u=operate [v,u] (getItem v u)->wpAny (model X.prog X.w) X.A (subscriptTail value slice v u) (EP X pins σ Q) X.xe s
section
variable {X:Cx}{a b:Expr}{ta tb:TE}{pos:Pos}
def rIxL (K:PySem.W.Frag):R2:=λ x y H Q=>∃p xs i v,x = .ref p/\y = .int i/\SqL K H p xs/\atI xs i=some v/\Q v H
def rIxT (K:PySem.W.Frag):R2:=λ x y H Q=>∃p xs i v,x = .ref p/\y = .int i/\SqT K H p xs/\atI xs i=some v/\Q v H
def rIxS:R2:=λ x y H Q=>∃z i c,x = .str z/\y = .int i/\z.length<=sizeLine/\atI z.cps.toList i=some c/\Q (.str ⟨#[c]⟩) H
theorem qEG:IxR X (rIxL X.K):=by
 intro value slice pins s σ H x y v u Q I rx ry h hs;obtain⟨p,xs,i,z,rfl,rfl,hq,he,q⟩:=h;cases rx;obtain⟨t,rfl⟩:=ry;obtain⟨its,r,pl,hz⟩:=I.list hq;obtain⟨j,h1,h2,h3,h4,h5⟩:=q7S he;obtain⟨w,ew,rw'⟩:=r.get h2;have hl:=r.length;have hn:=q4u;have fin:EP X pins σ Q w s:=⟨z,H,I,rw',q⟩
 by_cases h0:0<=i
 ·have hj:i.toNat=j:=by rw[seqIndex_of h0 h5] at h1;exact QJ.inj h1
  exact item_listR pl.isList h0 (by lia) (by rw[hj];simpa using ew) fin hs
 ·have hj:(i+(its.toArray.size:Int)).toNat=j:=by rw[seqIndex_neg (by lia) h4] at h1;rw[Ql,<-hl];exact QJ.inj h1
  exact subscriptTail_builtinR (x:=w) pl.isList.typeIs slot_list_getitem.lookup
   (wpAny_getItem_list_neg (Q:=λ r s'=>r=w/\EP X pins σ Q r s') pl.isList (by lia) (by rw[Ql]<;>lia) (by lia) (by rw[hj];simpa using ew) ⟨rfl,fin⟩) hs
theorem qGY:IxR X (rIxT X.K):=by
 intro value slice pins s σ H x y v u Q I rx ry h hs;obtain⟨p,xs,i,z,rfl,rfl,hq,he,q⟩:=h;cases rx;obtain⟨t,rfl⟩:=ry;obtain⟨its,r,pl,hz⟩:=I.tuple hq;obtain⟨j,h1,h2,h3,h4,h5⟩:=q7S he;obtain⟨w,ew,rw'⟩:=r.get h2;have hl:=r.length;have hn:=q4u;have fin:EP X pins σ Q w s:=⟨z,H,I,rw',q⟩
 exact subscriptTail_builtinR (x:=w) pl.typeIs slot_tuple_getitem.lookup
  (getItem_tuple (j:=j) (Q:=λ r s'=>r=w/\EP X pins σ Q r s') pl (by lia) (by lia) (by rw[Ql,<-hl];exact h1) (by simpa using ew) ⟨rfl,fin⟩) hs
theorem qGZ:IxR X rIxS:=by
 intro value slice pins s σ H x y v u Q I rx ry h hs;obtain⟨z,i,c,rfl,rfl,hz,he,q⟩:=h;obtain⟨t,rfl⟩:=rx;obtain⟨t',rfl⟩:=ry;obtain⟨j,h1,h2,h3,h4,h5⟩:=q7S he;have hl:z.cps.toList.length=z.length:=by simp[Str.length]
 rw[hl] at h1 h4 h5;have hn:=q4u;exact tail_any (typeIs_str s z t) slot_str_getitem.lookup (getItem_str (c:=c) (by have e1:decide (i < -(2^63:Int))=false:=decide_eq_false (by lia);have e2:decide (i≥2^63)=false:=decide_eq_false (by lia);rw[e1,e2,Bool.or_false]) (by rw[h1];simpa using h2) ⟨.str ⟨#[c]⟩,H,I.tok _,⟨_,rfl⟩,q⟩) hs
theorem q6E (lo hi:Option Int) (n:Nat):(sliceBounds lo hi none n).1=((HT.sIx n 0 lo:Nat):Int)/\(sliceBounds lo hi none n).2.1=((HT.sIx n n hi:Nat):Int)/\(sliceBounds lo hi none n).2.2=1:=by
 refine⟨?_,?_,rfl⟩
 ·cases lo with
  |none=>simp[sliceBounds,HT.sIx]
  |some i =>
   simp only[sliceBounds,HT.sIx,Option.getD_none,show (1:Int) > 0 by decide,if_true]
   by_cases h:i<0
   ·simp only[h,if_true]<;>lia
   ·simp only[h,if_false]<;>lia
 ·cases hi with
  |none=>simp[sliceBounds,HT.sIx]
  |some i =>
   simp only[sliceBounds,HT.sIx,Option.getD_none,show (1:Int) > 0 by decide,if_true]
   by_cases h:i<0
   ·simp only[h,if_true]<;>lia
   ·simp only[h,if_false]<;>lia
theorem q5P (its:List Value) (lo hi:Option Int):slicePick its.toArray lo hi none=((its.drop (HT.sIx its.length 0 lo)).take (HT.sIx its.length its.length hi-HT.sIx its.length 0 lo)).toArray:=by obtain⟨h1,h2,h3⟩:=q6E lo hi its.toArray.size;unfold slicePick;rw[h1,h2,h3];simp only[sliceRange_one,pick_run,Ql]<;>rfl
def rSlL (K:PySem.W.Frag):V->Option Int->Option Int->Hp->VK->Prop:=λ x lo hi H Q=>∃a xs,x = .ref a/\SqL K H a xs/\∀p,H p=none->Q (.ref p) (upd H p (.lst (cutV xs lo hi)))
theorem qEH:SlR X (rSlL X.K):=by intro pins s σ H x v vl vu lo hi sl Q I rx hs pl pu h;obtain⟨a,xs,rfl,hx,q⟩:=h;cases rx;obtain⟨its,r,ht,hz⟩:=I.list hx;have hlen:=r.length;refine⟨"list",_,slot_list_getitem.lookup,ht.isList.typeIs,?_⟩;refine wpAny_getItem_list_slice ht.isList hs pl pu .none (by simp) ?_ (by rw[Ql]<;>lia);rw[q5P,<-hlen];refine⟨.ref s.heap.objs.size,_,I.laid (t':=s.toks) (o:= .lst (cutV xs lo hi)) (λ b ob q=>Heap.get?_push_of_some _ q) (Qf _) ?_,rfl,q _ (I.hok.fresh (Qf _))⟩;exact⟨Qt (q2Q xs lo hi) hz,_,0,(r.drop (HT.sIx xs.length 0 lo)).take (HT.sIx xs.length xs.length hi-HT.sIx xs.length 0 lo),Heap.get?_push_size _ rfl⟩
theorem q6F:OpR X (compareOp .NotIn) (λ x y H Q=>∃i j,x = .str i/\y = .str j/\Q (.bl (!(!(Builtin.Str.occurrences j i 0 j.length 1).isEmpty))) H):=by intro pins s σ H x y v u Q I rx ry h;obtain⟨i,j,rfl,rfl,q⟩:=h;obtain⟨t,rfl⟩:=rx;obtain⟨t',rfl⟩:=ry;exact notIn_str ⟨.bl _,H,I,rfl,q⟩
theorem q3d:qA3 X (.builtin "len") (λ xs H Q=>∃p ys,xs=[.ref p]/\(SqL X.K H p ys\/SqT X.K H p ys)/\Q (.int ys.length) H):=by
 intro pins s σ H xs us Q I r h;obtain⟨p,ys,rfl,hq,q⟩:=h;obtain⟨u,rfl,rx⟩:=vals1 r;cases rx;have hn:=q4u;rcases hq with hq|hq
 ·obtain⟨its,r',pl,hz⟩:=I.list hq;have hlen:=r'.length;exact Calls.call_len_list pl.isList (by simp only[Ql]<;>lia) ⟨.int ys.length,H,I.tok _,⟨s.toks+1,by rw[Ql,hlen]⟩,q⟩
 ·obtain⟨its,r',pl,hz⟩:=I.tuple hq;have hlen:=r'.length;exact len_tuple pl (by simp only[Ql]<;>lia) ⟨.int ys.length,H,I.tok _,⟨s.toks+1,by rw[Ql,hlen]⟩,q⟩
theorem q6G:qA3 X (.builtin "len") (λ xs H Q=>∃z,xs=[.str z]/\z.length<=sizeLine/\Q (.int z.length) H):=by intro pins s σ H xs us Q I r h;obtain⟨z,rfl,hz,q⟩:=h;obtain⟨u,rfl,t,rfl⟩:=vals1 r;have hn:=q4u;exact len_str (by lia) ⟨.int z.length,H,I.tok _,⟨_,rfl⟩,q⟩
theorem q2h:qA3 X (.type "tuple") (λ xs H Q=>∃p ys,xs=[.ref p]/\((SqL X.K H p ys/\∀l,H l=none->Q (.ref l) (upd H l (.tup ys)))\/(SqT X.K H p ys/\Q (.ref p) H))):=by
 intro pins s σ H xs us Q I r h;obtain⟨p,ys,rfl,h⟩:=h;obtain⟨u,rfl,rx⟩:=vals1 r;cases rx;rcases h with ⟨hq,q⟩|⟨hq,q⟩
 ·obtain⟨its,r',pl,hz⟩:=I.list hq;have hlen:=r'.length;refine call_tuple_list pl.isList (λ h' kp=>?_) (by simp only[Ql]<;>lia);have I1:Inv X pins σ H {s with heap:=h'}:=I.kept (t':=s.toks) kp;have I2:Inv X pins σ (upd H h'.objs.size (.tup ys)) {s with heap:=h'.push {cls:= .type "tuple",data:= .seq its.toArray}} :=
   I1.laid (t':=s.toks) (λ b o e=>Heap.get?_push_of_some _ e) (Qf _) (show q1P X.prog X.w _ _ _ (.tup ys) from⟨hz,its,r',IsTup.new _ _⟩)
  exact⟨.ref h'.objs.size,_,I2,rfl,q _ (I1.hok.fresh (Qf _))⟩
 ·obtain⟨its,r',pl,hz⟩:=I.tuple hq;exact call_tuple_same pl ⟨.ref p,H,I,rfl,q⟩
def tyV (K:PySem.W.Frag) (T:String) (x:V) (H:Hp):Prop:=match x with
 | .str _=>T = "str"
 | .int _=>T = "int"
 | .ref p=>(T = "list"/\∃xs,SqL K H p xs)\/(T = "tuple"/\∃o,K.lookup p=some o/\o.cls = .type "tuple"/\o.dict=none)\/
   (T = "dict"/\((∃kvs,H p=some (.dK kvs))\/∃kvs,H p=some (.dT kvs)))\/(T = "set"/\∃S n,H p=some (.set S n))
 |_=>False
theorem q8C {pins:List (Addr×Obj)}{σ:St}{H:Hp}{s:Shared}{T:String}{x:V}{v:Value}(I:Inv X pins σ H s) (r:RelV x v) (ty:tyV X.K T x H) :
  s.TypeIs v T/\∀a,v = .ref a->∃ob,s.heap.get? a=some ob/\ob.dict=none:=by
 cases x with
 |str z =>
  obtain⟨t,rfl⟩:=r;cases (show T = "str" from ty);exact⟨typeIs_str s z t,λ _ e=>nomatch e⟩
 |int i =>
  obtain⟨t,rfl⟩:=r;cases (show T = "int" from ty);exact⟨typeIs_int s i t,λ _ e=>nomatch e⟩
 |ref p =>
  cases r;rcases ty with ⟨rfl,xs,hq⟩|⟨rfl,o,hk,hc,hd⟩|⟨rfl,hk⟩|⟨rfl,S,n,hk⟩
  ·obtain⟨its,_,pl,_⟩:=I.list hq;refine⟨pl.isList.typeIs,λ a e=>?_⟩;cases e;obtain⟨o,n,e,c,hd,_⟩:=pl;exact⟨o,e,hd⟩
  ·refine⟨⟨o,I.kIn p o hk,hc⟩,λ a e=>?_⟩;cases e;exact⟨o,I.kIn _ o hk,hd⟩
  ·have z:∃o,s.heap.get? p=some o/\o.ExactDict:=by
    rcases hk with ⟨kvs,hk⟩|⟨kvs,hk⟩
    ·obtain⟨_,_,_,_,o,_,_,e,ex,_⟩:=I.hok p _ hk;exact⟨o,e,ex⟩
    ·obtain⟨_,_,_,_,o,_,_,e,ex,_⟩:=I.hok p _ hk;exact⟨o,e,ex⟩
   obtain⟨o,e,ex⟩:=z;refine⟨⟨o,e,ex.1⟩,λ a e2=>?_⟩;cases e2;exact⟨o,e,ex.2.1⟩
  ·obtain⟨o,_,_,_,e,ex,_⟩:=I.hok p _ hk;refine⟨⟨o,e,ex.1⟩,λ a e2=>?_⟩;cases e2;exact⟨o,e,ex.2.1⟩
 |_=>exact False.elim ty
variable {o e:Expr}{es:List Expr}{to:TE}{t:TA}{name:Str}{apos cpos:Pos}{T id:String}{r:V->List V->Hp->VK->Prop}
end
end L2
namespace L2
open PySem PySem.Spec PyProof.Rows
def MtM (X:Cx) (id:String) (r:V->List V->Hp->VK->Prop):Prop :=
 ∀(pins:List (Addr×Obj)) (s:Shared) (σ:St) (H:Hp) (x:V) (xs:List V) (v:Value) (us:List Value) (Q:VK),Inv X pins σ H s->RelV x v->Vals xs us->r x xs H Q->
  wpAny (model X.prog X.w) X.A (call (.builtin id) (v::us)) (EP X pins σ Q) X.xe s
theorem Vals.one:∀{x:V}{us:List Value},Vals [x] us->∃u,us=[u]/\RelV x u
 |_,_,.cons r .nil=>⟨_,rfl,r⟩
theorem Vals.rep {xs:List V}{us:List Value}(h:Vals xs us):∀k:Nat,Vals (Qo k xs).flatten (Qo k us).flatten
 |0=> .nil
 |k+1=>by rw[Jb,Jb,Qw,Qw];exact Vals.append h (Vals.rep h k)
section
variable {X:Cx}{pins:List (Addr×Obj)}{σ:St}{H:Hp}{s:Shared}{l b:Addr}{xs ys zs:List V}
theorem Inv.lset {its its':List Value}{n:Nat}{f:Array Value->Array Value}{t':Nat}(I:Inv X pins σ H s) (hH:H l=some (.lst xs))
  (e:s.heap.get? l=some {cls:= .type "list",data:= .seq its.toArray n}) (hf:f its.toArray=its'.toArray) (hv:Vals ys its') (hz:ys.length<=sizeLine) :
  Inv X pins σ (upd H l (.lst ys)) {s with heap:=s.heap.update l (Obj.mapSeq f),toks:=t'}:=by
 have q:=PySem.IsL.update e f;rw[hf] at q;refine I.write (x:=l) (e:=l) (by rw[hH];exact trivial) (.inl rfl) (λ b' u hb hu=>(Heap.get?_update_other s.heap (Obj.mapSeq f) (Ne.symm hb)).trans hu) ⟨_,q⟩ ?_;exact⟨hz,its',_,hv,q⟩
theorem Inv.lnew {its:List Value}{t':Nat}(I:Inv X pins σ H s) (hv:Vals ys its) (hz:ys.length<=sizeLine) :
  Inv X pins σ (upd H s.heap.objs.size (.lst ys)) {s with heap:=s.heap.push {cls:= .type "list",data:= .seq its.toArray},toks:=t'} :=
 I.laid (λ _ _ q=>Heap.get?_push_of_some _ q) (Qf _) ⟨hz,its,0,hv,Heap.get?_push_size _ rfl⟩
theorem Inv.fresh (I:Inv X pins σ H s):H s.heap.objs.size=none:=I.hok.fresh (Qf _)
theorem Inv.lstM (I:Inv X pins σ H s) (hH:H l=some (.lst xs)):xs.length<=sizeLine/\∃(its:List Value) (n:Nat),Vals xs its/\xs.length=its.length/\s.heap.get? l=some {cls:= .type "list",data:= .seq its.toArray n}:=by obtain⟨z,its,n,r,e⟩:=I.hok l _ hH;exact⟨z,its,n,r,r.length,e⟩
theorem qC3 {n:Nat}(h:n<=sizeLine):Builtin.List.listTooLong n=false:=by unfold Builtin.List.listTooLong;exact decide_eq_false (by lia)
end
section
variable {X:Cx}
def qEI:V->List V->Hp->VK->Prop:=λ x vs H Q=>∃l xs y,x = .ref l/\vs=[y]/\H l=some (.lst xs)/\xs.length<sizeLine/\Q .non (upd H l (.lst (xs++[y])))
theorem q6H:MtM X "list.append" qEI:=by intro pins s σ H x vs v us Q I rx rv h;obtain⟨l,xs,y,rfl,rfl,hH,hz,q⟩:=h;cases rx;obtain⟨u,rfl,ru⟩:=rv.one;obtain⟨z,its,n,r,hl,e⟩:=I.lstM hH;refine call_meets F.slot_list_append ⟨_,e,rfl⟩ F.entry_list_append (F.args_list_append_2 _ _) (PySem.list_append l its.toArray n u (by rw[Ql];lia)) ⟨e,?_⟩;refine⟨.non,_,I.lset (its':=its++[u]) hH e (by simp) (r.append (.cons ru .nil)) ?_,rfl,q⟩;rw[Qj,Qx];lia
theorem len_rep {α:Type}(xs:List α) (k:Nat):(Qo k xs).flatten.length=k*xs.length:=by
 induction k with
 |zero=>simp
 |succ k ih=>rw[Jb,Qw,Qj,ih,Nat.succ_mul,Nat.add_comm]
end
end L2
namespace Att
open PySem PySem.W PySem.Calls PyProof.Rows
theorem q46 {P:Params}{h:Heap}:∀(ns:List Int) (vs:List Value),WellAll P h vs (ns.map WData.int)->IntsAre vs ns:=by
 intro ns
 induction ns with
 |nil =>
  intro vs w;rw[List.map_nil] at w;cases w;exact .nil
 |cons n ns ih =>
  intro vs w;rw[Qz] at w;cases w with
  |cons a b =>
   cases a;exact .cons _ _ (ih _ b)
theorem qAA {l:OpenLaw}{n:Nat}(hn:l.most=some n) {P:Params}{h:Heap}{args:List WData}{vals:List Value}
  (hpre:l.row.toRowW.claim.pre args=true) (hwl:WellAll P h vals args) :
  ∃a vs ns,vals=[Value.ref a]/\args=[WData.list (ns.map WData.int)]/\h.get? a=some {cls:= .type "list",data:= .seq vs.toArray}/\IntsAre vs ns/\ns.length<=n:=by
 have hsh:WShape.hasAll [] args [.list .int]=true:=(pre_splitW hpre).1;have hc:l.pre.holds [] {args:=args}=true:=(pre_splitW hpre).2;obtain⟨d,r,rfl,h1,h2⟩:=hasAllW_cons hsh;obtain rfl:=hasAllW_nil h2;obtain⟨xs,rfl,h3⟩:=hasW_list h1;obtain⟨ns,rfl⟩:=items_int h3;have hlen:ns.length<=n:=by
  unfold OpenLaw.pre at hc;have h4:(WTm.not (.lt (.lit (.int (n:Int))) (.len (.arg 0)))).holds [] {args:=[.list (ns.map .int)]}=true:=by have h4:=(holds_andW hc).1;rw[hn] at h4;exact h4
  have h5:=condW_of h4 (w_not (w_lt w_lit (w_len_list (w_arg rfl))));rw[Qe] at h5;refine Nat.le_of_not_lt λ q=>?_;have q':(n:Int)<((ns.length:Nat):Int):=by lia
  first
   |(rw[decide_eq_true q'] at h5;exact absurd h5 (by decide))
   |(simp at h5;lia)
 cases hwl with
 |cons w1 w2 =>
  cases w2;cases w1 with
  |list ho hall=>exact⟨_,_,ns,rfl,rfl,ho,q46 ns _ hall,hlen⟩
theorem qAB (l:OpenLaw) (args:List WData):l.row.toRowW.claim.post args (.bool true) args=true :=
 postW_of (r:=l.row.toRowW) (X:=(true==true))
  (show WShape.has [] (.bool true) .bool=true by first|rfl|decide|simp[WShape.has,WShape.arms,WShape.armsAll])
  (show (WTm.eq .res (.lit (.bool true))).value [] {args:=args,res:=some (.bool true),after:=args}=some (.bool (true==true)) from w_eq_bool (w_res rfl) w_lit) rfl
theorem q7T {l:OpenLaw}{n:Nat}{q:Program}{loose:List Str}{XP:(Str->Option Value)->Heap->Prop}{YP:World->Heap->Prop}{d:DefRec}
  (hn:l.most=some n) (hdf:d.params.defaults=[])
  (call:∀(w:World) (s₀ s₁:Shared) (mg mb:Str->Option Value) (fa:Addr) (o:Obj) (pm cd doc:Value) (a:Addr) (vs:List Value) (ns:List Int),
   Ground q loose [] XP w s₀ mg mb s₁.heap->YP w s₁.heap->
   s₁.heap.get? fa=some o->o.data = .func (docDef d.name d.params d.body d.scope pm cd doc)->s₁.heap.CodeRec cd d.name->mg d.name=some (.ref fa)->
   s₁.heap.get? a=some {cls:= .type "list",data:= .seq vs.toArray}->IntsAre vs ns->ns.length<=n->s₁.gens=#[]->
   codeAny (model l.prog w) callerA (.call (.ref fa) ⟨[.ref a],[]⟩) (λ r s'=>r = .ok (.ret (.bool true))/\OldK s₁.heap s'.heap/\s'.os=s₁.os/\AllBare s'.gens) s₁) :
  WalkO q loose XP YP l.row.toRowW d [] (λ f vs=>PySem.call f vs):=by
 intro w s₀ s₁ mg mb G Y fa o pm cd doc dV kV ho hd hcd hD hmg hg args vals as hpre hlay hrd hwl hlo;obtain rfl:dV = .none:=Dflts.none hD hdf;obtain rfl:kV = .none:=Dflts.noKw hD;obtain⟨a,vs,ns,rfl,rfl,hobj,hints,hlen⟩:=qAA hn hpre hwl;refine enter_call (codeAny_mono (call w s₀ s₁ mg mb fa o pm cd doc a vs ns G Y ho (fd_plain hd) hcd hmg hobj hints hlen hg) λ r s' hq=>?_);obtain⟨rfl,h2,h3,h4⟩:=hq;exact⟨.inl ⟨.bool true,.bool true,[],rfl,λ _=>rfl,.bool true,qAB l _,λ _=>⟨List.Pairwise.nil,λ _ hm=>(nomatch hm)⟩⟩,h2,h3,h4⟩
end Att
namespace L2
open PySem PySem.Spec PyProof.Rows
theorem q6I:∀{vs:List Value}{ns:List Int},IntsAre vs ns->Vals (ns.map V.int) vs
 |_,_,.nil=> .nil
 |_,_,.cons n t h=> .cons ⟨t,rfl⟩ (q6I h)
def Only (H:Hp):Prop:=∀b,H b=none\/∃o xs,H b=some (.frz o (.lst xs))
theorem qC4 {P:Program}{w:World}{K:PySem.W.Frag}{mg mb:Str->Option Value}{CX:CXT}{k:Nat}{fa a:Addr}{fd:FuncData}{x:Str}{sp:Sp}{s₁:Shared}{vs:List Value}{ns:List Int}
  (KX:K.In s₁.heap) (hns:s₁.heap.Ns mainGlobals mg) (hb:s₁.heap.Ns builtinsNs mb) (hbb:∀x:Str,x ≠ "__name__"->mb x=bootBuiltins x) (hlim:s₁.heap.NoLimit) (hg:s₁.gens=#[])
  (ha:s₁.heap.get? a=some {cls:= .type "list",data:= .seq vs.toArray}) (hi:IntsAre vs ns) (hl:ns.length<=sizeLine) (hr:Room k callerA)
  (F:∀base:Heap,K.In base->base.Ns mainGlobals mg->FnOk P w K mg base CX k fa fd [x] sp) (hbind:∀(s:Shared) (u:Value),BindsTo s fd ⟨[u],[]⟩ [(x,u)])
  (hsp:∀H:Hp,Only H->SqL K H a (ns.map V.int)->sp [.ref a] H (λ v _=>v = .bl true) λ _ _ _=>False)
  (hCX:∀H e s',CX [] H s₁ (λ _ _ _=>False) e s'->False) :
  codeAny (model P w) callerA (.call (.ref fa) ⟨[.ref a],[]⟩) (λ r s'=>r = .ok (.ret (.bool true))/\OldK s₁.heap s'.heap/\s'.os=s₁.os/\AllBare s'.gens) s₁:=by
 have rv:=q6I hi;have lenV:=hi.length;have core:∀H:Hp,Only H->SqL K H a (ns.map V.int)->HOk P w H s₁.heap->(∀b,H b≠none->b=a)->(H a≠none->K.lookup a=none)->
   codeAny (model P w) callerA (.call (.ref fa) ⟨[.ref a],[]⟩) (λ r s'=>r = .ok (.ret (.bool true))/\OldK s₁.heap s'.heap/\s'.os=s₁.os/\AllBare s'.gens) s₁:=by
  intro H hO hS hok hA hK;have base_of:∀{b:Addr}{o:Obj},s₁.heap.get? b=some o->H b=none->(hidT s₁.heap H).get? b=some o:=λ e n=>qBy e n;have noA:∀{b:Addr}{o:Obj}{es:Array DictEntry}{ep:Nat},s₁.heap.get? b=some o->o.data = .dict es ep->H b=none:=λ {b o es ep} e d=>by
   cases q:H b with
   |none=>rfl
   |some u =>
    have e':b=a:=hA b (by rw[q];simp);subst e';rw[ha] at e;cases e;have d':Data.seq vs.toArray _=Data.dict es ep:=d;cases d'
  have nsK:∀{b:Addr}{m:Str->Option Value},s₁.heap.Ns b m->(hidT s₁.heap H).Ns b m:=λ {b m} ⟨o,es,ep,e,d,r⟩=>⟨o,es,ep,base_of e (noA e d),d,r⟩
  have hKb:K.In (hidT s₁.heap H):=λ b o e=>base_of (KX b o e) (by
   cases q:H b with
   |none=>rfl
   |some u =>
    have e':b=a:=hA b (by rw[q];simp);subst e';rw[hK (by rw[q];simp)] at e;cases e)
  have hM:Mod K mg (hidT s₁.heap H):=⟨hKb,nsK hns,⟨mb,nsK hb,hbb⟩,let ⟨mc,h1,h2⟩:=hlim;⟨mc,nsK h1,h2⟩⟩
  have e0:Env0 P w K mg (hidT s₁.heap H) callerA [] s₁ H:=⟨rfl,hM,λ b o e=>qE8 e,Nat.le_of_eq (q9w _ _),trivial,λ b hb=>absurd (show b∈([]:List Addr) from hb) (by simp),hok,.of_eq hg⟩
  refine codeAny_mono ((F _ hKb (nsK hns)).run callerA [] s₁ H ⟨[.ref a],[]⟩ [.ref a] [.ref a] _ _ hr e0 (hbind s₁ (.ref a)) (.cons rfl .nil) (hsp H hO hS)) λ r s' h=>?_;cases r with
  |error e=>exact (hCX H e s' h).elim
  |ok fl =>
   cases fl with
   |next=>exact False.elim h
   |brk=>exact False.elim h
   |cont=>exact False.elim h
   |ret u =>
    obtain⟨v,H',os,bare,un,hok',r',q⟩:=h;have q':v = .bl true:=q;subst q';obtain rfl:u=Value.bool true:=r';refine⟨rfl,OldK.of_keep λ b o e=>?_,os,bare⟩;cases q:H b with
    |none=>exact un.keep b o e q (by intro z;exact absurd (show b∈([]:List Addr) from z) (by simp)) (by simp)
    |some u =>
     rcases hO b with z|⟨ob,xs,z⟩
     ·rw[q] at z;cases z
     ·have z2:=un.frzs b ob _ z;obtain⟨e1,_⟩:=hok b _ z;obtain⟨e2,_⟩:=hok' b _ z2;rw[e] at e1;cases e1;exact e2
 cases hk:K.lookup a with
 |some o =>
  have e:=KX a o hk;rw[ha] at e;cases e;refine core (λ _=>none) (λ _=> .inl rfl) (.inr ⟨_,vs.toArray,_,hk,rfl,rfl,rfl,by rw[Ql,lenV];exact hl,by simpa using rv⟩) (λ b u z=>by have z':(none:Option HO)=some u:=z;cases z') (λ b z=>absurd rfl z) λ z=>absurd rfl z
 |none =>
  refine core (λ b=>if b=a then some (.frz {cls:= .type "list",data:= .seq vs.toArray} (.lst (ns.map V.int))) else none) (λ b=>?_) (.inl (.inr ⟨{cls:= .type "list",data:= .seq vs.toArray},if_pos rfl⟩)) (λ b u z=>?_) (λ b z=>?_) λ _=>hk
  ·by_cases hb:b=a
   ·exact .inr ⟨_,_,if_pos hb⟩
   ·exact .inl (if_neg hb)
  ·by_cases hb:b=a
   ·have z':=(if_pos hb).symm.trans z;cases z';subst hb;exact⟨ha,by rw[Qe];exact hl,vs,_,rv,ha⟩
   ·have z':=(if_neg hb).symm.trans z;cases z'
  ·by_cases hb:b=a
   ·exact hb
   ·exact absurd (if_neg hb) z
end L2
namespace L2
open PySem PySem.Spec PyProof.Rows
abbrev KOf {K:PySem.W.Frag}{h:Heap}(_:K.In h):PySem.W.Frag:=K
theorem qEJ {l:PySem.W.OpenLaw}{n k:Nat}{q:Program}{loose:List Str}{XP:(Str->Option Value)->Heap->Prop}{YP:World->Heap->Prop}{d:DefRec}{K:Params->PySem.W.Frag}{CX:World->CXT}{sp:World->Sp}{x:Str}
  (hn:l.most=some n) (hn2:n<=sizeLine) (hdf:d.params.defaults=[]) (hr:Room k callerA)
  (hY:∀(w:World) (h:Heap),YP w h->(K w.params).In h)
  (F:∀(w:World) (mg:Str->Option Value) (fa:Addr) (h:Heap),(K w.params).In h->h.Ns mainGlobals mg->mg d.name=some (.ref fa)->
   ∃fd:FuncData,(∀(s:Shared) (u:Value),BindsTo s fd ⟨[u],[]⟩ [(x,u)])/\
    ∀base:Heap,(K w.params).In base->base.Ns mainGlobals mg->FnOk l.prog w (K w.params) mg base (CX w) k fa fd [x] (sp w))
  (hsp:∀(w:World) (H:Hp) (a:Addr) (ns:List Int),ns.length<=n->Only H->SqL (K w.params) H a (ns.map V.int)->sp w [.ref a] H (λ v _=>v = .bl true) λ _ _ _=>False)
  (hCX:∀(w:World) (H:Hp) (s:Shared) (e:Value) (s':Shared),CX w [] H s (λ _ _ _=>False) e s'->False) :
  PySem.W.WalkO q loose XP YP l.row.toRowW d [] (λ f vs=>PySem.call f vs):=by
 refine Att.q7T hn hdf λ w s₀ s₁ mg mb fa o pm cd doc a vs ns G Y ho hd hcd hmg hobj hints hlen hg=>?_;have KX:=hY w _ Y;obtain⟨fd,hb,hF⟩:=F w mg fa _ KX G.T.g hmg;exact qC4 KX G.T.g G.T.b G.T.builtins G.T.nolimit hg hobj hints (Qt hlen hn2) hr hF hb (λ H hO hS=>hsp w H a ns hlen hO hS) λ H e s'=>hCX w H s₁ e s'
end L2
namespace L2
open PySem PySem.Spec PyProof.Rows
def q3E (s:Stmt):Arguments:=match s with
 | .FunctionDef _ a _ _ _ _ _ _ _ _=>a
 |_=>{posonlyargs:=[],args:=[],vararg:=none,kwonlyargs:=[],kw_defaults:=[],kwarg:=none,defaults:=[]}
def q2R (s:Stmt):List Stmt:=match s with
 | .FunctionDef _ _ b _ _ _ _ _ _ _=>b
 |_=>[]
def q1L (s:Stmt):Scope:=match s with
 | .FunctionDef _ _ _ _ _ _ sc _ _ _=>sc
 |_=>{kind:= .function,names:=[],isGenerator:=false,isCoroutine:=false}
structure Fun (K:PySem.W.Frag) (x qual:Str) (st:Stmt) (f:Addr) (fd:FuncData):Prop where
 ex:∃(oc:Value) (od:Option Addr) (kV doc pm:Value) (an:Option Addr) (cdv ct:Value) (osl:Array (Option Value)),
  fd=PySem.W.fnOf x qual (q3E st) (q2R st) (q1L st) .none kV doc pm an cdv ct/\K.lookup f=some ⟨oc,od,.func fd,osl⟩/\PySem.W.codeIn K cdv qual=true
 kp:PySem.W.keepIn K (.ref f)=true
section
variable {P:Program}{w:World}{K:PySem.W.Frag}{mg:Str->Option Value}{base:Heap}
theorem Fun.binds {x qual:Str}{st:Stmt}{f:Addr}{fd:FuncData}{ps:List Str}(F:Fun K x qual st f fd)
  (h:∀(kV doc pm:Value) (an:Option Addr) (cdv ct:Value) (us:List Value),us.length=ps.length->bindArgs (PySem.W.fnOf x qual (q3E st) (q2R st) (q1L st) .none kV doc pm an cdv ct) ⟨us,[]⟩=pure (ps.zip us)):Binds K fd ps []:=by
 obtain⟨oc,od,kV,doc,pm,an,cdv,ct,osl,rfl,lk,hcd⟩:=F.ex;exact .all (h kV doc pm an cdv ct)
theorem qGa {x qual:Str}{st:Stmt}{f:Addr}{oc:Value}{od an:Option Addr}{osl:Array (Option Value)}{kV doc pm cdv ct:Value}(l:K.lookup f=some ⟨oc,od,.func (PySem.W.fnOf x qual (q3E st) (q2R st) (q1L st) .none kV doc pm an cdv ct),osl⟩)
  (c:PySem.W.codeIn K cdv qual=true) (k:PySem.W.keepIn K (.ref f)=true):Fun K x qual st f (PySem.W.fnOf x qual (q3E st) (q2R st) (q1L st) .none kV doc pm an cdv ct):=⟨⟨oc,od,kV,doc,pm,an,cdv,ct,osl,rfl,l,c⟩,k⟩
end
end L2
set_option autoImplicit false
namespace Ev
theorem oB {α β:Type}{o:Option α}{f:α->Option β}{b:β}(h:o.bind f=some b):∃a,o=some a/\f a=some b:=Option.bind_eq_some_iff.mp h
theorem oM {α β:Type}{o:Option α}{f:α->β}{b:β}(h:o.map f=some b):∃a,o=some a/\f a=b:=QO.mp h
open PySem
inductive D where
 |non|bl (b:Bool)|int (i:Int)|str (x:Str)|tup (xs:List D)|lst (xs:List D)|dct (ks vs:List D)|exc (c:Nat)
 deriving Inhabited
inductive R (α:Type) where
 |ok (a:α)|err (c:Nat)|stuck
 deriving Inhabited
noncomputable def R.bind {α β:Type}:R α->(α->R β)->R β
 | .ok a,f=>f a
 | .err c,_=> .err c
 | .stuck,_=> .stuck
@[simp] theorem q00 {α β:Type}(a:α) (f:α->R β):(R.ok a).bind f=f a:=rfl
@[simp] theorem qIg {α β:Type}(c:Nat) (f:α->R β):(R.err c).bind f = .err c:=rfl
@[simp] theorem qG7 {α β:Type}(f:α->R β):(R.stuck:R α).bind f = .stuck:=rfl
noncomputable def b2i (b:Bool):Int:=if b then 1 else 0
mutual
noncomputable def eqb:D->D->Bool
 | .non,.non=>true
 | .bl a,.bl b=>a==b
 | .int a,.int b=>decide (a=b)
 | .bl a,.int b=>decide (b2i a=b)
 | .int a,.bl b=>decide (a=b2i b)
 | .str a,.str b=>decide (a=b)
 | .tup a,.tup b=>eqbL a b
 | .lst a,.lst b=>eqbL a b
 |_,_=>false
noncomputable def eqbL:List D->List D->Bool
 |[],[]=>true
 |a::l,b::m=>eqb a b&&eqbL l m
 |_,_=>false
end
noncomputable def plN:Nat->D->Bool
 |_,.non=>true
 |_,.bl _=>true
 |_,.int _=>true
 |_,.str _=>true
 |k+1,.tup a=>a.all (plN k)
 |k+1,.lst a=>a.all (plN k)
 |_,_=>false
noncomputable def pl (d:D):Bool:=plN 8 d
noncomputable def plL (l:List D):Bool:=l.all pl
mutual
noncomputable def ltb:D->D->Bool
 | .int a,.int b=>decide (a<b)
 | .tup a,.tup b=>ltbL a b
 | .lst a,.lst b=>ltbL a b
 |_,_=>false
noncomputable def ltbL:List D->List D->Bool
 |[],_::_=>true
 |a::l,b::m=>if eqb a b then ltbL l m else ltb a b
 |_,[]=>false
end
mutual
noncomputable def q0e:D->D->Bool
 | .int _,.int _=>true
 | .tup a,.tup b=>q0Y a b
 | .lst a,.lst b=>q0Y a b
 |_,_=>false
noncomputable def q0Y:List D->List D->Bool
 |a::l,b::m=>if eqb a b then q0Y l m else q0e a b
 |_,_=>true
end
mutual
noncomputable def q02:D->Bool
 | .int _=>true
 | .tup a=>q09 a
 |_=>false
noncomputable def q09:List D->Bool
 |[]=>true
 |a::l=>q02 a&&q09 l
end
noncomputable def ins (x:D):List D->List D
 |[]=>[x]
 |y::l=>if ltb x y then x::y::l else y::ins x l
noncomputable def q1y:List D->List D
 |[]=>[]
 |x::l=>ins x (q1y l)
noncomputable def q5Q (p:D->D->Bool) (l:List D):Bool:=l.all λ a=>l.all λ b=>p a b
noncomputable def dedup:List D->List D
 |[]=>[]
 |x::l=>if l.any (eqb x) then dedup l else x::dedup l
noncomputable def qEK (l:List D):Bool:=decide ((dedup l).length=l.length)
noncomputable def tr:D->R Bool
 | .non=> .ok false
 | .bl b=> .ok b
 | .int i=> .ok (i != 0)
 | .str x=> .ok (x.length != 0)
 | .tup xs=> .ok (!xs.isEmpty)
 | .lst xs=> .ok (!xs.isEmpty)
 | .dct _ _=> .stuck
 | .exc _=> .stuck
inductive Op2 where|add|sub|mul|fdiv|mod|shl|shr|band|bor|bxor
 deriving DecidableEq,Repr
inductive Cm where|eq|ne|lt|le|gt|ge|isN|notN|mem|nmem
 deriving DecidableEq,Repr
inductive Bi where
 |len|sorted|sortedRev|sortedSet|tuple|list|sum|all|bits|count|index|min2|max2|any|maxT|strI|split|join|endsw|fmt|toInt|abs|isTup|isLst|isInt|isBool|isVal|isExc (c:Nat)
 deriving DecidableEq,Repr
noncomputable def big:Nat:=1000000
noncomputable def lstD (f:List D->R D):D->R D
 | .lst xs=>f xs
 |_=> .stuck
noncomputable def intD (f:Int->R D):D->R D
 | .int i=>f i
 |_=> .stuck
noncomputable def tupD (f:List D->R D):D->R D
 | .tup xs=>f xs
 |_=> .stuck
noncomputable def strD (f:Str->R D):D->R D
 | .str x=>f x
 |_=> .stuck
noncomputable def nonD (r:R D):D->R D
 | .non=>r
 |_=> .stuck
noncomputable def addD (x y:D):R D:=match x with
 | .int a=>intD (λ b=> .ok (.int (a+b))) y
 | .lst a=>lstD (λ b=>if a.length+b.length<=big then .ok (.lst (a++b)) else .stuck) y
 | .tup a=>tupD (λ b=>if a.length+b.length<=big then .ok (.tup (a++b)) else .stuck) y
 | .str a=>strD (λ b=>if a.length+b.length<=big then .ok (.str (a++b)) else .stuck) y
 |_=> .stuck
noncomputable def mulD (x y:D):R D:=match x with
 | .int a=>intD (λ b=>if (-(2^62)<a/\a<2^62)\/(-(2^62)<b/\b<2^62) then .ok (.int (a*b)) else .stuck) y
 | .lst a=>intD (λ k=>if 0<=k/\k<=1000/\a.length*k.toNat<=big then .ok (.lst (Qo k.toNat a).flatten) else .stuck) y
 |_=> .stuck
noncomputable def opI:Op2->Int->Int->R D
 | .sub,a,b=> .ok (.int (a-b))
 | .fdiv,a,b=>if 0<b/\b<1073741824 then .ok (.int (a / b)) else .stuck
 | .mod,a,b=>if 0<b then .ok (.int (a % b)) else .stuck
 | .shl,a,b=>if 0<=a/\a<2^62/\0<=b/\b<=1000 then .ok (.int ((a.toNat <<< b.toNat:Nat):Int)) else .stuck
 | .shr,a,b=>if 0<=a/\0<=b then .ok (.int ((a.toNat >>> b.toNat:Nat):Int)) else .stuck
 | .band,a,b=>if 0<=a/\0<=b then .ok (.int ((a.toNat &&& b.toNat:Nat):Int)) else .stuck
 | .bor,a,b=>if 0<=a/\0<=b then .ok (.int ((a.toNat ||| b.toNat:Nat):Int)) else .stuck
 | .bxor,a,b=>if 0<=a/\0<=b then .ok (.int ((a.toNat ^^^ b.toNat:Nat):Int)) else .stuck
 |_,_,_=> .stuck
noncomputable def opD (o:Op2) (x y:D):R D:=match o with
 | .add=>addD x y
 | .mul=>mulD x y
 |_=>intD (λ a=>intD (opI o a) y) x
theorem q6J (o:Op2) (h:o ≠ .add) (h2:o ≠ .mul) (a b:Int):opD o (.int a) (.int b)=opI o a b:=by
 unfold opD;split
 ·exact absurd rfl h
 ·exact absurd rfl h2
 ·dsimp only[intD]
noncomputable def mkS (l:List Nat):Str:=⟨l.toArray⟩
noncomputable def chrs (x:Str):List D:=x.cps.toList.map λ c=> .str (mkS [c])
noncomputable def q03 (c:Nat):List Nat->List (List Nat)
 |[]=>[[]]
 |x::l=>if x=c then []::q03 c l else (q03 c l).modifyHead (x::·)
noncomputable def strs?:List D->Option (List Str)
 |[]=>some []
 | .str i::l=>(strs? l).map (i::·)
 |_=>none
noncomputable def one? (x:Str):Option Nat:=match x.cps.toList with
 |[c]=>some c
 |_=>none
noncomputable def oneS (f:Nat->R D) (y:Str):R D:=match one? y with
 |some c=>f c
 |none=> .stuck
noncomputable def strI (a:Int):R Str:=if 0<=a/\a<1000 then .ok (Str.ofString (toString a)) else .stuck
noncomputable def q0f (c:Nat):Bool:=decide (48<=c)&&decide (c<=57)
noncomputable def digI (x:Str):R D:=match x.cps.toList with
 |[a]=>if q0f a then .ok (.int (a-48:Nat)) else .stuck
 |[a,b]=>if q0f a&&q0f b then .ok (.int (10*(a-48)+(b-48):Nat)) else .stuck
 |_=> .stuck
noncomputable def q8D (x:Str) (y:Str):R D:=oneS (λ c=>if x.length<=100000/\c<256 then .ok (.lst ((q03 c x.cps.toList).map λ l=> .str (mkS l))) else .stuck) y
noncomputable def q4n (y:Str) (xs:List D):R D:=match strs? xs with
 |some l=>if l.length<=1000/\y.length<=10/\l.all (λ z=>decide (z.length<=900))=true then .ok (.str (Str.join y l)) else .stuck
 |none=> .stuck
noncomputable def endD (x y:Str):R D:=oneS (λ c=> .ok (.bl (decide (x.cps.toList.getLast? = some c)))) y
noncomputable def fmtD (x:Str) (a:Int) (y:Str):R D:=if x.length<=1000/\y.length<=1000 then (strI a).bind λ z=> .ok (.str (x++z++y)) else .stuck
noncomputable def memS (z:Str):D->R Bool
 | .str y=>match one? y with
  |some c=> .ok (decide (c∈z.cps.toList))
  |none=> .stuck
 |_=> .stuck
noncomputable def memD (x:D):D->R Bool
 | .lst xs=>if pl x&&plL xs then .ok (xs.any λ y=>eqb y x) else .stuck
 | .tup xs=>if pl x&&plL xs then .ok (xs.any λ y=>eqb y x) else .stuck
 | .dct ks _=>match x with
  | .int i=> .ok (ks.any λ y=>eqb y (.int i))
  |_=> .stuck
 | .str z=>memS z x
 |_=> .stuck
noncomputable def cmD (o:Cm) (a b:D):R D:=match o with
 | .eq=>if pl a&&pl b then .ok (.bl (eqb a b)) else .stuck
 | .ne=>if pl a&&pl b then .ok (.bl (!eqb a b)) else .stuck
 | .lt=>if pl a&&pl b&&q02 a&&q02 b&&q0e a b then .ok (.bl (ltb a b)) else .stuck
 | .gt=>intD (λ a=>intD (λ b=> .ok (.bl (decide (b<a)))) b) a
 | .le=>intD (λ a=>intD (λ b=> .ok (.bl (decide (a<=b)))) b) a
 | .ge=>if pl a&&pl b&&q02 a&&q02 b&&q0e a b then .ok (.bl (!ltb a b)) else .stuck
 | .isN=>nonD (.ok (.bl (match a with | .non=>true|_=>false))) b
 | .notN=>nonD (.ok (.bl (match a with | .non=>false|_=>true))) b
 | .mem=>(memD a b).bind λ r=> .ok (.bl r)
 | .nmem=>(memD a b).bind λ r=> .ok (.bl (!r))
noncomputable def nth (xs:List D) (i:Int):R D :=
 match (if 0<=i then xs[i.toNat]? else if -(xs.length:Int)<=i then xs[(i+xs.length).toNat]? else none) with
 |some d=> .ok d
 |none=> .stuck
noncomputable def look (i:Int):List D->List D->R D
 | .int k::ks,v::vs=>if k=i then .ok v else look i ks vs
 |_,_=> .stuck
noncomputable def put (i:Int) (x:D):List D->List D->R (List D×List D)
 |[],[]=> .ok ([.int i],[x])
 | .int k::ks,v::vs=>if k=i then .ok (.int k::ks,x::vs) else (put i x ks vs).bind λ r=> .ok (.int k::r.1,v::r.2)
 |_,_=> .stuck
noncomputable def idxD:D->D->R D
 | .lst xs,.int i=>nth xs i
 | .tup xs,.int i=>nth xs i
 | .dct ks vs,.int i=>look i ks vs
 | .str x,.int i=>nth (chrs x) i
 |_,_=> .stuck
noncomputable def bnd (n d:Nat):Option Int->Nat
 |none=>d
 |some v=>if v<0 then (v+n).toNat else min v.toNat n
noncomputable def cutL {α:Type}(xs:List α) (lo hi:Option Int):List α:=(xs.drop (bnd xs.length 0 lo)).take (bnd xs.length xs.length hi-bnd xs.length 0 lo)
noncomputable def q2S {α:Type}:List α->List α
 |[]=>[]
 |[a]=>[a]
 |[a,_]=>[a]
 |a::_::_::l=>a::q2S l
noncomputable def slD (st:Nat) (lo hi:Option Int):D->R D
 | .lst xs=>if st=0 then .ok (.lst (cutL xs lo hi)) else if st=1 then .ok (.lst xs.reverse) else if st=3 then .ok (.lst (q2S xs)) else .stuck
 | .tup xs=>if st=0 then .ok (.tup (cutL xs lo hi)) else .stuck
 | .str x=>if st=0/\x.length<=big then .ok (.str (mkS (cutL x.cps.toList lo hi))) else .stuck
 |_=> .stuck
noncomputable def ints?:List D->Option (List Int)
 |[]=>some []
 | .int i::l=>(ints? l).map (i::·)
 |_=>none
noncomputable def bools?:List D->Option (List Bool)
 |[]=>some []
 | .bl i::l=>(bools? l).map (i::·)
 |_=>none
noncomputable def q2M:D->R (List D)
 | .lst xs=> .ok xs
 | .tup xs=> .ok xs
 | .dct ks _=>if (ints? ks).isSome then .ok ks else .stuck
 |_=> .stuck
noncomputable def q2i:D->R (List D)
 | .lst xs=> .ok xs
 | .tup xs=> .ok xs
 | .dct ks _=>if (ints? ks).isSome then .ok ks else .stuck
 | .str x=> .ok (chrs x)
 |_=> .stuck
noncomputable def q1M:D->R (List D)
 | .lst xs=> .ok xs
 | .tup xs=> .ok xs
 |_=> .stuck
noncomputable def q47:D->Bool
 | .int _=>true
 |_=>false
noncomputable def q1W:D->Bool
 | .tup (.int _::_)=>true
 |_=>false
noncomputable def q1X:D->Bool
 | .tup []=>true
 | .tup (.int _::_)=>true
 |_=>false
noncomputable def q1t (xs:List D):Bool:=decide (xs.length<64)&&q09 xs&&plL xs&&q5Q q0e xs&&qEK xs&&(xs.all q47 || xs.all q1X)
noncomputable def idxOf (x:D):List D->Nat->R D
 |[],_=> .stuck
 |y::l,n=>if eqb y x then .ok (.int n) else idxOf x l (n+1)
noncomputable def oneD (f:D->R D):List D->R D
 |[d]=>f d
 |_=> .stuck
noncomputable def twoD (f:D->D->R D):List D->R D
 |[d,e]=>f d e
 |_=> .stuck
noncomputable def qDX (f:D->D->D->R D):List D->R D
 |[d,e,g]=>f d e g
 |_=> .stuck
noncomputable def lenD:D->R D
 | .lst xs=> .ok (.int xs.length)
 | .tup xs=> .ok (.int xs.length)
 | .dct ks _=> .ok (.int ks.length)
 | .str x=> .ok (.int x.length)
 |_=> .stuck
noncomputable def seqD (f:List D->R D):D->R D
 | .lst xs=>f xs
 | .tup xs=>f xs
 |_=> .stuck
noncomputable def qGb:D->R D
 | .int a=> .ok (.int a)
 | .bl a=> .ok (.int (b2i a))
 | .str x=>digI x
 |_=> .stuck
noncomputable def qEL:D->R D
 | .int _=> .ok (.bl false)
 | .bl _=> .ok (.bl true)
 |_=> .stuck
noncomputable def qGc:D->R D
 | .tup _=> .ok (.bl true)
 |_=> .stuck
noncomputable def excD (f:Nat->R D):D->R D
 | .exc c=>f c
 |_=> .stuck
noncomputable def sumD (xs:List D):R D:=match ints? xs with
 |some ns=> .ok (.int ns.sum)
 |none=> .stuck
noncomputable def allD (xs:List D):R D:=match bools? xs with
 |some bs=> .ok (.bl (bs.all id))
 |none=> .stuck
noncomputable def anyD (xs:List D):R D:=match bools? xs with
 |some bs=> .ok (.bl (bs.any id))
 |none=> .stuck
noncomputable def qGd:List Int->Int->Int
 |[],b=>b
 |x::l,b=>qGd l (if b<x then x else b)
noncomputable def maxD (xs:List D):R D:=match ints? xs with
 |some (n::ns)=> .ok (.int (qGd ns n))
 |_=> .stuck
noncomputable def biD (sub:Nat->Nat->Bool) (b:Bi) (ds:List D):R D:=match b with
 | .len=>oneD lenD ds
 | .sorted=>oneD (λ d=>(q2M d).bind λ xs=>if q1t xs then .ok (.lst (q1y xs)) else .stuck) ds
 | .sortedRev=>oneD (λ d=>(q2M d).bind λ xs=>if q1t xs&&xs.all q47 then .ok (.lst (q1y xs).reverse) else .stuck) ds
 | .sortedSet=>oneD (λ d=>(q1M d).bind λ xs=>if q09 xs&&plL xs&&decide (xs.length<=1000)&&q1t (dedup xs) then .ok (.lst (q1y (dedup xs))) else .stuck) ds
 | .tuple=>oneD (seqD λ xs=> .ok (.tup xs)) ds
 | .list=>oneD (seqD λ xs=> .ok (.lst xs)) ds
 | .sum=>oneD (lstD sumD) ds
 | .all=>oneD (lstD allD) ds
 | .bits=>oneD (intD λ i=>if 0<=i then .ok (.int (if i=0 then 0 else ((i.toNat.log2+1:Nat):Int))) else .stuck) ds
 | .count=>twoD (λ d x=>lstD (λ xs=>if pl x&&plL xs then .ok (.int ((xs.filter λ y=>eqb y x).length)) else .stuck) d) ds
 | .index=>twoD (λ d x=>lstD (λ xs=>if pl x&&plL xs then idxOf x xs 0 else .stuck) d) ds
 | .min2=>twoD (λ x y=>intD (λ a=>intD (λ b=> .ok (.int (if b<a then b else a))) y) x) ds
 | .max2=>twoD (λ x y=>intD (λ a=>intD (λ b=> .ok (.int (if b > a then b else a))) y) x) ds
 | .any=>oneD (lstD anyD) ds
 | .maxT=>oneD (tupD maxD) ds
 | .strI=>oneD (intD λ a=>(strI a).bind λ x=> .ok (.str x)) ds
 | .split=>twoD (λ d e=>strD (λ x=>strD (q8D x) e) d) ds
 | .join=>twoD (λ d e=>strD (λ y=>lstD (q4n y) e) d) ds
 | .endsw=>twoD (λ d e=>strD (λ x=>strD (endD x) e) d) ds
 | .fmt=>qDX (λ d e f=>strD (λ x=>intD (λ a=>strD (fmtD x a) f) e) d) ds
 | .toInt=>oneD qGb ds
 | .abs=>oneD (intD λ a=> .ok (.int (if a<0 then -a else a))) ds
 | .isTup=>oneD qGc ds
 | .isLst=>oneD (lstD λ _=> .ok (.bl true)) ds
 | .isInt=>oneD (intD λ _=> .ok (.bl true)) ds
 | .isBool=>oneD qEL ds
 | .isVal=>oneD (excD λ _=> .ok (.bl true)) ds
 | .isExc c=>oneD (excD λ e=> .ok (.bl (sub e c))) ds
mutual
inductive L where
 |var (i:Nat)|bor (i:Nat)|con (d:D)
 |op (o:Op2) (a b:L)|cm (o:Cm) (a b:L)|neg (a:L)|not (a:L)|and (a b:L)|or (a b:L)|ite (c:T) (a b:L)
 |tup (xs:List L)|lst (xs:List L)|dct (k v:L)
 |idx (a i:L)|sl (st:Nat) (a:L) (lo hi:List L)
 |call (f:Nat) (xs:List L)|bi (b:Bi) (xs:List L)
 |comp (k:Nat) (elt:L) (it:I) (cond:List T)
 |skey (a:L) (f:Nat)|lrng (xs:List L)
inductive T where
 |e (a:L)|and (a b:T)|or (a b:T)|not (a:T)
inductive I where
 |rng (xs:List L)|e (a:L)|b (i:Nat)
end
inductive Sl where|val (d:D)|own (d:D)|own2 (xss:List (List D))
 deriving Inhabited
noncomputable abbrev Env:=List (Option Sl)
noncomputable def getV (ρ:Env) (i:Nat):R D:=match ρ[i]? with
 |some (some (.val d))=> .ok d
 |_=> .stuck
noncomputable def getB (ρ:Env) (i:Nat):R D:=match ρ[i]? with
 |some (some (.val d))=> .ok d
 |some (some (.own d))=> .ok d
 |_=> .stuck
noncomputable def rngD:List D->R (List D)
 |[.int j]=>if -(2^62)<=j/\j<=1000000 then .ok ((Qp j.toNat).map λ (k:Nat)=> .int k) else .stuck
 |[.int i,.int j]=>if -(2^62)<=i/\i<2^62/\-(2^62)<=j/\j<2^62/\j-i<=1000000 then .ok ((Qp (j-i).toNat).map λ (k:Nat)=> .int (i+k)) else .stuck
 |_=> .stuck
noncomputable def unp (k:Nat) (d:D):R (List D) :=
 if k=0 then .ok [d] else match d with
  | .tup xs=>if xs.length=k then .ok xs else .stuck
  |_=> .stuck
noncomputable def vals (ds:List D):Env:=ds.map λ d=>some (.val d)
noncomputable def q0H (elt:Env->R D) (cond:Env->R Bool) (k:Nat) (ρ:Env):List D->R (List D)
 |[]=> .ok []
 |d::ds=>(unp k d).bind λ xs=>(cond (vals xs++ρ)).bind λ b =>
   if b then (elt (vals xs++ρ)).bind λ e=>(q0H elt cond k ρ ds).bind λ es=> .ok (e::es) else q0H elt cond k ρ ds
noncomputable def R.q5R {α:Type}(r:R α):R α:=r
@[simp] theorem q2E {α:Type}(a:α):(R.ok a).q5R = .ok a:=rfl
@[simp] theorem qEM {α:Type}:(R.stuck:R α).q5R = .stuck:=rfl
@[simp] theorem qGe {α:Type}(c:Nat):(R.err c:R α).q5R = .err c:=rfl
noncomputable def optI:List D->R (Option Int)
 |[]=> .ok none
 |[.int i]=> .ok (some i)
 |_=> .stuck
noncomputable def q6K (ps:List (D×D)):List (D×D):=ps.foldr (λ x l=>insK x l) []
where
 insK (x:D×D):List (D×D)->List (D×D)
  |[]=>[x]
  |y::l=>if ltb x.1 y.1 then x::y::l else y::insK x l
noncomputable def mapR (f:D->R D):List D->R (List D)
 |[]=> .ok []
 |x::l=>(f x).bind λ y=>(mapR f l).bind λ m=> .ok (y::m)
section
variable (G:Nat->List D->R D) (sub:Nat->Nat->Bool)
mutual
noncomputable def ev:L->Env->R D
 | .var i,ρ=>getV ρ i
 | .bor i,ρ=>getB ρ i
 | .con d,_=> .ok d
 | .op o a b,ρ=>(ev a ρ).bind λ x=>(ev b ρ).bind λ y=>opD o x y
 | .cm o a b,ρ=>(ev a ρ).bind λ x=>(ev b ρ).bind λ y=>cmD o x y
 | .neg a,ρ=>(ev a ρ).bind λ x=>match x with
   | .int i=> .ok (.int (-i))
   |_=> .stuck
 | .not a,ρ=>(ev a ρ).bind λ x=>(tr x).bind λ b=> .ok (.bl (!b))
 | .and a b,ρ=>(ev a ρ).bind λ x=>match x with
   | .bl true=>ev b ρ
   | .bl false=> .ok (.bl false)
   |_=> .stuck
 | .or a b,ρ=>(ev a ρ).bind λ x=>match x with
   | .bl true=> .ok (.bl true)
   | .bl false=>ev b ρ
   |_=> .stuck
 | .ite c a b,ρ=>(tst c ρ).bind λ t=>if t then ev a ρ else ev b ρ
 | .tup xs,ρ=>(evs xs ρ).bind λ ds=>if ds.length<=big then .ok (.tup ds) else .stuck
 | .lst xs,ρ=>(evs xs ρ).bind λ ds=>if ds.length<=big then .ok (.lst ds) else .stuck
 | .dct k v,ρ=>(ev k ρ).bind λ x=>(ev v ρ).bind λ y=>match x with
   | .int i=> .ok (.dct [.int i] [y])
   |_=> .stuck
 | .idx a i,ρ=>(ev a ρ).bind λ x=>(ev i ρ).bind λ y=>idxD x y
 | .sl st a lo hi,ρ=>(ev a ρ).bind λ x=>(evs lo ρ).bind λ l=>(evs hi ρ).bind λ h=>(optI l).bind λ l=>(optI h).bind λ h=>slD st l h x
 | .call f xs,ρ=>(evs xs ρ).bind λ ds=>G f ds
 | .bi b xs,ρ=>(evs xs ρ).bind λ ds=>biD sub b ds
 | .comp k elt it cond,ρ=>(evi it ρ).bind λ ds=>(q0H (ev elt) (tsts cond) k ρ ds).q5R.bind λ es=>if es.length<=big then .ok (.lst es) else .stuck
 | .skey a f,ρ=>(ev a ρ).bind λ d=>(q2M d).bind λ xs=>(mapR (λ x=>G f [x]) xs).q5R.bind λ ks =>
   if q1t ks then .ok (.lst ((q6K (ks.zip xs)).map (·.2))) else .stuck
 | .lrng xs,ρ=>(evs xs ρ).bind λ ds=>(rngD ds).bind λ is=>if is.length<=big then .ok (.lst is) else .stuck
noncomputable def evs:List L->Env->R (List D)
 |[],_=> .ok []
 |a::l,ρ=>(ev a ρ).bind λ x=>(evs l ρ).bind λ xs=> .ok (x::xs)
noncomputable def evi:I->Env->R (List D)
 | .rng xs,ρ=>(evs xs ρ).bind rngD
 | .e a,ρ=>(ev a ρ).bind q2i
 | .b i,ρ=>(getB ρ i).bind q1M
noncomputable def tst:T->Env->R Bool
 | .and a b,ρ=>(tst a ρ).bind λ t=>if t then tst b ρ else .ok false
 | .or a b,ρ=>(tst a ρ).bind λ t=>if t then .ok true else tst b ρ
 | .not a,ρ=>(tst a ρ).bind λ t=> .ok (!t)
 | .e a,ρ=>(ev a ρ).bind tr
noncomputable def tsts:List T->Env->R Bool
 |[],_=> .ok true
 |a::l,ρ=>(tst a ρ).bind λ t=>if t then tsts l ρ else .ok false
end
end
inductive S where
 |set (i:Nat) (a:L)|setO (i:Nat) (a:L)|setT (is:List Nat) (a:L)|aug (i:Nat) (o:Op2) (a:L)
 |setE (i:Nat) (a:L)|app2 (i:Nat) (k a:L)|frz (i j:Nat)
 |app (i:Nat) (a:L)|ext (i:Nat) (a:L)|pop (j i:Nat)|put (i:Nat) (k v:L)
 |expr (a:L)|ifs (c:T) (a b:List S)|forr (k:Nat) (is:List Nat) (it:I) (body:List S)|whl (c:T) (body:List S)
 |ret (a:L)|retN|retO (i:Nat)|brk|cont|pass
 |raise (c:Nat)|tryE (body:List S) (c i j:Nat)|tryR (body:List S) (c d:Nat)|fz (i:Nat) (s:S)
inductive F where|nx|brk|cont|ret (d:D)
inductive RS where|ok (ρ:Env) (f:F)|err (c:Nat) (ρ:Env)|stuck
noncomputable def R.go {α:Type}(r:R α) (ρ:Env) (f:α->RS):RS:=match r with
 | .ok a=>f a
 | .err c=> .err c ρ
 | .stuck=> .stuck
@[simp] theorem q0A {α:Type}(a:α) (ρ:Env) (f:α->RS):(R.ok a).go ρ f=f a:=rfl
@[simp] theorem qGf {α:Type}(c:Nat) (ρ:Env) (f:α->RS):(R.err c:R α).go ρ f = .err c ρ:=rfl
@[simp] theorem qIh {α:Type}(ρ:Env) (f:α->RS):(R.stuck:R α).go ρ f = .stuck:=rfl
noncomputable def RS.nx (r:RS) (f:Env->RS):RS:=match r with
 | .ok ρ .nx=>f ρ
 |r=>r
@[simp] theorem qAC (ρ:Env) (f:Env->RS):(RS.ok ρ .nx).nx f=f ρ:=rfl
@[simp] theorem qGg (ρ:Env) (d:D) (f:Env->RS):(RS.ok ρ (.ret d)).nx f = .ok ρ (.ret d):=rfl
@[simp] theorem nx_brk (ρ:Env) (f:Env->RS):(RS.ok ρ .brk).nx f = .ok ρ .brk:=rfl
@[simp] theorem qJ2 (ρ:Env) (f:Env->RS):(RS.ok ρ .cont).nx f = .ok ρ .cont:=rfl
@[simp] theorem qAD (ρ:Env) (c:Nat) (f:Env->RS):(RS.err c ρ).nx f = .err c ρ:=rfl
noncomputable def RS.turn (r:RS) (f:Env->RS):RS:=match r with
 | .ok ρ .nx=>f ρ
 | .ok ρ .cont=>f ρ
 | .ok ρ .brk=> .ok ρ .nx
 | .ok ρ (.ret d)=> .ok ρ (.ret d)
 | .err c ρ=> .err c ρ
 | .stuck=> .stuck
@[simp] theorem q3F (ρ:Env) (f:Env->RS):(RS.ok ρ .nx).turn f=f ρ:=rfl
@[simp] theorem qGh (ρ:Env) (f:Env->RS):(RS.ok ρ .cont).turn f=f ρ:=rfl
@[simp] theorem qIi (ρ:Env) (f:Env->RS):(RS.ok ρ .brk).turn f = .ok ρ .nx:=rfl
@[simp] theorem qIj (ρ:Env) (d:D) (f:Env->RS):(RS.ok ρ (.ret d)).turn f = .ok ρ (.ret d):=rfl
@[simp] theorem qIk (ρ:Env) (c:Nat) (f:Env->RS):(RS.err c ρ).turn f = .err c ρ:=rfl
noncomputable def q2N:List Nat->List D->Env->Env
 |i::is,d::ds,ρ=>q2N is ds (ρ.set i (some (.val d)))
 |_,_,ρ=>ρ
noncomputable def q0m (body:Env->RS) (k:Nat) (is:List Nat):List D->Env->RS
 |[],ρ=> .ok ρ .nx
 |d::ds,ρ=>(unp k d).go ρ λ xs=>(body (q2N is xs ρ)).turn λ ρ'=>q0m body k is ds ρ'
noncomputable def q48 (c:Env->R Bool) (body:Env->RS):Nat->Env->RS
 |0,_=> .stuck
 |n+1,ρ=>(c ρ).go ρ λ t=>if t then (body ρ).turn λ ρ'=>q48 c body n ρ' else .ok ρ .nx
noncomputable def augD (o:Op2):D->D->R D
 | .int m,.int n=>opD o (.int m) (.int n)
 |_,_=> .stuck
section
variable (G:Nat->List D->R D) (sub:Nat->Nat->Bool)
mutual
noncomputable def ex:S->Env->RS
 | .set i a,ρ=>(ev G sub a ρ).go ρ λ d=> .ok (ρ.set i (some (.val d))) .nx
 | .setO i a,ρ=>(ev G sub a ρ).go ρ λ d=> .ok (ρ.set i (some (.own d))) .nx
 | .setT is a,ρ=>(ev G sub a ρ).go ρ λ d=>(unp is.length d).go ρ λ xs=> .ok (q2N is xs ρ) .nx
 | .aug i o a,ρ=>(getV ρ i).go ρ λ x=>(ev G sub a ρ).go ρ λ y=>(augD o x y).go ρ λ z=> .ok (ρ.set i (some (.val z))) .nx
 | .app i a,ρ=>match ρ[i]? with
   |some (some (.own (.lst xs)))=>(ev G sub a ρ).go ρ λ d=>if xs.length<big then .ok (ρ.set i (some (.own (.lst (xs++[d]))))) .nx else .stuck
   |_=> .stuck
 | .ext i a,ρ=>match ρ[i]? with
   |some (some (.own (.lst xs)))=>(ev G sub a ρ).go ρ λ d=>match d with
     | .lst ys=>if xs.length+ys.length<=big then .ok (ρ.set i (some (.own (.lst (xs++ys))))) .nx else .stuck
     |_=> .stuck
   |_=> .stuck
 | .pop j i,ρ=>match ρ[i]? with
   |some (some (.own (.lst xs)))=>match xs.getLast? with
     |some d=> .ok ((ρ.set i (some (.own (.lst xs.dropLast)))).set j (some (.val d))) .nx
     |none=> .stuck
   |_=> .stuck
 | .put i k v,ρ=>match ρ[i]? with
   |some (some (.own (.dct ks vs)))=>(ev G sub v ρ).go ρ λ y=>(ev G sub k ρ).go ρ λ x=>match x with
     | .int n=>if ks.length<big then (put n y ks vs).go ρ λ r=> .ok (ρ.set i (some (.own (.dct r.1 r.2)))) .nx else .stuck
     |_=> .stuck
   |_=> .stuck
 | .setE i a,ρ=>(ev G sub a ρ).go ρ λ d=>match d with
   | .int n=>if 0<=n/\n<=1000 then .ok (ρ.set i (some (.own2 (Qo n.toNat [])))) .nx else .stuck
   |_=> .stuck
 | .app2 i k a,ρ=>match ρ[i]? with
   |some (some (.own2 xss))=>(ev G sub k ρ).go ρ λ x=>match x with
     | .int n=>if 0<=n then (match xss[n.toNat]? with
       |some ys=>(ev G sub a ρ).go ρ λ d=>if ys.length<big then .ok (ρ.set i (some (.own2 (xss.set n.toNat (ys++[d]))))) .nx else .stuck
       |none=> .stuck) else .stuck
     |_=> .stuck
   |_=> .stuck
 | .frz i j,ρ=>match ρ[j]? with
   |some (some (.own (.lst xs)))=>if i=j then .stuck else .ok ((ρ.set j (some (.val (.lst xs)))).set i (some (.val (.lst xs)))) .nx
   |_=> .stuck
 | .expr a,ρ=>(ev G sub a ρ).go ρ λ _=> .ok ρ .nx
 | .ifs c a b,ρ=>(tst G sub c ρ).go ρ λ t=>if t then exs a ρ else exs b ρ
 | .forr k is it body,ρ=>(evi G sub it ρ).go ρ λ ds=>q0m (exs body) k is ds ρ
 | .whl c body,ρ=>q48 (tst G sub c) (exs body) 100000 ρ
 | .ret a,ρ=>(ev G sub a ρ).go ρ λ d=> .ok ρ (.ret d)
 | .retN,ρ=> .ok ρ (.ret .non)
 | .retO i,ρ=>match ρ[i]? with
   |some (some (.own d))=> .ok (ρ.set i none) (.ret d)
   |some (some (.own2 xss))=> .ok (ρ.set i none) (.ret (.lst (xss.map .lst)))
   |_=> .stuck
 | .brk,ρ=> .ok ρ .brk
 | .cont,ρ=> .ok ρ .cont
 | .pass,ρ=> .ok ρ .nx
 | .raise c,ρ=> .err c ρ
 | .fz i s,ρ=>match ρ[i]? with
   |some (some (.own (.dct ks vs)))=>ex s (ρ.set i (some (.val (.dct ks vs))))
   |some (some (.own (.lst xs)))=>ex s (ρ.set i (some (.val (.lst xs))))
   |_=> .stuck
 | .tryR body c d,ρ=>match exs body ρ with
   | .err e ρ'=>if sub e c&&!sub d c then .err d ρ' else .stuck
   |r=>r
 | .tryE body c i j,ρ=>match exs body ρ with
   | .err e ρ'=>if sub e c then .ok ((ρ'.set j (some (.val (.exc e)))).set i none) .nx else .stuck
   |r=>r
noncomputable def exs:List S->Env->RS
 |[],ρ=> .ok ρ .nx
 |s::l,ρ=>(ex s ρ).nx λ ρ'=>exs l ρ'
end
noncomputable def run (n:Nat) (body:List S) (ds:List D):R D:=match exs G sub body (vals ds++Qo (n-ds.length) none) with
 | .ok _ .nx=> .ok .non
 | .ok _ (.ret d)=> .ok d
 | .err c _=> .err c
 |_=> .stuck
end
structure Ct where
 N:List Str
 kinds:List (Str×NameKind)
 funs:List Str
 consts:List (Str×D)
 excs:List Str
 muts:List Str
 fresh:List Str
 deep:List Str
noncomputable def ixOf (x:Str):List Str->Option Nat
 |[]=>none
 |y::l=>if x=y then some 0 else (ixOf x l).map (·+1)
noncomputable def q3e (x:Str):Bool:=!(x==Str.ofString "__debug__")&&!(x==Str.ofString "__classdict__")
noncomputable def Ct.vis (C:Ct) (x:Str):Bool:=q3e x&&match C.kinds.lookup x with
 |some .local|some .cell|some .free=>true
 |_=>false
noncomputable def Ct.loc (C:Ct) (x:Str):Option Nat:=if q3e x then (match C.kinds.lookup x with
 |some .local|some .cell=>ixOf x C.N
 |_=>none) else none
noncomputable def Ct.glob (C:Ct) (x:Str):Bool:=q3e x&&decide (C.kinds.lookup x=some .globalImplicit)
noncomputable def opOf:Operator->Option Op2
 | .Add=>some .add | .Sub=>some .sub | .Mult=>some .mul | .FloorDiv=>some .fdiv | .Mod=>some .mod | .LShift=>some .shl | .RShift=>some .shr
 | .BitAnd=>some .band | .BitOr=>some .bor | .BitXor=>some .bxor|_=>none
noncomputable def cmOf:CmpOp->Cm
 | .Eq=> .eq | .NotEq=> .ne | .Lt=> .lt | .LtE=> .le | .Gt=> .gt | .GtE=> .ge | .Is=> .isN | .IsNot=> .notN | .In=> .mem | .NotIn=> .nmem
noncomputable def q2j:Const->Option D
 | .none=>some .non | .bool b=>some (.bl b) | .int i=>some (.int i) | .str x=>if x.length<=1000 then some (.str x) else none|_=>none
noncomputable def qAE (x:Str):Str:=⟨#[33]++x.cps⟩
noncomputable def Ct.inner (C:Ct) (ts:List Str) (sc:Scope):Ct :=
 {C with N:=ts++C.N.map (λ x=>if x∈ts then qAE x else x),kinds:=sc.names,muts:=C.muts.filter (λ x=>!decide (x∈ts))}
noncomputable def Ct.scOk (C:Ct) (ts:List Str) (sc:Scope):Bool :=
 decide (sc.kind = .function)&&decide ((C.inner ts sc).N.Nodup)&&ts.all (λ x=>decide (sc.names.lookup x=some .local) || decide (sc.names.lookup x=some .cell)) &&
 sc.names.all (λ y=>(decide (y.2 ≠ .cell) || decide (y.1∈ts)&&decide (sc.names.lookup y.1=some .cell))&&(decide (y.2 ≠ .free) || decide (C.kinds.lookup y.1=some .cell) || decide (C.kinds.lookup y.1=some .free))&&(decide (y.2 ≠ .local) || decide (sc.names.lookup y.1=some .local))) &&
 C.N.all (λ y=>if y∈ts then decide (sc.names.lookup (qAE y)=none) else decide (sc.names.lookup y≠some .local))
noncomputable def Expr.isName:Expr->Option Str
 | .Name x _=>some x
 |_=>none
theorem q0I {e:Expr}{x:Str}(h:Expr.isName e=some x):∃q,e = .Name x q:=by
 unfold Expr.isName at h;split at h
 ·cases h;exact⟨_,rfl⟩
 ·cases h
noncomputable def pair {α:Type}:List α->Option (α×α)
 |[a,b]=>some (a,b)
 |_=>none
theorem q7U {α:Type}{l:List α}{r:α×α}(h:pair l=some r):l=[r.1,r.2]:=by
 cases l with
 |nil=>cases h
 |cons a l=>cases l with
  |nil=>cases h
  |cons b l=>cases l with
   |nil=>cases h;rfl
   |cons _ _=>cases h
noncomputable def tgs:Expr->Option (Nat×List Str)
 | .Name x _=>some (0,[x])
 | .Tuple xs _ _=>(pair xs).bind λ ab=>(Expr.isName ab.1).bind λ x=>(Expr.isName ab.2).map λ y=>(2,[x,y])
 |_=>none
noncomputable def mapO {α β:Type}(f:α->Option β):List α->Option (List β)
 |[]=>some []
 |a::l=>(f a).bind λ b=>(mapO f l).map λ m=>b::m
noncomputable def bi1 (x:Str):Option Bi :=
 if x=Str.ofString "len" then some .len else if x=Str.ofString "tuple" then some .tuple else if x=Str.ofString "all" then some .all else if x=Str.ofString "int" then some .toInt else if x=Str.ofString "str" then some .strI else none
noncomputable def isOf (C:Ct) (x:Str):Option Bi :=
 if C.glob x then
  if x=Str.ofString "tuple" then some .isTup else if x=Str.ofString "list" then some .isLst else if x=Str.ofString "int" then some .isInt else if x=Str.ofString "bool" then some .isBool
  else if x=Str.ofString "ValueError" then some .isVal else (ixOf x C.excs).map .isExc
 else none
noncomputable def q7V:Expr->Bool
 | .BoolOp _ _ _=>true
 | .UnaryOp .Not _ _=>true
 |_=>false
noncomputable def sole {α:Type}:List α->Option α
 |[a]=>some a
 |_=>none
theorem q0z {α:Type}{l:List α}{a:α}(h:sole l=some a):l=[a]:=by
 cases l with
 |nil=>cases h
 |cons b r=>cases r with
  |nil=>cases h;rfl
  |cons _ _=>cases h
noncomputable def qDY:Option Expr->Option Nat
 |none=>some 0
 |some (.UnaryOp .USub (.Constant (.int 1) _ _) _)=>some 1
 |some (.Constant (.int 3) _ _)=>some 3
 |_=>none
noncomputable def qJ3:Expr->Bool
 | .Constant c _ _=>match c with
  | .bool b=>b
  |_=>false
 |_=>false
noncomputable def qC5:Expr->Option (Str×List Expr)
 | .Call f args kws _=>if kws.isEmpty then (Expr.isName f).map λ f=>(f,args) else none
 |_=>none
theorem q8E {e:Expr}{f:Str}{args:List Expr}(h:qC5 e=some (f,args)):∃q pos,e = .Call (.Name f q) args [] pos:=by
 unfold qC5 at h;split at h
 ·split at h
  ·rename_i hk;obtain⟨x,e1,e2⟩:=oM h;obtain⟨q,rfl⟩:=q0I e1;cases e2;cases Q0.mp hk;exact⟨_,_,rfl⟩
  ·cases h
 ·cases h
noncomputable def qGi (C:Ct) (e:Expr):Option (List Expr):=(qC5 e).bind λ y=>if y.1=Str.ofString "range"/\C.glob y.1/\ixOf y.1 C.funs=none then some y.2 else none
noncomputable def q5S (e:Expr):Option (Str×Expr):=(qC5 e).bind λ y=>(sole y.2).map λ a=>(y.1,a)
theorem q3G {e:Expr}{g:Str}{a:Expr}(h:q5S e=some (g,a)):∃q pos,e = .Call (.Name g q) [a] [] pos:=by obtain⟨⟨f,as⟩,g1,h⟩:=oB h;obtain⟨b,g2,h⟩:=oM h;cases h;have z:as=[_]:=q0z g2;subst z;exact q8E g1
noncomputable def strC:Expr->Option Str
 | .Constant c _ _=>match c with
  | .str x=>some x
  |_=>none
 |_=>none
theorem q7W {e:Expr}{x:Str}(h:strC e=some x):∃k q,e = .Constant (.str x) k q:=by
 unfold strC at h;split at h
 ·split at h
  ·cases h;exact⟨_,_,rfl⟩
  ·cases h
 ·cases h
noncomputable def fmtE:Expr->Option Expr
 | .FormattedValue e k sp _=>if k = -1/\sp.isNone then some e else none
 |_=>none
theorem qAF {e a:Expr}(h:fmtE e=some a):∃q,e = .FormattedValue a (-1) none q:=by
 unfold fmtE at h;split at h
 ·split at h
  ·rename_i hc;cases h;obtain⟨rfl,h2⟩:=hc;rw[Q4.mp h2];exact⟨_,rfl⟩
  ·cases h
 ·cases h
mutual
/-- a value -/
noncomputable def cE:Nat->Ct->Expr->Option L
 |0,_,_=>none
 |n+1,C,e=>match e with
  | .Constant c _ _=>(q2j c).map .con
  | .Name x _=>if C.vis x then (if x∈C.muts then none else (ixOf x C.N).map .var) else if C.glob x then (C.consts.lookup x).map .con else none
  | .BinOp a op b _=>(opOf op).bind λ o=>(cB n C a).bind λ a=>(cB n C b).map (.op o a)
  | .Compare a ops bs _=>(sole ops).bind λ op=>(sole bs).bind λ b=>(cB n C a).bind λ a=>(cB n C b).map (.cm (cmOf op) a)
  | .UnaryOp op a _=>match op with
   | .Not=>(cB n C a).map .not
   | .USub=>(cE n C a).map .neg
   |_=>none
  | .BoolOp op xs _=>cBo n C op xs
  | .IfExp c a b _=>(cT n C c).bind λ c=>(cE n C a).bind λ a=>(cE n C b).map (.ite c a)
  | .Tuple xs _ _=>(cEs n C xs).map .tup
  | .List xs _=>(cEs n C xs).map .lst
  | .Subscript a i _=>match i with
   | .Slice lo hi st _=>(qDY st).bind λ k=>(cB n C a).bind λ a=>(cEs n C lo.toList).bind λ lo=>(cEs n C hi.toList).bind λ hi=>if k=0\/(lo.isEmpty/\hi.isEmpty) then some (.sl k a lo hi) else none
   |i=>(cB n C a).bind λ a=>(cE n C i).map (.idx a)
  | .Call g args kws cp=>match g with
   | .Name f _=>if C.glob f then (match ixOf f C.funs with
    |some i=>if kws.isEmpty/\¬args.isEmpty then (cEs n C args).map (.call i) else none
    |none=>if kws.isEmpty then qC6 n C f args else none)
    else none
   | .Attribute oe m ap=>if kws.isEmpty/\ap.endLine==cp.line then (cB n C oe).bind λ o=>(sole args).bind λ y=>match y with
    | .Constant c _ _=>(q2j c).bind λ d=>if m=Str.ofString "count" then some (.bi .count [o,.con d]) else if m=Str.ofString "index" then some (.bi .index [o,.con d]) else if m=Str.ofString "split" then some (.bi .split [o,.con d]) else if m=Str.ofString "endswith" then some (.bi .endsw [o,.con d]) else none
    |y=>if m=Str.ofString "join" then (strC oe).bind λ x=>(cB n C y).map λ y=> .bi .join [.con (.str x),y] else if m=Str.ofString "index" then (Expr.isName y).bind λ x=>if C.vis x/\x∉C.muts then (ixOf x C.N).map λ i=> .bi .index [o,.var i] else none else none
    else none
   |_=>none
  | .JoinedStr xs _=>(pair xs).bind λ ab=>match strC ab.1 with
   |some x=>if x.length<=1000 then (fmtE ab.2).bind λ e=>(cE n C e).map λ l=> .bi .fmt [.con (.str x),l,.con (.str (mkS []))] else none
   |none=>(fmtE ab.1).bind λ e=>(strC ab.2).bind λ y=>(cE n C e).map λ l=> .bi .fmt [.con (.str (mkS [])),l,.con (.str y)]
  | .ListComp elt gs sc _=>(sole gs).bind λ g=>if g.is_async=0 then (tgs g.target).bind λ t=>(cI n C g.iter).bind λ it=>(cE n (C.inner t.2 sc) elt).bind λ elt=>(cTs n (C.inner t.2 sc) g.ifs).bind λ ifs=>if C.scOk t.2 sc&&decide (ifs.length<=1) then some (.comp t.1 elt it ifs) else none else none
  |_=>none
/-- a value that is looked at and not kept: an owned name may stand here -/
noncomputable def cB:Nat->Ct->Expr->Option L
 |0,_,_=>none
 |n+1,C,e=>match e with
  | .Name x p=>if C.vis x/\x∈C.muts then (ixOf x C.N).map .bor else cE n C (.Name x p)
  |e=>cE n C e
noncomputable def cEs:Nat->Ct->List Expr->Option (List L)
 |0,_,_=>none
 |_+1,_,[]=>some []
 |n+1,C,e::es=>(cE n C e).bind λ a=>(cEs n C es).map λ l=>a::l
noncomputable def cBo:Nat->Ct->BoolOp->List Expr->Option L
 |0,_,_,_=>none
 |n+1,C,_,[a]=>cE n C a
 |n+1,C,op,a::b::r=>(cE n C a).bind λ a=>(cBo n C op (b::r)).map λ b=>match op with | .And=> .and a b | .Or=> .or a b
 |_+1,_,_,[]=>none
noncomputable def cT:Nat->Ct->Expr->Option T
 |0,_,_=>none
 |n+1,C,e=>match e with
  | .BoolOp op xs _=>cTo n C op xs
  | .UnaryOp .Not a _=>(cT n C a).map .not
  | .IfExp _ _ _ _=>none
  |e=>(cB n C e).map .e
noncomputable def cTo:Nat->Ct->BoolOp->List Expr->Option T
 |0,_,_,_=>none
 |n+1,C,_,[a]=>cT n C a
 |n+1,C,op,a::b::r=>(cT n C a).bind λ a=>(cTo n C op (b::r)).map λ b=>match op with | .And=> .and a b | .Or=> .or a b
 |_+1,_,_,[]=>none
noncomputable def cTs:Nat->Ct->List Expr->Option (List T)
 |0,_,_=>none
 |_+1,_,[]=>some []
 |n+1,C,e::es=>(cT n C e).bind λ a=>(cTs n C es).map λ l=>a::l
noncomputable def cI:Nat->Ct->Expr->Option I
 |0,_,_=>none
 |n+1,C,e=>match qGi C e with
  |some args=>if args.length=1\/args.length=2 then (cEs n C args).map .rng else none
  |none=>match Expr.isName e with
   |some x=>if C.vis x/\x∈C.muts then (ixOf x C.N).map .b else (cE n C e).map .e
   |none=>(cE n C e).map .e
noncomputable def qC6:Nat->Ct->Str->List Expr->Option L
 |0,_,_,_=>none
 |n+1,C,f,args=>match args with
  |[y]=>match q5S y with
   |some (g,a)=>if f=Str.ofString "sorted"/\g=Str.ofString "set"/\C.glob g/\ixOf g C.funs=none then (cB n C a).map λ a=> .bi .sortedSet [a]
    else (bi1 f).bind λ b=>(cB n C y).map λ a=> .bi b [a]
   |none=>(bi1 f).bind λ b=>(cB n C y).map λ a=> .bi b [a]
  |[a,y]=>if f=Str.ofString "isinstance" then (Expr.isName y).bind λ c=>(cB n C a).bind λ a=>(isOf C c).map λ b=> .bi b [a] else none
  |_=>none
end
noncomputable def Ct.q7X (C:Ct):Expr->Bool
 | .Name x _=>decide (x∈C.muts)
 |_=>false
noncomputable def q9R:Expr->Bool
 | .Constant (.str x) _ _=>decide (x.length<=1000)
 |_=>false
noncomputable def Ct.qEN (C:Ct):Expr->Bool
 | .FormattedValue e k sp _=>decide (k = -1)&&sp.isNone&&match Expr.isName e with
  |some y=>C.glob y&&match C.consts.lookup y with
   |some (.int a)=>decide (a.natAbs.log2<1920)&&decide ((Str.ofString (toString a)).length<=1000)
   |_=>false
  |none=>false
 |_=>false
noncomputable def Ct.qC7 (C:Ct):Expr->Bool
 | .JoinedStr xs _=>match xs with
  |a::b::r=>q9R a&&C.qEN b&&(match r with
   |[]=>true
   |[c]=>q9R c
   |_=>false)
  |_=>false
 |e=>q9R e
noncomputable def qAG:Expr->Option (Expr×List Expr×List Keyword×Pos)
 | .Call f a k p=>some (f,a,k,p)
 |_=>none
theorem qAH {e:Expr}{r:Expr×List Expr×List Keyword×Pos}(h:qAG e=some r):e = .Call r.1 r.2.1 r.2.2.1 r.2.2.2:=by
 unfold qAG at h;split at h
 ·cases h;rfl
 ·cases h
noncomputable def qDZ (e:Expr):Option (Expr×Str×List Expr×Pos×Pos):=(qAG e).bind λ c=>if c.2.2.1.isEmpty then (match c.1 with
 | .Attribute o m ap=>some (o,m,c.2.1,ap,c.2.2.2)
 |_=>none) else none
theorem qAI {e o:Expr}{m:Str}{as:List Expr}{ap cp:Pos}(h:qDZ e=some (o,m,as,ap,cp)):e = .Call (.Attribute o m ap) as [] cp:=by
 obtain⟨⟨f,a,k,p⟩,h1,h⟩:=oB h;rw[qAH h1];dsimp only at h |-;split at h
 ·rename_i hk;cases Q0.mp hk;split at h
  ·cases h;rfl
  ·cases h
 ·cases h
noncomputable def qGj (C:Ct) (fE:Expr->Option L) (fEs:List Expr->Option (List L)) (i:Nat):Expr->Option S
 | .List xs _=>(fEs xs).map λ l=> .setO i (.lst l)
 |_=>none
noncomputable def cAsg (C:Ct) (fE:Expr->Option L) (fEs:List Expr->Option (List L)) (ts:List Expr) (v:Expr):Option S:=(sole ts).bind λ t=>match t with
 | .Name x xp=>(C.loc x).bind λ i=>if x∈C.muts then qGj C fE fEs i v else (fE v).map (.set i)
 |_=>none
noncomputable def qGk (C:Ct) (fE:Expr->Option L) (fEs:List Expr->Option (List L)) (m:Str) (as:List Expr) (ap cp:Pos):Expr->Option S
 | .Name x _=>if x∈C.muts/\(ap.endLine==cp.line)=true/\q3e x/\m=Str.ofString "extend" then (sole as).bind λ a=>(C.loc x).bind λ i=>(fE a).map (.ext i) else if x∈C.muts/\(ap.endLine==cp.line)=true/\q3e x/\m=Str.ofString "append" then (sole as).bind λ a=>(C.loc x).bind λ i=>(fE a).map (.app i) else none
 |_=>none
noncomputable def qGl:Expr->Bool
 | .ListComp _ _ _ _=>true
 |_=>false
noncomputable def cExp (C:Ct) (fE:Expr->Option L) (fEs:List Expr->Option (List L)) (e:Expr):Option S:=match qDZ e with
 |some (o,m,as,ap,cp)=>qGk C fE fEs m as ap cp o
 |none=>if qGl e then none else (fE e).map .expr
noncomputable def qEO (C:Ct):Expr->Option Str
 | .Call _ args _ _=>args.getLast?.bind λ e=>(Expr.isName e).bind λ x=>if x∈C.muts/\x∉C.deep then some x else none
 | .Tuple args _ _=>args.getLast?.bind λ e=>(Expr.isName e).bind λ x=>if x∈C.muts/\x∉C.deep then some x else none
 |_=>none
noncomputable def Ct.less (C:Ct) (x:Str):Ct:={C with muts:=C.muts.filter λ y=>!decide (y=x)}
noncomputable def cRet (C:Ct) (fE:Expr->Option L) (fZ:Str->Expr->Option L):Option Expr->Option S
 |some e=>(match Expr.isName e with
  |some x=>if x∈C.muts then (C.loc x).map .retO else (fE e).map .ret
  |none=>match qEO C e with
   |some x=>(C.loc x).bind λ i=>(fZ x e).map λ l=> .fz i (.ret l)
   |none=>(fE e).map .ret)
 |none=>none
noncomputable def cRai (C:Ct) (a b:Option Expr):Option S:=a.bind λ e=>if b.isNone then (q5S e).bind λ c=>if C.glob c.1/\C.qC7 c.2 then (ixOf c.1 C.excs).map .raise else none else none
noncomputable def setN:Stmt->Option (Str×Str)
 | .Assign ts v _=>(sole ts).bind λ t=>(Expr.isName t).bind λ y=>(Expr.isName v).map λ x=>(y,x)
 |_=>none
theorem qEP {s:Stmt}{r:Str×Str}(h:setN s=some r):∃q q2 pos,s = .Assign [.Name r.1 q] (.Name r.2 q2) pos:=by
 unfold setN at h;split at h
 ·obtain⟨t,h1,h⟩:=oB h;obtain⟨y,h2,h⟩:=oB h;obtain⟨x,h3,rfl⟩:=oM h;obtain⟨q,rfl⟩:=q0I h2;obtain⟨q2,rfl⟩:=q0I h3;rw[q0z h1];exact⟨_,_,_,rfl⟩
 ·cases h
noncomputable def cHan (C:Ct):ExceptHandler->Option (Nat×Nat×Nat)
 | .ExceptHandler ty nm b _=>ty.bind λ ty=>(Expr.isName ty).bind λ c=>nm.bind λ x=>(sole b).bind λ st=>(setN st).bind λ s=>if C.glob c/\q3e x/\x∉C.muts/\s.1∉C.muts/\s.2=x/\x≠s.1/\C.kinds.lookup x=some .local then (ixOf c C.excs).bind λ c=>(C.loc x).bind λ i=>(C.loc s.1).map λ j=>(c,i,j) else none
noncomputable def raiN (C:Ct):Stmt->Option Nat
 | .Raise a b _=>a.bind λ e=>if b.isNone then (q5S e).bind λ c=>if C.glob c.1/\q9R c.2/\c.1=Str.ofString "BadText" then ixOf c.1 C.excs else none else none
 |_=>none
noncomputable def qGm (C:Ct):ExceptHandler->Option (Nat×Nat)
 | .ExceptHandler ty nm b _=>if nm.isNone then ty.bind λ ty=>(Expr.isName ty).bind λ c=>(sole b).bind λ st=>(raiN C st).bind λ d=>if C.glob c then (ixOf c C.excs).map λ c=>(c,d) else none else none
noncomputable def cTry (C:Ct) (fS:List Stmt->Option (List S)) (body:List Stmt) (hs:List ExceptHandler) (oe fb:List Stmt):Option S:=if oe.isEmpty/\fb.isEmpty then (sole hs).bind λ h=>match qGm C h with
 |some r=>(fS body).map λ b=> .tryR b r.1 r.2
 |none=>(cHan C h).bind λ r=>(fS body).map λ b=> .tryE b r.1 r.2.1 r.2.2 else none
mutual
noncomputable def cS:Nat->Ct->Stmt->Option S
 |0,_,_=>none
 |n+1,C,s=>match s with
  | .Assign ts v _=>cAsg C (cE n C) (cEs n C) ts v
  | .Expr e _=>cExp C (cE n C) (cEs n C) e
  | .If c a b _=>(cT n C c).bind λ c=>(cSs n C a).bind λ a=>(cSs n C b).map (.ifs c a)
  | .For tg it body oe _=>if oe.isEmpty/\¬C.q7X it then (tgs tg).bind λ t=>(cI n C it).bind λ it=>(cSs n C body).bind λ body=>(mapO C.loc t.2).bind λ is=>if t.2.any (λ x=>decide (x∈C.muts))\/¬t.2.Nodup then none else some (.forr t.1 is it body) else none
  | .Return r _=>cRet C (cE n C) (λ x=>cE n (C.less x)) r
  | .Raise a b _=>cRai C a b
  | .Try body hs oe fb _=>cTry C (cSs n C) body hs oe fb
  |_=>none
noncomputable def cSs:Nat->Ct->List Stmt->Option (List S)
 |0,_,_=>none
 |_+1,_,[]=>some []
 |n+1,C,e::es=>(cS n C e).bind λ a=>(cSs n C es).map λ l=>a::l
end
end Ev
namespace Ev
open PySem
variable {a b:D}
theorem D.ind {P:D->Prop}{Q:List D->Prop}(hn:P .non) (hb:∀b,P (.bl b)) (hi:∀i,P (.int i)) (hs:∀x,P (.str x)) (ht:∀l,Q l->P (.tup l)) (hl:∀l,Q l->P (.lst l)) (hd:∀k v,Q k->Q v->P (.dct k v)) (he:∀c,P (.exc c))
  (q0:Q []) (q1:∀a l,P a->Q l->Q (a::l)):(∀d,P d)/\∀l,Q l :=
 ⟨λ d=>D.rec (motive_1:=P) (motive_2:=Q) hn hb hi hs ht hl hd he q0 q1 d,λ l=>D.rec_1 (motive_1:=P) (motive_2:=Q) hn hb hi hs ht hl hd he q0 q1 l⟩
theorem q2k {l:List D}:q09 (a::l)=true↔q02 a=true/\q09 l=true:=by simp[q09]
theorem q7Y:(∀a b:D,q02 a=true->q02 b=true->(eqb a b=true↔a=b))/\(∀a b:List D,q09 a=true->q09 b=true->(eqbL a b=true↔a=b)):=by
 have:=D.ind (P:=λ a=>∀b,q02 a=true->q02 b=true->(eqb a b=true↔a=b)) (Q:=λ a=>∀b,q09 a=true->q09 b=true->(eqbL a b=true↔a=b))
  (λ b h=>by simp[q02] at h) (λ _ b h=>by simp[q02] at h) (λ i b h1 h2=>by cases b<;>simp_all [q02,eqb]) (λ _ b h=>by simp[q02] at h)
  (λ l ih b h1 h2=>by cases b<;>simp_all [q02,eqb])
  (λ _ _ b h=>by simp[q02] at h) (λ _ _ _ _ b h=>by simp[q02] at h) (λ _ b h=>by simp[q02] at h)
  (λ b h1 h2=>by cases b<;>simp[eqbL])
  (λ a l iha ihl b h1 h2=>by
   cases b with
   |nil=>simp[eqbL]
   |cons c m =>
    rw[q2k] at h1 h2;simp only[eqbL,Qg,List.cons.injEq];rw[iha c h1.1 h2.1,ihl m h1.2 h2.2])
 exact this
theorem q0Z (ha:q02 a=true) (hb:q02 b=true):eqb a b=true↔a=b:=q7Y.1 a b ha hb
theorem q7Z:(∀a:D,q02 a=true->ltb a a=false)/\(∀a:List D,q09 a=true->ltbL a a=false):=by
 refine D.ind (P:=λ a=>q02 a=true->ltb a a=false) (Q:=λ a=>q09 a=true->ltbL a a=false)
  (λ h=>by simp[q02] at h) (λ _ h=>by simp[q02] at h) (λ i h=>by simp[ltb]) (λ _ h=>by simp[q02] at h) (λ l ih h=>by simpa[ltb] using ih (by simpa[q02] using h))
  (λ _ _ h=>by simp[q02] at h) (λ _ _ _ _ h=>by simp[q02] at h) (λ _ h=>by simp[q02] at h) (λ _=>by simp[ltbL]) (λ a l iha ihl h=>?_)
 rw[q2k] at h;rw[ltbL,if_pos ((q0Z h.1 h.1).mpr rfl)];exact ihl h.2
theorem q7a (h:q02 a=true):ltb a a=false:=q7Z.1 a h
theorem q7b:(∀a b:D,q02 a=true->q02 b=true->q0e a b=true->ltb a b=true\/a=b\/ltb b a=true)/\(∀a b:List D,q09 a=true->q09 b=true->q0Y a b=true->ltbL a b=true\/a=b\/ltbL b a=true):=by
 refine D.ind (P:=λ a=>∀b,q02 a=true->q02 b=true->q0e a b=true->ltb a b=true\/a=b\/ltb b a=true) (Q:=λ a=>∀b,q09 a=true->q09 b=true->q0Y a b=true->ltbL a b=true\/a=b\/ltbL b a=true)
  (λ b h=>by simp[q02] at h) (λ _ b h=>by simp[q02] at h) (λ i b h1 h2 c=>?_) (λ _ b h=>by simp[q02] at h) (λ l ih b h1 h2 c=>?_)
  (λ _ _ b h=>by simp[q02] at h) (λ _ _ _ _ b h=>by simp[q02] at h) (λ _ b h=>by simp[q02] at h) (λ b h1 h2 c=>by cases b<;>simp[ltbL]) (λ a l iha ihl b h1 h2 c=>?_)
 ·cases b<;>simp_all [q02,q0e,ltb];lia
 ·cases b<;>simp_all [q02,q0e,ltb]
 ·cases b with
  |nil=>simp[ltbL]
  |cons d m =>
   rw[q2k] at h1 h2;simp only[q0Y] at c
   by_cases e:a=d
   ·subst e;have ee:eqb a a=true:=(q0Z h1.1 h1.1).mpr rfl;rw[ltbL,ltbL,if_pos ee,if_pos ee];rw[if_pos ee] at c;rcases ihl m h1.2 h2.2 c with q|q|q
    ·exact .inl q
    ·exact .inr (.inl (by rw[q]))
    ·exact .inr (.inr q)
   ·have e1:¬eqb a d=true:=λ q=>e ((q0Z h1.1 h2.1).mp q);have e2:¬eqb d a=true:=λ q=>e ((q0Z h2.1 h1.1).mp q).symm;rw[ltbL,ltbL,if_neg e1,if_neg e2];rw[if_neg e1] at c;rcases iha d h1.1 h2.1 c with q|q|q
    ·exact .inl q
    ·exact absurd q e
    ·exact .inr (.inr q)
theorem q7c (ha:q02 a=true) (hb:q02 b=true) (c:q0e a b=true):ltb a b=true\/a=b\/ltb b a=true:=q7b.1 a b ha hb c
theorem q5T:(∀a b c:D,q02 a=true->q02 b=true->q02 c=true->ltb a b=true->ltb b c=true->ltb a c=true)/\(∀a b c:List D,q09 a=true->q09 b=true->q09 c=true->ltbL a b=true->ltbL b c=true->ltbL a c=true):=by
 refine D.ind (P:=λ a=>∀b c,q02 a=true->q02 b=true->q02 c=true->ltb a b=true->ltb b c=true->ltb a c=true) (Q:=λ a=>∀b c,q09 a=true->q09 b=true->q09 c=true->ltbL a b=true->ltbL b c=true->ltbL a c=true)
  (λ b c h=>by simp[q02] at h) (λ _ b c h=>by simp[q02] at h) (λ i b c h1 h2 h3 p q=>?_) (λ _ b c h=>by simp[q02] at h) (λ l ih b c h1 h2 h3 p q=>?_)
  (λ _ _ b c h=>by simp[q02] at h) (λ _ _ _ _ b c h=>by simp[q02] at h) (λ _ b c h=>by simp[q02] at h) (λ b c h1 h2 h3 p q=>?_) (λ a l iha ihl b c h1 h2 h3 p q=>?_)
 ·cases b with
  |int j=>cases c with
   |int k =>
    have p':i<j:=(by simpa[ltb] using p);have q':j<k:=(by simpa[ltb] using q);have:i<k:=(by lia);simpa[ltb] using this
   |tup _=>cases (show false=true from q)
   |non=>cases (show false=true from q)
   |bl _=>cases (show false=true from q)
   |str _=>cases (show false=true from q)
   |lst _=>cases (show false=true from q)
   |dct _ _=>cases (show false=true from q)
   |exc _=>cases (show false=true from q)
  |tup _=>cases (show false=true from p)
  |non=>cases (show false=true from p)
  |bl _=>cases (show false=true from p)
  |str _=>cases (show false=true from p)
  |lst _=>cases (show false=true from p)
  |dct _ _=>cases (show false=true from p)
  |exc _=>cases (show false=true from p)
 ·cases b with
  |tup j=>cases c with
   |tup k=>exact ih j k (by simpa[q02] using h1) (by simpa[q02] using h2) (by simpa[q02] using h3) p q
   |int _=>cases (show false=true from q)
   |non=>cases (show false=true from q)
   |bl _=>cases (show false=true from q)
   |str _=>cases (show false=true from q)
   |lst _=>cases (show false=true from q)
   |dct _ _=>cases (show false=true from q)
   |exc _=>cases (show false=true from q)
  |int _=>cases (show false=true from p)
  |non=>cases (show false=true from p)
  |bl _=>cases (show false=true from p)
  |str _=>cases (show false=true from p)
  |lst _=>cases (show false=true from p)
  |dct _ _=>cases (show false=true from p)
  |exc _=>cases (show false=true from p)
 ·cases b with
  |nil=>simp[ltbL] at p
  |cons d m=>cases c with
   |nil=>simp[ltbL] at q
   |cons e n=>simp[ltbL]
 ·cases b with
  |nil=>simp[ltbL] at p
  |cons d m=>cases c with
   |nil=>simp[ltbL] at q
   |cons e n =>
    rw[q2k] at h1 h2 h3;rw[ltbL] at p q |-
    by_cases e1:a=d
    ·subst e1;rw[if_pos ((q0Z h1.1 h1.1).mpr rfl)] at p
     by_cases e2:a=e
     ·subst e2;have ee:=(q0Z h1.1 h1.1).mpr rfl;rw[if_pos ee] at q |-;exact ihl m n h1.2 h2.2 h3.2 p q
     ·have ne:¬eqb a e=true:=λ z=>e2 ((q0Z h1.1 h3.1).mp z);rw[if_neg ne] at q |-;exact q
    ·have ne1:¬eqb a d=true:=λ z=>e1 ((q0Z h1.1 h2.1).mp z);rw[if_neg ne1] at p
     by_cases e2:d=e
     ·subst e2;rw[if_neg ne1];exact p
     ·have ne2:¬eqb d e=true:=λ z=>e2 ((q0Z h2.1 h3.1).mp z);rw[if_neg ne2] at q;have r:=iha d e h1.1 h2.1 h3.1 p q
      by_cases e3:a=e
      ·subst e3;rw[q7a h1.1] at r;cases r
      ·have ne3:¬eqb a e=true:=λ z=>e3 ((q0Z h1.1 h3.1).mp z);rw[if_neg ne3];exact r
theorem q49 {c:D}(ha:q02 a=true) (hb:q02 b=true) (hc:q02 c=true) (p:ltb a b=true) (q:ltb b c=true):ltb a c=true:=q5T.1 a b c ha hb hc p q
theorem q5U (x:D):∀l:List D,(ins x l).Perm (x::l)
 |[]=> .refl _
 |y::l=>by
  unfold ins;split
  ·exact .refl _
  ·exact ((q5U x l).cons y).trans (.swap x y l)
theorem q0v:∀l:List D,(q1y l).Perm l
 |[]=> .refl _
 |x::l=>(q5U x (q1y l)).trans ((q0v l).cons x)
theorem q0K {l:List D}:q09 l=true↔∀d∈l,q02 d=true:=by
 induction l with
 |nil=>simp[q09]
 |cons a l ih=>rw[q2k,ih];simp
def Srt (l:List D):Prop:=l.Pairwise λ a b=>ltb b a=false
theorem qAJ {x:D}:∀{l:List D},q02 x=true->(∀d∈l,q02 d=true)->Srt l->Srt (ins x l)
 |[],_,_,_=>by unfold ins;exact List.pairwise_singleton _ _
 |y::l,hx,hl,s=>by
  have s':=QC.mp s;unfold ins;split
  ·rename_i c;refine QC.mpr ⟨λ d hd=>?_,s⟩;rcases Qh.mp hd with rfl|hd
   ·cases q:ltb d x with
    |false=>rfl
    |true=>rw[<-q7a hx];exact (q49 hx (hl d Qb) hx c q).symm▸rfl
   ·cases q:ltb d x with
    |false=>rfl
    |true =>
     have r:=q49 (hl d (Qa _ hd)) hx (hl y Qb) q c;rw[s'.1 d hd] at r;cases r
  ·rename_i c;have hl':∀d∈l,q02 d=true:=λ d hd=>hl d (Qa _ hd);refine QC.mpr ⟨λ d hd=>?_,qAJ hx hl' s'.2⟩;rcases Qh.mp ((q5U x l).mem_iff.mp hd) with rfl|hd
   ·simpa using c
   ·exact s'.1 d hd
theorem q1z:∀{l:List D},(∀d∈l,q02 d=true)->Srt (q1y l)
 |[],_=>List.Pairwise.nil
 |x::l,h=>qAJ (h x Qb) (λ d hd=>h d (Qa _ ((q0v l).mem_iff.mp hd))) (q1z λ d hd=>h d (Qa _ hd))
theorem q3H:∀{l m:List D},l.Perm m->(∀d∈l,q02 d=true)->(∀a∈l,∀b∈l,q0e a b=true)->Srt l->Srt m->l=m
 |[],m,p,_,_,_,_=>(List.Perm.nil_eq p)
 |a::l,[],p,_,_,_,_=>absurd p.length_eq (by simp)
 |a::l,b::m,p,h,c,s1,s2=>by
  have s1':=QC.mp s1;have s2':=QC.mp s2;have hb:b∈a::l:=p.mem_iff.mpr Qb;have ha:a∈b::m:=p.mem_iff.mp Qb;have e:a=b:=by
   rcases Qh.mp hb with q|q
   ·exact q.symm
   ·rcases Qh.mp ha with r|r
    ·exact r
    ·have z1:=s1'.1 b q;have z2:=s2'.1 a r;rcases q7c (h a Qb) (h b hb) (c a Qb b hb) with t|t|t
     ·rw[z2] at t;cases t
     ·exact t
     ·rw[z1] at t;cases t
  subst e;have p':l.Perm m:=p.cons_inv;rw[q3H p' (λ d hd=>h d (Qa _ hd)) (λ x hx y hy=>c x (Qa _ hx) y (Qa _ hy)) s1'.2 s2'.2]
end Ev
namespace Ev
open PySem
section
variable {G:Nat->List D->R D}{sub:Nat->Nat->Bool}
@[simp] theorem q1C (i:Nat) (ρ:Env):ev G sub (.var i) ρ=getV ρ i:=rfl
@[simp] theorem qDa (i:Nat) (ρ:Env):ev G sub (.bor i) ρ=getB ρ i:=rfl
@[simp] theorem q06 (d:D) (ρ:Env):ev G sub (.con d) ρ = .ok d:=rfl
@[simp] theorem q0P (o:Op2) (a b:L) (ρ:Env):ev G sub (.op o a b) ρ=(ev G sub a ρ).bind λ x=>(ev G sub b ρ).bind λ y=>opD o x y:=rfl
@[simp] theorem q9S (o:Cm) (a b:L) (ρ:Env):ev G sub (.cm o a b) ρ=(ev G sub a ρ).bind λ x=>(ev G sub b ρ).bind λ y=>cmD o x y:=rfl
@[simp] theorem qGn (a:L) (ρ:Env):ev G sub (.neg a) ρ=(ev G sub a ρ).bind λ x=>match x with
   | .int i=> .ok (.int (-i))
   |_=> .stuck:=rfl
@[simp] theorem qGo (a:L) (ρ:Env):ev G sub (.not a) ρ=(ev G sub a ρ).bind λ x=>(tr x).bind λ b=> .ok (.bl (!b)):=rfl
@[simp] theorem qDb (a b:L) (ρ:Env):ev G sub (.and a b) ρ=(ev G sub a ρ).bind λ x=>match x with
   | .bl true=>ev G sub b ρ
   | .bl false=> .ok (.bl false)
   |_=> .stuck:=rfl
@[simp] theorem qJ4 (a b:L) (ρ:Env):ev G sub (.or a b) ρ=(ev G sub a ρ).bind λ x=>match x with
   | .bl true=> .ok (.bl true)
   | .bl false=>ev G sub b ρ
   |_=> .stuck:=rfl
@[simp] theorem qAK (c:T) (a b:L) (ρ:Env):ev G sub (.ite c a b) ρ=(tst G sub c ρ).bind λ t=>if t then ev G sub a ρ else ev G sub b ρ:=rfl
@[simp] theorem q8F (xs:List L) (ρ:Env):ev G sub (.tup xs) ρ=(evs G sub xs ρ).bind λ ds=>if ds.length<=big then .ok (.tup ds) else .stuck:=rfl
@[simp] theorem qAL (xs:List L) (ρ:Env):ev G sub (.lst xs) ρ=(evs G sub xs ρ).bind λ ds=>if ds.length<=big then .ok (.lst ds) else .stuck:=rfl
@[simp] theorem ev_dct (k v:L) (ρ:Env):ev G sub (.dct k v) ρ=(ev G sub k ρ).bind λ x=>(ev G sub v ρ).bind λ y=>match x with
   | .int i=> .ok (.dct [.int i] [y])
   |_=> .stuck:=rfl
@[simp] theorem q1u (a i:L) (ρ:Env):ev G sub (.idx a i) ρ=(ev G sub a ρ).bind λ x=>(ev G sub i ρ).bind λ y=>idxD x y:=rfl
@[simp] theorem q4o (st:Nat) (a:L) (lo hi:List L) (ρ:Env):ev G sub (.sl st a lo hi) ρ=(ev G sub a ρ).bind λ x=>(evs G sub lo ρ).bind λ l=>(evs G sub hi ρ).bind λ h=>(optI l).bind λ l=>(optI h).bind λ h=>slD st l h x:=rfl
@[simp] theorem q0B (f:Nat) (xs:List L) (ρ:Env):ev G sub (.call f xs) ρ=(evs G sub xs ρ).bind λ ds=>G f ds:=rfl
@[simp] theorem q0U (b:Bi) (xs:List L) (ρ:Env):ev G sub (.bi b xs) ρ=(evs G sub xs ρ).bind λ ds=>biD sub b ds:=rfl
@[simp] theorem q20 (k:Nat) (elt:L) (it:I) (cond:List T) (ρ:Env):ev G sub (.comp k elt it cond) ρ=(evi G sub it ρ).bind λ ds=>(q0H (ev G sub elt) (tsts G sub cond) k ρ ds).q5R.bind λ es=>if es.length<=big then .ok (.lst es) else .stuck:=rfl
@[simp] theorem qJ5 (a:L) (f:Nat) (ρ:Env):ev G sub (.skey a f) ρ=(ev G sub a ρ).bind λ d=>(q2M d).bind λ xs=>(mapR (λ x=>G f [x]) xs).q5R.bind λ ks =>
   if q1t ks then .ok (.lst ((q6K (ks.zip xs)).map (·.2))) else .stuck:=rfl
@[simp] theorem qJ6 (xs:List L) (ρ:Env):ev G sub (.lrng xs) ρ=(evs G sub xs ρ).bind λ ds=>(rngD ds).bind λ is=>if is.length<=big then .ok (.lst is) else .stuck:=rfl
@[simp] theorem q0R (ρ:Env):evs G sub [] ρ = .ok []:=rfl
@[simp] theorem q0E (a:L) (l:List L) (ρ:Env):evs G sub (a::l) ρ=(ev G sub a ρ).bind λ x=>(evs G sub l ρ).bind λ xs=> .ok (x::xs):=rfl
@[simp] theorem q21 (xs:List L) (ρ:Env):evi G sub (.rng xs) ρ=(evs G sub xs ρ).bind rngD:=rfl
@[simp] theorem qJ7 (i:Nat) (ρ:Env):evi G sub (.b i) ρ=(getB ρ i).bind q1M:=rfl
@[simp] theorem q5V (a:L) (ρ:Env):evi G sub (.e a) ρ=(ev G sub a ρ).bind q2i:=rfl
@[simp] theorem q5W (a b:T) (ρ:Env):tst G sub (.and a b) ρ=(tst G sub a ρ).bind λ t=>if t then tst G sub b ρ else .ok false:=rfl
@[simp] theorem q2l (a b:T) (ρ:Env):tst G sub (.or a b) ρ=(tst G sub a ρ).bind λ t=>if t then .ok true else tst G sub b ρ:=rfl
@[simp] theorem q5X (a:T) (ρ:Env):tst G sub (.not a) ρ=(tst G sub a ρ).bind λ t=> .ok (!t):=rfl
@[simp] theorem q9T (a:L) (ρ:Env):tst G sub (.e a) ρ=(ev G sub a ρ).bind tr:=rfl
@[simp] theorem q5Y (ρ:Env):tsts G sub [] ρ = .ok true:=rfl
@[simp] theorem q4A (a:T) (l:List T) (ρ:Env):tsts G sub (a::l) ρ=(tst G sub a ρ).bind λ t=>if t then tsts G sub l ρ else .ok false:=rfl
@[simp] theorem q0L (i:Nat) (a:L) (ρ:Env):ex G sub (.set i a) ρ=(ev G sub a ρ).go ρ λ d=> .ok (ρ.set i (some (.val d))) .nx:=rfl
@[simp] theorem q4B (i:Nat) (a:L) (ρ:Env):ex G sub (.setO i a) ρ=(ev G sub a ρ).go ρ λ d=> .ok (ρ.set i (some (.own d))) .nx:=rfl
@[simp] theorem qJ8 (is:List Nat) (a:L) (ρ:Env):ex G sub (.setT is a) ρ=(ev G sub a ρ).go ρ λ d=>(unp is.length d).go ρ λ xs=> .ok (q2N is xs ρ) .nx:=rfl
@[simp] theorem ex_aug (i:Nat) (o:Op2) (a:L) (ρ:Env):ex G sub (.aug i o a) ρ=(getV ρ i).go ρ λ x=>(ev G sub a ρ).go ρ λ y=>(augD o x y).go ρ λ z=> .ok (ρ.set i (some (.val z))) .nx:=rfl
@[simp] theorem q8G (i:Nat) (a:L) (ρ:Env):ex G sub (.app i a) ρ=match ρ[i]? with
   |some (some (.own (.lst xs)))=>(ev G sub a ρ).go ρ λ d=>if xs.length<big then .ok (ρ.set i (some (.own (.lst (xs++[d]))))) .nx else .stuck
   |_=> .stuck:=rfl
@[simp] theorem qDc (i:Nat) (a:L) (ρ:Env):ex G sub (.ext i a) ρ=match ρ[i]? with
   |some (some (.own (.lst xs)))=>(ev G sub a ρ).go ρ λ d=>match d with
     | .lst ys=>if xs.length+ys.length<=big then .ok (ρ.set i (some (.own (.lst (xs++ys))))) .nx else .stuck
     |_=> .stuck
   |_=> .stuck:=rfl
@[simp] theorem ex_pop (j i:Nat) (ρ:Env):ex G sub (.pop j i) ρ=match ρ[i]? with
   |some (some (.own (.lst xs)))=>match xs.getLast? with
     |some d=> .ok ((ρ.set i (some (.own (.lst xs.dropLast)))).set j (some (.val d))) .nx
     |none=> .stuck
   |_=> .stuck:=rfl
@[simp] theorem ex_put (i:Nat) (k v:L) (ρ:Env):ex G sub (.put i k v) ρ=match ρ[i]? with
   |some (some (.own (.dct ks vs)))=>(ev G sub v ρ).go ρ λ y=>(ev G sub k ρ).go ρ λ x=>match x with
     | .int n=>if ks.length<big then (put n y ks vs).go ρ λ r=> .ok (ρ.set i (some (.own (.dct r.1 r.2)))) .nx else .stuck
     |_=> .stuck
   |_=> .stuck:=rfl
@[simp] theorem qJ9 (i:Nat) (a:L) (ρ:Env):ex G sub (.setE i a) ρ=(ev G sub a ρ).go ρ λ d=>match d with
   | .int n=>if 0<=n/\n<=1000 then .ok (ρ.set i (some (.own2 (Qo n.toNat [])))) .nx else .stuck
   |_=> .stuck:=rfl
@[simp] theorem qJA (i:Nat) (k a:L) (ρ:Env):ex G sub (.app2 i k a) ρ=match ρ[i]? with
   |some (some (.own2 xss))=>(ev G sub k ρ).go ρ λ x=>match x with
     | .int n=>if 0<=n then (match xss[n.toNat]? with
       |some ys=>(ev G sub a ρ).go ρ λ d=>if ys.length<big then .ok (ρ.set i (some (.own2 (xss.set n.toNat (ys++[d]))))) .nx else .stuck
       |none=> .stuck) else .stuck
     |_=> .stuck
   |_=> .stuck:=rfl
@[simp] theorem ex_frz (i j:Nat) (ρ:Env):ex G sub (.frz i j) ρ=match ρ[j]? with
   |some (some (.own (.lst xs)))=>if i=j then .stuck else .ok ((ρ.set j (some (.val (.lst xs)))).set i (some (.val (.lst xs)))) .nx
   |_=> .stuck:=rfl
@[simp] theorem q2T (a:L) (ρ:Env):ex G sub (.expr a) ρ=(ev G sub a ρ).go ρ λ _=> .ok ρ .nx:=rfl
@[simp] theorem q1v (c:T) (a b:List S) (ρ:Env):ex G sub (.ifs c a b) ρ=(tst G sub c ρ).go ρ λ t=>if t then exs G sub a ρ else exs G sub b ρ:=rfl
@[simp] theorem q3I (k:Nat) (is:List Nat) (it:I) (body:List S) (ρ:Env):ex G sub (.forr k is it body) ρ=(evi G sub it ρ).go ρ λ ds=>q0m (exs G sub body) k is ds ρ:=rfl
@[simp] theorem ex_whl (c:T) (body:List S) (ρ:Env):ex G sub (.whl c body) ρ=q48 (tst G sub c) (exs G sub body) 100000 ρ:=rfl
@[simp] theorem q1D (a:L) (ρ:Env):ex G sub (.ret a) ρ=(ev G sub a ρ).go ρ λ d=> .ok ρ (.ret d):=rfl
@[simp] theorem qJB (ρ:Env):ex G sub .retN ρ = .ok ρ (.ret .non):=rfl
@[simp] theorem qJC (i:Nat) (ρ:Env):ex G sub (.retO i) ρ=match ρ[i]? with
   |some (some (.own d))=> .ok (ρ.set i none) (.ret d)
   |some (some (.own2 xss))=> .ok (ρ.set i none) (.ret (.lst (xss.map .lst)))
   |_=> .stuck:=rfl
@[simp] theorem ex_brk (ρ:Env):ex G sub .brk ρ = .ok ρ .brk:=rfl
@[simp] theorem qJD (ρ:Env):ex G sub .cont ρ = .ok ρ .cont:=rfl
@[simp] theorem qJE (ρ:Env):ex G sub .pass ρ = .ok ρ .nx:=rfl
@[simp] theorem qIl (c:Nat) (ρ:Env):ex G sub (.raise c) ρ = .err c ρ:=rfl
@[simp] theorem qJF (i:Nat) (s:S) (ρ:Env):ex G sub (.fz i s) ρ=match ρ[i]? with
   |some (some (.own (.dct ks vs)))=>ex G sub s (ρ.set i (some (.val (.dct ks vs))))
   |some (some (.own (.lst xs)))=>ex G sub s (ρ.set i (some (.val (.lst xs))))
   |_=> .stuck:=rfl
@[simp] theorem qAM (body:List S) (c d:Nat) (ρ:Env):ex G sub (.tryR body c d) ρ=match exs G sub body ρ with
   | .err e ρ'=>if sub e c&&!sub d c then .err d ρ' else .stuck
   |r=>r:=rfl
@[simp] theorem q4C (body:List S) (c i j:Nat) (ρ:Env):ex G sub (.tryE body c i j) ρ=match exs G sub body ρ with
   | .err e ρ'=>if sub e c then .ok ((ρ'.set j (some (.val (.exc e)))).set i none) .nx else .stuck
   |r=>r:=rfl
@[simp] theorem q1Q (ρ:Env):exs G sub [] ρ = .ok ρ .nx:=rfl
@[simp] theorem q0k (s:S) (l:List S) (ρ:Env):exs G sub (s::l) ρ=(ex G sub s ρ).nx λ ρ'=>exs G sub l ρ':=rfl
end
end Ev
namespace Ev
open PySem
noncomputable def nI (t:Nat):D:= .int (t:Int)
noncomputable def nL (l:List Nat):List D:=l.map nI
@[simp] theorem nL_nil:nL []=[]:=rfl
@[simp] theorem q5Z (a:Nat) (l:List Nat):nL (a::l)=nI a::nL l:=rfl
@[simp] theorem qGp (a b:List Nat):nL (a++b)=nL a++nL b:=Jp
@[simp] theorem q6L (l:List Nat):(nL l).length=l.length:=Qe _
@[simp] theorem nI_inj (a b:Nat):nI a=nI b↔a=b:=by unfold nI;simp;lia
@[simp] theorem add_n (a b:Nat):opD .add (nI a) (nI b) = .ok (nI (a+b)):=rfl
@[simp] theorem shl_n (a b:Nat) (ha:a<2^62) (hb:b<=1000):opD .shl (nI a) (nI b) = .ok (nI (a <<< b)):=by unfold nI;rw[q6J _ (by decide) (by decide)];unfold opI;dsimp only;rw[if_pos (by lia)];rfl
@[simp] theorem shr_n (a b:Nat):opD .shr (nI a) (nI b) = .ok (nI (a >>> b)):=by unfold nI;rw[q6J _ (by decide) (by decide)];unfold opI;dsimp only;rw[if_pos (by lia)];rfl
@[simp] theorem band_n (a b:Nat):opD .band (nI a) (nI b) = .ok (nI (a &&& b)):=by unfold nI;rw[q6J _ (by decide) (by decide)];unfold opI;dsimp only;rw[if_pos (by lia)];rfl
@[simp] theorem bor_n (a b:Nat):opD .bor (nI a) (nI b) = .ok (nI (a ||| b)):=by unfold nI;rw[q6J _ (by decide) (by decide)];unfold opI;dsimp only;rw[if_pos (by lia)];rfl
@[simp] theorem bxor_n (a b:Nat):opD .bxor (nI a) (nI b) = .ok (nI (a ^^^ b)):=by unfold nI;rw[q6J _ (by decide) (by decide)];unfold opI;dsimp only;rw[if_pos (by lia)];rfl
theorem qJG (a b:Nat) (h:b<=a):opD .sub (nI a) (nI b) = .ok (nI (a-b)):=by unfold nI;rw[q6J _ (by decide) (by decide)];unfold opI;dsimp only;congr 2;lia
@[simp] theorem q6M (a b:Nat) (h:0<b):opD .mod (nI a) (nI b) = .ok (nI (a % b)):=by unfold nI;rw[q6J _ (by decide) (by decide)];unfold opI;dsimp only;rw[if_pos (by lia)];rfl
@[simp] theorem q8H (a b:Nat) (h:0<b) (h2:b<1073741824):opD .fdiv (nI a) (nI b) = .ok (nI (a / b)):=by unfold nI;rw[q6J _ (by decide) (by decide)];unfold opI;dsimp only;rw[if_pos (by lia)];rfl
@[simp] theorem pl_n (a:Nat):pl (nI a)=true:=rfl
@[simp] theorem pl_int (a:Int):pl (.int a)=true:=rfl
@[simp] theorem pl_bl (a:Bool):pl (.bl a)=true:=rfl
@[simp] theorem pl_str (a:Str):pl (.str a)=true:=rfl
@[simp] theorem pl_non:pl .non=true:=rfl
@[simp] theorem plN_n (k a:Nat):plN k (nI a)=true:=by cases k<;>rfl
@[simp] theorem qJH (k:Nat) (a:Int):plN k (.int a)=true:=by cases k<;>rfl
@[simp] theorem plN_bl (k:Nat) (a:Bool):plN k (.bl a)=true:=by cases k<;>rfl
@[simp] theorem qJI (k:Nat) (a:Str):plN k (.str a)=true:=by cases k<;>rfl
@[simp] theorem qJJ (k:Nat):plN k .non=true:=by cases k<;>rfl
@[simp] theorem q11 (k:Nat) (l:List D):plN (k+1) (.tup l)=l.all (plN k):=by simp[plN]
@[simp] theorem q4D (k:Nat) (l:List D):plN (k+1) (.lst l)=l.all (plN k):=by simp[plN]
@[simp] theorem all_n (k:Nat) (l:List Nat):(nL l).all (plN k)=true:=by simp[nL]
@[simp] theorem pl_tn (l:List Nat):pl (.tup (nL l))=true:=by unfold pl;simp
@[simp] theorem pl_ln (l:List Nat):pl (.lst (nL l))=true:=by unfold pl;simp
@[simp] theorem qJK:plL []=true:=rfl
@[simp] theorem qIm (a:D) (l:List D):plL (a::l)=(pl a&&plL l):=rfl
theorem q1R {l:List D}:plL l=true↔∀d∈l,pl d=true:=by unfold plL;simp
@[simp] theorem plL_n (l:List Nat):plL (nL l)=true:=q1R.mpr λ d hd=>by obtain⟨a,_,rfl⟩:=Qm.mp hd;rfl
@[simp] theorem eqb_n (a b:Nat):eqb (nI a) (nI b)=decide (a=b):=by
 have:eqb (.int (a:Int)) (.int (b:Int))=decide ((a:Int)=b):=by simp[eqb]
 rw[nI,nI,this];exact decide_eq_decide.mpr (by lia)
@[simp] theorem qJL (a:Nat):q02 (nI a)=true:=by simp[nI,q02]
@[simp] theorem hshL_n (l:List Nat):q09 (nL l)=true:=q0K.mpr λ d hd=>by obtain⟨a,_,rfl⟩:=Qm.mp hd;exact qJL a
@[simp] theorem qDd (l:List Nat):q02 (.tup (nL l))=true:=by simp[q02]
theorem nL_inj {a b:List Nat}:nL a=nL b↔a=b:=by unfold nL;exact⟨λ h=>(List.map_inj_right (λ x y e=>by unfold nI at e;injection e with e;lia)).mp h,λ h=>by rw[h]⟩
@[simp] theorem eqb_tn (a b:List Nat):eqb (.tup (nL a)) (.tup (nL b))=decide (a=b):=by rw[QP,q0Z (qDd a) (qDd b)];simp[nL_inj]
@[simp] theorem lt_n (a b:Nat):cmD .lt (nI a) (nI b) = .ok (.bl (decide (a<b))):=by simp[nI,cmD,q0e,ltb,pl,q02]
@[simp] theorem ge_n (a b:Nat):cmD .ge (nI a) (nI b) = .ok (.bl (decide (b<=a))):=by simp[nI,cmD,q0e,ltb,pl,q02];rw[QP];simp
@[simp] theorem gt_n (a b:Nat):cmD .gt (nI a) (nI b) = .ok (.bl (decide (b<a))):=by simp[nI,cmD,intD]
@[simp] theorem le_n (a b:Nat):cmD .le (nI a) (nI b) = .ok (.bl (decide (a<=b))):=by simp[nI,cmD,intD]
@[simp] theorem eq_n (a b:Nat):cmD .eq (nI a) (nI b) = .ok (.bl (decide (a=b))):=by simp[cmD]
@[simp] theorem ne_n (a b:Nat):cmD .ne (nI a) (nI b) = .ok (.bl (!decide (a=b))):=by simp[cmD]
@[simp] theorem qC8 (b:Bool):tr (.bl b) = .ok b:=rfl
@[simp] theorem tr_lst (l:List D):tr (.lst l) = .ok (!l.isEmpty):=rfl
@[simp] theorem tr_tup (l:List D):tr (.tup l) = .ok (!l.isEmpty):=rfl
@[simp] theorem qGq (l:List D):q2i (.lst l) = .ok l:=rfl
@[simp] theorem qG8 (l:List D):q2M (.lst l) = .ok l:=rfl
@[simp] theorem q9U (l:List D):q1M (.lst l) = .ok l:=rfl
@[simp] theorem qG9 (l:List D):q1M (.tup l) = .ok l:=rfl
@[simp] theorem qGr (l:List D):q2i (.tup l) = .ok l:=rfl
theorem qDe:∀l:List Nat,ints? (nL l)=some (l.map λ (a:Nat)=>(a:Int))
 |[]=>rfl
 |a::l=>by simp[ints?,nI,qDe l]
@[simp] theorem qGs (k:List Nat) (v:List D):q2i (.dct (nL k) v) = .ok (nL k):=by simp[q2i,qDe]
theorem num0:D.int 0=nI 0:=rfl
theorem num1:D.int 1=nI 1:=rfl
theorem num2:D.int 2=nI 2:=rfl
theorem num10:D.int 10=nI 10:=rfl
theorem qJM:D.int 1300=nI 1300:=rfl
@[simp] theorem q4w (j:Nat) (h:j<=1000000):rngD [nI j] = .ok (nL (Qp j)):=by unfold rngD nI;simp only;rw[if_pos (by lia)];simp[nL,nI]
@[simp] theorem unp0 (d:D):unp 0 d = .ok [d]:=rfl
@[simp] theorem unp2 (a b:D):unp 2 (.tup [a,b]) = .ok [a,b]:=rfl
@[simp] theorem qJN (i:Nat) (d:D) (ρ:Env):q2N [i] [d] ρ=ρ.set i (some (.val d)):=rfl
@[simp] theorem qJO (i j:Nat) (d e:D) (ρ:Env):q2N [i,j] [d,e] ρ=(ρ.set i (some (.val d))).set j (some (.val e)):=rfl
@[simp] theorem q8I:vals []=[]:=rfl
@[simp] theorem q6N (d:D) (l:List D):vals (d::l)=some (.val d)::vals l:=rfl
@[simp] theorem qGA (elt:Env->R D) (cond:Env->R Bool) (k:Nat) (ρ:Env):q0H elt cond k ρ [] = .ok []:=rfl
theorem q4E {elt:Env->R D}{cond:Env->R Bool}{k:Nat}{ρ:Env}{g:D->D}{p:D->Bool}:∀{ds:List D},
  (∀d∈ds,∃xs,unp k d = .ok xs/\cond (vals xs++ρ) = .ok (p d)/\(p d=true->elt (vals xs++ρ) = .ok (g d)))->q0H elt cond k ρ ds = .ok ((ds.filter p).map g)
 |[],_=>rfl
 |d::ds,h=>by
  obtain⟨xs,h1,h2,h3⟩:=h d Qb;have ih:=q4E (elt:=elt) (cond:=cond) (k:=k) (ρ:=ρ) (g:=g) (p:=p) (ds:=ds) λ e he=>h e (Qa _ he);unfold q0H;rw[h1,q00,h2,q00];cases hp:p d with
  |true=>rw[if_pos rfl,h3 hp,q00,ih];simp[Jf,hp]
  |false=>rw[if_neg (by simp),ih];simp[Jf,hp]
@[simp] theorem q8J (ρ:Env) (i:Nat):getV ρ i=match ρ[i]? with
 |some (some (.val d))=> .ok d
 |_=> .stuck:=rfl
@[simp] theorem qIn (ρ:Env) (i:Nat):getB ρ i=match ρ[i]? with
 |some (some (.val d))=> .ok d
 |some (some (.own d))=> .ok d
 |_=> .stuck:=rfl
@[simp] theorem augD_n (o:Op2) (a b:Nat):augD o (nI a) (nI b)=opD o (nI a) (nI b):=rfl
theorem q14:big=1000000:=rfl
theorem q4F (body:Env->RS) (k:Nat) (is:List Nat) (ρ:Env):q0m body k is [] ρ = .ok ρ .nx:=rfl
theorem q1Y (body:Env->RS) (i:Nat) (d:D) (ds:List D) (ρ:Env):q0m body 0 [i] (d::ds) ρ=(body (ρ.set i (some (.val d)))).turn λ ρ'=>q0m body 0 [i] ds ρ':=rfl
theorem qGt (body:Env->RS) (i j:Nat) (a b:D) (ds:List D) (ρ:Env):q0m body 2 [i,j] (.tup [a,b]::ds) ρ=(body ((ρ.set i (some (.val a))).set j (some (.val b)))).turn λ ρ'=>q0m body 2 [i,j] ds ρ':=rfl
theorem qGB (c:Env->R Bool) (body:Env->RS) (n:Nat) (ρ:Env):q48 c body (n+1) ρ=(c ρ).go ρ λ t=>if t then (body ρ).turn λ ρ'=>q48 c body n ρ' else .ok ρ .nx:=rfl
section
variable {sub:Nat->Nat->Bool}
@[simp] theorem q3J (xs:List D):biD sub .len [.lst xs] = .ok (nI xs.length):=rfl
@[simp] theorem qGC (xs:List D):biD sub .len [.tup xs] = .ok (nI xs.length):=rfl
@[simp] theorem qGD (ks vs:List D):biD sub .len [.dct ks vs] = .ok (nI ks.length):=rfl
@[simp] theorem q6O (xs:List D):biD sub .tuple [.lst xs] = .ok (.tup xs):=rfl
@[simp] theorem qDf (xs:List D):biD sub .tuple [.tup xs] = .ok (.tup xs):=rfl
@[simp] theorem qEQ (xs:List D):biD sub .list [.lst xs] = .ok (.lst xs):=rfl
@[simp] theorem qER (xs:List D):biD sub .list [.tup xs] = .ok (.lst xs):=rfl
@[simp] theorem qIo (sub:Nat->Nat->Bool) (l:List D):biD sub .isTup [.tup l] = .ok (.bl true):=rfl
@[simp] theorem qIp (sub:Nat->Nat->Bool) (l:List D):biD sub .isLst [.lst l] = .ok (.bl true):=rfl
@[simp] theorem qIq (sub:Nat->Nat->Bool) (i:Int):biD sub .isInt [.int i] = .ok (.bl true):=rfl
@[simp] theorem qGu (sub:Nat->Nat->Bool) (i:Nat):biD sub .isInt [nI i] = .ok (.bl true):=rfl
@[simp] theorem qGv (sub:Nat->Nat->Bool) (i:Int):biD sub .isBool [.int i] = .ok (.bl false):=rfl
@[simp] theorem qGE (sub:Nat->Nat->Bool) (i:Nat):biD sub .isBool [nI i] = .ok (.bl false):=rfl
@[simp] theorem qGF (sub:Nat->Nat->Bool) (b:Bool):biD sub .isBool [.bl b] = .ok (.bl true):=rfl
@[simp] theorem qIr (sub:Nat->Nat->Bool) (e:Nat):biD sub .isVal [.exc e] = .ok (.bl true):=rfl
@[simp] theorem qIs (sub:Nat->Nat->Bool) (c e:Nat):biD sub (.isExc c) [.exc e] = .ok (.bl (sub e c)):=rfl
@[simp] theorem qGw (d:D):biD sub .sorted [d]=(q2M d).bind λ xs=>if q1t xs then .ok (.lst (q1y xs)) else .stuck:=rfl
@[simp] theorem q6P (d:D):biD sub .sortedSet [d]=(q1M d).bind λ xs=>if q09 xs&&plL xs&&decide (xs.length<=1000)&&q1t (dedup xs) then .ok (.lst (q1y (dedup xs))) else .stuck:=rfl
@[simp] theorem qGx (xs:List D):biD sub .all [.lst xs]=match bools? xs with
   |some bs=> .ok (.bl (bs.all id))
   |none=> .stuck:=rfl
@[simp] theorem bi_any (xs:List D):biD sub .any [.lst xs]=match bools? xs with
 |some bs=> .ok (.bl (bs.any id))
 |none=> .stuck:=rfl
@[simp] theorem qIt (xs:List D) (x:D):biD sub .count [.lst xs,x]=if pl x&&plL xs then .ok (.int ((xs.filter λ y=>eqb y x).length)) else .stuck:=rfl
@[simp] theorem qC9 (xs:List D) (x:D):biD sub .index [.lst xs,x]=if pl x&&plL xs then idxOf x xs 0 else .stuck:=rfl
end
end Ev
namespace Ev
open PySem
section
variable {G:Nat->List D->R D}{sub:Nat->Nat->Bool}
theorem q6Q (l:List Nat) (p:Nat->Bool) (q:D->Bool) (h:∀a∈l,q (nI a)=p a):(nL l).filter q=nL (l.filter p):=by
 induction l with
 |nil=>rfl
 |cons a l ih =>
  have h1:=h a Qb;have ih':=ih λ b hb=>h b (Qa _ hb);rw[q5Z,Jf,Jf,h1,ih'];split<;>simp
noncomputable def natOf:D->Nat
 | .int i=>i.toNat
 |_=>0
@[simp] theorem qJP (a:Nat):natOf (nI a)=a:=by simp[natOf,nI]
theorem q5a {elt:Env->R D}{cond:Env->R Bool}{ρ:Env}{p:Nat->Bool}{l:List Nat}(hc:∀a∈l,cond (some (.val (nI a))::ρ) = .ok (p a)) (he:∀a∈l,elt (some (.val (nI a))::ρ) = .ok (nI a)) :
  q0H elt cond 0 ρ (nL l) = .ok (nL (l.filter p)):=by
 rw[q4E (g:=id) (p:=λ d=>p (natOf d))]
 ·rw[List.map_id,q6Q l p];intro a _;simp
 ·intro d hd;obtain⟨a,ha,rfl⟩:=Qm.mp hd;refine⟨[nI a],rfl,?_,λ _=>?_⟩
  ·simp[hc a ha]
  ·simp[he a ha]
theorem q9V (l:List D) (t:Nat) (d:D) (h:l[t]? = some d):nth l (t:Int) = .ok d:=by unfold nth;rw[if_pos (by lia)];simp[h]
end
end Ev
namespace Ev
open PySem PySem.SeqAt
variable {h:Heap}{a:Addr}{us vs:List Value}{A:Around}{s:Shared}{u v u1 u2:Value}{b c:Bool}{d e:D}
mutual
noncomputable def Dv (h:Heap):D->Value->Prop
 | .non,u=>u = .none
 | .bl b,u=>u = .bool b
 | .int i,u=>∃t,u = .int i t
 | .str x,u=>∃t,u = .str x t
 | .tup ds,u=>∃a us,u = .ref a/\h.IsTuple a (Jd us)/\DvL h ds us
 | .lst ds,u=>∃a us,u = .ref a/\h.IsList a (Jd us)/\DvL h ds us
 | .dct _ _,_=>True
 | .exc _,_=>True
noncomputable def DvL (h:Heap):List D->List Value->Prop
 |[],us=>us=[]
 |d::ds,us=>∃u r,us=u::r/\Dv h d u/\DvL h ds r
end
theorem DvL.length:∀{ds:List D}{us:List Value},DvL h ds us->ds.length=us.length
 |[],us,x=>by cases (show us=[] from x);rfl
 |d::ds,us,x=>by obtain⟨u,r,e,_,y⟩:=x;subst e;simp[DvL.length y]
theorem DvL.get:∀{ds:List D}{us:List Value}{i:Nat}{d:D},DvL h ds us->ds[i]? = some d->∃u,us[i]? = some u/\Dv h d u
 |[],us,i,d,x,e=>by simp at e
 |a::ds,us,0,d,x,e=>by obtain⟨u,r,q,y,_⟩:=x;subst q;simp at e;subst e;exact⟨u,rfl,y⟩
 |a::ds,us,i+1,d,x,e=>by obtain⟨u,r,q,_,y⟩:=x;subst q;obtain⟨v,e1,e2⟩:=DvL.get (i:=i) y (by simpa using e);exact⟨v,by simpa using e1,e2⟩
theorem DvL.mem:∀{ds:List D}{us:List Value}{u:Value},DvL h ds us->u∈us->∃d∈ds,Dv h d u
 |[],us,u,x,e=>by cases (show us=[] from x);cases e
 |a::ds,us,u,x,e=>by
  obtain⟨w,r,q,y1,y2⟩:=x;subst q;rcases Qh.mp e with rfl|e
  ·exact⟨a,Qb,y1⟩
  ·obtain⟨d,hd,z⟩:=DvL.mem y2 e;exact⟨d,Qa _ hd,z⟩
noncomputable def q5b (ds es:List D) (j:Nat):Bool:=match ds[j]?,es[j]? with
 |some d,some e=>eqb d e
 |_,_=>true
theorem all_succ (f:Nat->Bool) (n:Nat):(Qp (n+1)).all f=(f 0&&(Qp n).all (λ i=>f (i+1))):=by rw[List.range_succ_eq_map,List.all_cons,List.all_map];rfl
theorem q2m:∀ds es:List D,((Qp (min ds.length es.length)).all (q5b ds es)&&ds.length==es.length)=eqbL ds es
 |[],[]=>rfl
 |[],_::_=>by simp[eqbL]
 |_::_,[]=>by simp[eqbL]
 |d::ds,e::es=>by
  have ih:=q2m ds es;rw[Qd,Qd,Nat.succ_min_succ,all_succ,eqbL,<-ih];have h1:q5b (d::ds) (e::es) 0=eqb d e:=rfl;have h2:(λ i=>q5b (d::ds) (e::es) (i+1))=q5b ds es:=by funext i;simp[q5b]
  rw[h1,h2];have h3:(ds.length+1==es.length+1)=(ds.length==es.length):=by simp
  rw[h3,Bool.and_assoc]
theorem q4G {ds es:List D}(h:ds.length=es.length):(Qp ds.length).all (q5b ds es)=eqbL ds es:=by have:=q2m ds es;rw[<-h,Nat.min_self] at this;simpa using this
theorem q2n:∀{ds es:List D},ds.length≠es.length->eqbL ds es=false
 |[],[],h=>absurd rfl h
 |[],_::_,_=>by simp[eqbL]
 |_::_,[],_=>by simp[eqbL]
 |d::ds,e::es,h=>by rw[eqbL,q2n (ds:=ds) (es:=es) (λ q=>h (by simp[q]))];simp
theorem qES (x:h.IsTuple a us.toArray) (y:h.IsTuple a vs.toArray):us=vs:=by
 obtain⟨o,e,_,n,d⟩:=x;obtain⟨o',e',_,n',d'⟩:=y;rw[e] at e';cases e';rw[d] at d';injection d' with d1 _
 simpa using congrArg Array.toList d1
theorem qET (x:h.IsList a us.toArray) (y:h.IsList a vs.toArray):us=vs:=by
 obtain⟨o,e,_,n,d⟩:=x;obtain⟨o',e',_,n',d'⟩:=y;rw[e] at e';cases e';rw[d] at d';injection d' with d1 _
 simpa using congrArg Array.toList d1
theorem q4x (x:h.IsTuple a us.toArray) (y:h.IsList a vs.toArray):False:=by
 obtain⟨o,e,c,_⟩:=x;obtain⟨o',e',c',_⟩:=y;rw[e] at e';cases e';rw[c] at c';injection c' with q
 exact absurd q (by decide)
theorem q2U:∀(k:Nat) {h:Heap}{d e:D}{u:Value},plN k d=true->plN k e=true->Dv h d u->Dv h e u->eqb d e=true:=by
 have lists:∀(k:Nat),(∀{h:Heap}{d e:D}{u:Value},plN k d=true->plN k e=true->Dv h d u->Dv h e u->eqb d e=true)->∀{h:Heap}{ds es:List D}{us:List Value},ds.all (plN k)=true->es.all (plN k)=true->DvL h ds us->DvL h es us->eqbL ds es=true:=by
  intro k ih h ds
  induction ds with
  |nil =>
   intro es us _ _ x y;cases (show us=[] from x);cases es with
   |nil=>simp[eqbL]
   |cons e es=>obtain⟨_,_,q,_⟩:=y;cases q
  |cons d ds ihl =>
   intro es us p q x y;obtain⟨u,r,e1,x1,x2⟩:=x;subst e1;cases es with
   |nil=>cases (show u::r=[] from y)
   |cons e es =>
    obtain⟨u',r',e2,y1,y2⟩:=y;injection e2 with e3 e4
    subst e3 e4;simp only[List.all_cons,Qg] at p q;rw[eqbL,ih p.1 q.1 x1 y1,ihl p.2 q.2 x2 y2];rfl
 intro k
 induction k with
 |zero =>
  intro h d e u p q x y;cases d<;>cases e<;>first
   |(simp[plN] at p;done)
   |(simp[plN] at q;done)
   |(obtain⟨t,rfl⟩:=x;obtain⟨t',q'⟩:=y;injection q' with q1 _;subst q1;simp[eqb];done)
   |(obtain⟨t,rfl⟩:=x;obtain⟨t',q'⟩:=y;cases q';done)
   |(obtain⟨t,rfl⟩:=x;cases (show _=_ from y);done)
   |(obtain⟨t,rfl⟩:=y;cases (show _=_ from x);done)
   |(cases (show u=_ from x);cases (show _=_ from y);simp[eqb];done)
   |(cases (show u=_ from x);cases (show _=_ from y);done)
 |succ k ih =>
  intro h d e u p q x y;cases d<;>cases e<;>first
   |(simp[plN] at p;done)
   |(simp[plN] at q;done)
   |(obtain⟨a,us,rfl,x1,x2⟩:=x;obtain⟨a',us',q',y1,y2⟩:=y;injection q' with q1;subst q1;cases qES x1 y1;rw[q11] at p q;simpa[eqb] using lists k (λ {h d e u}=>ih) p q x2 y2;done)
   |(obtain⟨a,us,rfl,x1,x2⟩:=x;obtain⟨a',us',q',y1,y2⟩:=y;injection q' with q1;subst q1;cases qET x1 y1;rw[q4D] at p q;simpa[eqb] using lists k (λ {h d e u}=>ih) p q x2 y2;done)
   |(obtain⟨a,us,rfl,x1,x2⟩:=x;obtain⟨a',us',q',y1,y2⟩:=y;injection q' with q1;subst q1;exact (q4x x1 y1).elim)
   |(obtain⟨a,us,rfl,x1,x2⟩:=x;obtain⟨a',us',q',y1,y2⟩:=y;injection q' with q1;subst q1;exact (q4x y1 x1).elim)
   |(obtain⟨a,us,rfl,x1,x2⟩:=x;obtain⟨t',q'⟩:=y;cases q';done)
   |(obtain⟨a,us,rfl,x1,x2⟩:=x;cases (show _=_ from y);done)
   |(obtain⟨a,us,rfl,x1,x2⟩:=y;obtain⟨t',q'⟩:=x;cases q';done)
   |(obtain⟨a,us,rfl,x1,x2⟩:=y;cases (show _=_ from x);done)
   |(obtain⟨t,rfl⟩:=x;obtain⟨t',q'⟩:=y;injection q' with q1 _;subst q1;simp[eqb];done)
   |(obtain⟨t,rfl⟩:=x;obtain⟨t',q'⟩:=y;cases q';done)
   |(obtain⟨t,rfl⟩:=x;cases (show _=_ from y);done)
   |(obtain⟨t,rfl⟩:=y;cases (show _=_ from x);done)
   |(cases (show u=_ from x);cases (show _=_ from y);simp[eqb];done)
   |(cases (show u=_ from x);cases (show _=_ from y);done)
theorem eqTo (h:EqAt A s u v b) (e:b=c:=by first|rfl|simp[eqb,b2i,Bool.beq_eq_decide_eq]):EqAt A s u v c:=e▸h
theorem q4y (hk:∀l,d = .tup l->∀m,e = .tup m->EqAt A s u1 u2 (eqb d e)) (hl:∀l,d = .lst l->∀m,e = .lst m->EqAt A s u1 u2 (eqb d e)) (p:∃k,plN k d=true) (q:∃k,plN k e=true) (x1:Dv s.heap d u1) (x2:Dv s.heap e u2) (hu:A.units<cLine):EqAt A s u1 u2 (eqb d e):=by
 cases d with
 |non =>
  cases (show u1=_ from x1);cases e with
  |non=>cases (show u2=_ from x2);exact eqTo (EqAt.same .none)
  |bl b2=>cases (show u2=_ from x2);exact eqTo (EqAt.none_bool b2)
  |int i2=>obtain⟨t2,rfl⟩:=x2;exact eqTo (EqAt.none_int i2 t2)
  |str w2=>obtain⟨t2,rfl⟩:=x2;exact eqTo (EqAt.none_str w2 t2)
  |tup l2=>obtain⟨a2,us2,rfl,y2,z2⟩:=x2;exact eqTo (EqAt.none_tuple y2 hu)
  |lst l2=>obtain⟨a2,us2,rfl,y2,z2⟩:=x2;exact eqTo (EqAt.none_list y2 hu)
  |_=>obtain⟨k,q⟩:=q;cases k<;>simp[plN] at q
 |bl b1 =>
  cases (show u1=_ from x1);cases e with
  |non=>cases (show u2=_ from x2);exact eqTo (EqAt.bool_none b1)
  |bl b2=>cases (show u2=_ from x2);exact eqTo (EqAt.bool_bool b1 b2)
  |int i2=>obtain⟨t2,rfl⟩:=x2;exact eqTo (EqAt.bool_int b1 i2 t2)
  |str w2=>obtain⟨t2,rfl⟩:=x2;exact eqTo (EqAt.bool_str b1 w2 t2)
  |tup l2=>obtain⟨a2,us2,rfl,y2,z2⟩:=x2;exact eqTo (EqAt.bool_tuple b1 y2 hu)
  |lst l2=>obtain⟨a2,us2,rfl,y2,z2⟩:=x2;exact eqTo (EqAt.bool_list b1 y2 hu)
  |_=>obtain⟨k,q⟩:=q;cases k<;>simp[plN] at q
 |int i1 =>
  obtain⟨t1,rfl⟩:=x1;cases e with
  |non=>cases (show u2=_ from x2);exact eqTo (EqAt.int_none i1 t1)
  |bl b2=>cases (show u2=_ from x2);exact eqTo (EqAt.int_bool i1 t1 b2)
  |int i2=>obtain⟨t2,rfl⟩:=x2;exact eqTo (EqAt.int_int i1 t1 i2 t2)
  |str w2=>obtain⟨t2,rfl⟩:=x2;exact eqTo (EqAt.int_str i1 t1 w2 t2)
  |tup l2=>obtain⟨a2,us2,rfl,y2,z2⟩:=x2;exact eqTo (EqAt.int_tuple i1 t1 y2 hu)
  |lst l2=>obtain⟨a2,us2,rfl,y2,z2⟩:=x2;exact eqTo (EqAt.int_list i1 t1 y2 hu)
  |_=>obtain⟨k,q⟩:=q;cases k<;>simp[plN] at q
 |str w1 =>
  obtain⟨t1,rfl⟩:=x1;cases e with
  |non=>cases (show u2=_ from x2);exact eqTo (EqAt.str_none w1 t1)
  |bl b2=>cases (show u2=_ from x2);exact eqTo (EqAt.str_bool w1 t1 b2)
  |int i2=>obtain⟨t2,rfl⟩:=x2;exact eqTo (EqAt.str_int w1 t1 i2 t2)
  |str w2=>obtain⟨t2,rfl⟩:=x2;exact eqTo (EqAt.str_str w1 t1 w2 t2)
  |tup l2=>obtain⟨a2,us2,rfl,y2,z2⟩:=x2;exact eqTo (EqAt.str_tuple w1 t1 y2 hu)
  |lst l2=>obtain⟨a2,us2,rfl,y2,z2⟩:=x2;exact eqTo (EqAt.str_list w1 t1 y2 hu)
  |_=>obtain⟨k,q⟩:=q;cases k<;>simp[plN] at q
 |tup l1 =>
  obtain⟨a1,us1,rfl,y1,z1⟩:=x1;cases e with
  |non=>cases (show u2=_ from x2);exact eqTo (EqAt.tuple_none y1 hu)
  |bl b2=>cases (show u2=_ from x2);exact eqTo (EqAt.tuple_bool b2 y1 hu)
  |int i2=>obtain⟨t2,rfl⟩:=x2;exact eqTo (EqAt.tuple_int i2 t2 y1 hu)
  |str w2=>obtain⟨t2,rfl⟩:=x2;exact eqTo (EqAt.tuple_str w2 t2 y1 hu)
  |tup l2=>exact hk _ rfl _ rfl
  |lst l2=>obtain⟨a2,us2,rfl,y2,z2⟩:=x2;exact eqTo (EqAt.tuple_list y1 y2 hu)
  |_=>obtain⟨k,q⟩:=q;cases k<;>simp[plN] at q
 |lst l1 =>
  obtain⟨a1,us1,rfl,y1,z1⟩:=x1;cases e with
  |non=>cases (show u2=_ from x2);exact eqTo (EqAt.list_none y1 hu)
  |bl b2=>cases (show u2=_ from x2);exact eqTo (EqAt.list_bool b2 y1 hu)
  |int i2=>obtain⟨t2,rfl⟩:=x2;exact eqTo (EqAt.list_int i2 t2 y1 hu)
  |str w2=>obtain⟨t2,rfl⟩:=x2;exact eqTo (EqAt.list_str w2 t2 y1 hu)
  |tup l2=>obtain⟨a2,us2,rfl,y2,z2⟩:=x2;exact eqTo (EqAt.list_tuple y1 y2 hu)
  |lst l2=>exact hl _ rfl _ rfl
  |_=>obtain⟨k,q⟩:=q;cases k<;>simp[plN] at q
 |_=>obtain⟨k,p⟩:=p;cases k<;>simp[plN] at p
theorem rcTo (h:RcAt A s u v b) (e:b=c:=by first|rfl|simp[eqb,b2i,Bool.beq_eq_decide_eq]):RcAt A s u v c:=e▸h
theorem q9W (hk:∀l,d = .tup l->∀m,e = .tup m->RcAt A s u1 u2 (eqb d e)) (hl:∀l,d = .lst l->∀m,e = .lst m->RcAt A s u1 u2 (eqb d e)) (p:∃k,plN k d=true) (q:∃k,plN k e=true) (x1:Dv s.heap d u1) (x2:Dv s.heap e u2) (hu:A.units<cLine):RcAt A s u1 u2 (eqb d e):=by
 cases d with
 |non =>
  cases (show u1=_ from x1);cases e with
  |non=>cases (show u2=_ from x2);exact rcTo RcAt.none_none
  |bl b2=>cases (show u2=_ from x2);exact rcTo (RcAt.none_bool b2)
  |int i2=>obtain⟨t2,rfl⟩:=x2;exact rcTo (RcAt.none_int i2 t2)
  |str w2=>obtain⟨t2,rfl⟩:=x2;exact rcTo (RcAt.none_str w2 t2)
  |tup l2=>obtain⟨a2,us2,rfl,y2,z2⟩:=x2;exact rcTo (RcAt.none_tuple y2 hu)
  |lst l2=>obtain⟨a2,us2,rfl,y2,z2⟩:=x2;exact rcTo (RcAt.none_list y2 hu)
  |_=>obtain⟨k,q⟩:=q;cases k<;>simp[plN] at q
 |bl b1 =>
  cases (show u1=_ from x1);cases e with
  |non=>cases (show u2=_ from x2);exact rcTo (RcAt.bool_none b1)
  |bl b2=>cases (show u2=_ from x2);exact rcTo (RcAt.bool_bool b1 b2)
  |int i2=>obtain⟨t2,rfl⟩:=x2;exact rcTo (RcAt.bool_int b1 i2 t2)
  |str w2=>obtain⟨t2,rfl⟩:=x2;exact rcTo (RcAt.bool_str b1 w2 t2)
  |tup l2=>obtain⟨a2,us2,rfl,y2,z2⟩:=x2;exact rcTo (RcAt.bool_tuple b1 y2 hu)
  |lst l2=>obtain⟨a2,us2,rfl,y2,z2⟩:=x2;exact rcTo (RcAt.bool_list b1 y2 hu)
  |_=>obtain⟨k,q⟩:=q;cases k<;>simp[plN] at q
 |int i1 =>
  obtain⟨t1,rfl⟩:=x1;cases e with
  |non=>cases (show u2=_ from x2);exact rcTo (RcAt.int_none i1 t1)
  |bl b2=>cases (show u2=_ from x2);exact rcTo (RcAt.int_bool i1 t1 b2)
  |int i2=>obtain⟨t2,rfl⟩:=x2;exact rcTo (RcAt.int_int i1 t1 i2 t2)
  |str w2=>obtain⟨t2,rfl⟩:=x2;exact rcTo (RcAt.int_str i1 t1 w2 t2)
  |tup l2=>obtain⟨a2,us2,rfl,y2,z2⟩:=x2;exact rcTo (RcAt.int_tuple i1 t1 y2 hu)
  |lst l2=>obtain⟨a2,us2,rfl,y2,z2⟩:=x2;exact rcTo (RcAt.int_list i1 t1 y2 hu)
  |_=>obtain⟨k,q⟩:=q;cases k<;>simp[plN] at q
 |str w1 =>
  obtain⟨t1,rfl⟩:=x1;cases e with
  |non=>cases (show u2=_ from x2);exact rcTo (RcAt.str_none w1 t1)
  |bl b2=>cases (show u2=_ from x2);exact rcTo (RcAt.str_bool w1 t1 b2)
  |int i2=>obtain⟨t2,rfl⟩:=x2;exact rcTo (RcAt.str_int w1 t1 i2 t2)
  |str w2=>obtain⟨t2,rfl⟩:=x2;exact rcTo (RcAt.str_str w1 t1 w2 t2)
  |tup l2=>obtain⟨a2,us2,rfl,y2,z2⟩:=x2;exact rcTo (RcAt.str_tuple w1 t1 y2 hu)
  |lst l2=>obtain⟨a2,us2,rfl,y2,z2⟩:=x2;exact rcTo (RcAt.str_list w1 t1 y2 hu)
  |_=>obtain⟨k,q⟩:=q;cases k<;>simp[plN] at q
 |tup l1 =>
  obtain⟨a1,us1,rfl,y1,z1⟩:=x1;cases e with
  |non=>cases (show u2=_ from x2);exact rcTo (RcAt.tuple_none y1 hu)
  |bl b2=>cases (show u2=_ from x2);exact rcTo (RcAt.tuple_bool b2 y1 hu)
  |int i2=>obtain⟨t2,rfl⟩:=x2;exact rcTo (RcAt.tuple_int i2 t2 y1 hu)
  |str w2=>obtain⟨t2,rfl⟩:=x2;exact rcTo (RcAt.tuple_str w2 t2 y1 hu)
  |tup l2=>exact hk _ rfl _ rfl
  |lst l2=>obtain⟨a2,us2,rfl,y2,z2⟩:=x2;exact rcTo (RcAt.tuple_list y1 y2 hu)
  |_=>obtain⟨k,q⟩:=q;cases k<;>simp[plN] at q
 |lst l1 =>
  obtain⟨a1,us1,rfl,y1,z1⟩:=x1;cases e with
  |non=>cases (show u2=_ from x2);exact rcTo (RcAt.list_none y1 hu)
  |bl b2=>cases (show u2=_ from x2);exact rcTo (RcAt.list_bool b2 y1 hu)
  |int i2=>obtain⟨t2,rfl⟩:=x2;exact rcTo (RcAt.list_int i2 t2 y1 hu)
  |str w2=>obtain⟨t2,rfl⟩:=x2;exact rcTo (RcAt.list_str w2 t2 y1 hu)
  |tup l2=>obtain⟨a2,us2,rfl,y2,z2⟩:=x2;exact rcTo (RcAt.list_tuple y1 y2 hu)
  |lst l2=>exact hl _ rfl _ rfl
  |_=>obtain⟨k,q⟩:=q;cases k<;>simp[plN] at q
 |_=>obtain⟨k,p⟩:=p;cases k<;>simp[plN] at p
theorem neTo (h:RcNeAt A s u v b) (e:b=c:=by first|rfl|simp[eqb,b2i,Bool.beq_eq_decide_eq]):RcNeAt A s u v c:=e▸h
theorem q6R (hk:∀l,d = .tup l->∀m,e = .tup m->RcNeAt A s u1 u2 (!eqb d e)) (hl:∀l,d = .lst l->∀m,e = .lst m->RcNeAt A s u1 u2 (!eqb d e)) (p:∃k,plN k d=true) (q:∃k,plN k e=true) (x1:Dv s.heap d u1) (x2:Dv s.heap e u2) (hu:A.units<cLine):RcNeAt A s u1 u2 (!eqb d e):=by
 cases d with
 |non =>
  cases (show u1=_ from x1);cases e with
  |non=>cases (show u2=_ from x2);exact neTo RcNeAt.none_none
  |bl b2=>cases (show u2=_ from x2);exact neTo (RcNeAt.none_bool b2)
  |int i2=>obtain⟨t2,rfl⟩:=x2;exact neTo (RcNeAt.none_int i2 t2)
  |str w2=>obtain⟨t2,rfl⟩:=x2;exact neTo (RcNeAt.none_str w2 t2)
  |tup l2=>obtain⟨a2,us2,rfl,y2,z2⟩:=x2;exact neTo (RcNeAt.none_tuple y2 hu)
  |lst l2=>obtain⟨a2,us2,rfl,y2,z2⟩:=x2;exact neTo (RcNeAt.none_list y2 hu)
  |_=>obtain⟨k,q⟩:=q;cases k<;>simp[plN] at q
 |bl b1 =>
  cases (show u1=_ from x1);cases e with
  |non=>cases (show u2=_ from x2);exact neTo (RcNeAt.bool_none b1)
  |bl b2=>cases (show u2=_ from x2);exact neTo (RcNeAt.bool_bool b1 b2)
  |int i2=>obtain⟨t2,rfl⟩:=x2;exact neTo (RcNeAt.bool_int b1 i2 t2)
  |str w2=>obtain⟨t2,rfl⟩:=x2;exact neTo (RcNeAt.bool_str b1 w2 t2)
  |tup l2=>obtain⟨a2,us2,rfl,y2,z2⟩:=x2;exact neTo (RcNeAt.bool_tuple b1 y2 hu)
  |lst l2=>obtain⟨a2,us2,rfl,y2,z2⟩:=x2;exact neTo (RcNeAt.bool_list b1 y2 hu)
  |_=>obtain⟨k,q⟩:=q;cases k<;>simp[plN] at q
 |int i1 =>
  obtain⟨t1,rfl⟩:=x1;cases e with
  |non=>cases (show u2=_ from x2);exact neTo (RcNeAt.int_none i1 t1)
  |bl b2=>cases (show u2=_ from x2);exact neTo (RcNeAt.int_bool i1 t1 b2)
  |int i2=>obtain⟨t2,rfl⟩:=x2;exact neTo (RcNeAt.int_int i1 t1 i2 t2)
  |str w2=>obtain⟨t2,rfl⟩:=x2;exact neTo (RcNeAt.int_str i1 t1 w2 t2)
  |tup l2=>obtain⟨a2,us2,rfl,y2,z2⟩:=x2;exact neTo (RcNeAt.int_tuple i1 t1 y2 hu)
  |lst l2=>obtain⟨a2,us2,rfl,y2,z2⟩:=x2;exact neTo (RcNeAt.int_list i1 t1 y2 hu)
  |_=>obtain⟨k,q⟩:=q;cases k<;>simp[plN] at q
 |str w1 =>
  obtain⟨t1,rfl⟩:=x1;cases e with
  |non=>cases (show u2=_ from x2);exact neTo (RcNeAt.str_none w1 t1)
  |bl b2=>cases (show u2=_ from x2);exact neTo (RcNeAt.str_bool w1 t1 b2)
  |int i2=>obtain⟨t2,rfl⟩:=x2;exact neTo (RcNeAt.str_int w1 t1 i2 t2)
  |str w2=>obtain⟨t2,rfl⟩:=x2;exact neTo (RcNeAt.str_str w1 t1 w2 t2)
  |tup l2=>obtain⟨a2,us2,rfl,y2,z2⟩:=x2;exact neTo (RcNeAt.str_tuple w1 t1 y2 hu)
  |lst l2=>obtain⟨a2,us2,rfl,y2,z2⟩:=x2;exact neTo (RcNeAt.str_list w1 t1 y2 hu)
  |_=>obtain⟨k,q⟩:=q;cases k<;>simp[plN] at q
 |tup l1 =>
  obtain⟨a1,us1,rfl,y1,z1⟩:=x1;cases e with
  |non=>cases (show u2=_ from x2);exact neTo (RcNeAt.tuple_none y1 hu)
  |bl b2=>cases (show u2=_ from x2);exact neTo (RcNeAt.tuple_bool b2 y1 hu)
  |int i2=>obtain⟨t2,rfl⟩:=x2;exact neTo (RcNeAt.tuple_int i2 t2 y1 hu)
  |str w2=>obtain⟨t2,rfl⟩:=x2;exact neTo (RcNeAt.tuple_str w2 t2 y1 hu)
  |tup l2=>exact hk _ rfl _ rfl
  |lst l2=>obtain⟨a2,us2,rfl,y2,z2⟩:=x2;exact neTo (RcNeAt.tuple_list y1 y2 hu)
  |_=>obtain⟨k,q⟩:=q;cases k<;>simp[plN] at q
 |lst l1 =>
  obtain⟨a1,us1,rfl,y1,z1⟩:=x1;cases e with
  |non=>cases (show u2=_ from x2);exact neTo (RcNeAt.list_none y1 hu)
  |bl b2=>cases (show u2=_ from x2);exact neTo (RcNeAt.list_bool b2 y1 hu)
  |int i2=>obtain⟨t2,rfl⟩:=x2;exact neTo (RcNeAt.list_int i2 t2 y1 hu)
  |str w2=>obtain⟨t2,rfl⟩:=x2;exact neTo (RcNeAt.list_str w2 t2 y1 hu)
  |tup l2=>obtain⟨a2,us2,rfl,y2,z2⟩:=x2;exact neTo (RcNeAt.list_tuple y1 y2 hu)
  |lst l2=>exact hl _ rfl _ rfl
  |_=>obtain⟨k,q⟩:=q;cases k<;>simp[plN] at q
 |_=>obtain⟨k,p⟩:=p;cases k<;>simp[plN] at p
theorem q2F {k:Nat}(ih:∀{A:Around}{d e:D}{u v:Value},plN k d=true->plN k e=true->Dv s.heap d u->Dv s.heap e v->A.units+k<cLine->EqAt A s u v (eqb d e))
  {ds es:List D}{us vs:List Value}(p:ds.all (plN k)=true) (q:es.all (plN k)=true) (x:DvL s.heap ds us) (y:DvL s.heap es vs) (hu:A.units+k<cLine) :
  ∀j (h1:j<us.toArray.size) (h2:j<vs.toArray.size),EqAt A s us.toArray[j] vs.toArray[j] (q5b ds es j):=by
 intro j h1 h2;have l1:j<ds.length:=by rw[x.length];simpa using h1
 have l2:j<es.length:=by rw[y.length];simpa using h2
 obtain⟨u,e1,z1⟩:=x.get (Qi l1);obtain⟨v,e2,z2⟩:=y.get (Qi l2);have f1:us.toArray[j]=u:=by have:us[j]? = some u:=e1;rw[Qi (by simpa using h1)] at this;simpa using this
 have f2:vs.toArray[j]=v:=by have:vs[j]? = some v:=e2;rw[Qi (by simpa using h2)] at this;simpa using this
 rw[f1,f2];have f3:q5b ds es j=eqb ds[j] es[j]:=by simp[q5b,l1,l2]
 rw[f3];exact ih (Qs.mp p _ (QU l1)) (Qs.mp q _ (QU l2)) z1 z2 hu
theorem q22:∀(k:Nat) {A:Around}{s:Shared}{d e:D}{u v:Value},plN k d=true->plN k e=true->Dv s.heap d u->Dv s.heap e v->A.units+k<cLine->EqAt A s u v (eqb d e)
 |0,A,s,d,e,u,v,p,q,x,y,hu=>q4y (λ l h=>by subst h;simp[plN] at p) (λ l h=>by subst h;simp[plN] at p) ⟨0,p⟩ ⟨0,q⟩ x y (by lia)
 |k+1,A,s,d,e,u,v,p,q,x,y,hu=>by
  refine q4y (λ l h m h'=>?_) (λ l h m h'=>?_) ⟨_,p⟩ ⟨_,q⟩ x y (by lia)
  ·subst h h';obtain⟨a,us,rfl,x1,x2⟩:=x;obtain⟨b,vs,rfl,y1,y2⟩:=y
   by_cases ne:a=b
   ·subst ne;have:=q2U (k+1) p q (show Dv s.heap (.tup l) (.ref a) from⟨a,us,rfl,x1,x2⟩) (show Dv s.heap (.tup m) (.ref a) from⟨a,vs,rfl,y1,y2⟩);rw[this];exact EqAt.same _
   ·rw[q11] at p q;have h:=RcAt.tuples x1 y1 (show A.units<cLine by lia) (q2F (A:=A.in1) (λ {A d e u v}=>q22 k) p q x2 y2 (by rw[Around.in1_units];lia));have e1:us.toArray.size=l.length:=(by rw[x2.length];simp);have e2:vs.toArray.size=m.length:=(by rw[y2.length];simp);rw[e1,e2,q2m] at h;have e3:eqb (.tup l) (.tup m)=eqbL l m:=(by simp[eqb]);rw[e3];exact EqAt.of_refs ne h
  ·subst h h';obtain⟨a,us,rfl,x1,x2⟩:=x;obtain⟨b,vs,rfl,y1,y2⟩:=y
   by_cases ne:a=b
   ·subst ne;have:=q2U (k+1) p q (show Dv s.heap (.lst l) (.ref a) from⟨a,us,rfl,x1,x2⟩) (show Dv s.heap (.lst m) (.ref a) from⟨a,vs,rfl,y1,y2⟩);rw[this];exact EqAt.same _
   ·rw[q4D] at p q;have e1:us.toArray.size=l.length:=(by rw[x2.length];simp);have e2:vs.toArray.size=m.length:=(by rw[y2.length];simp);have e3:eqb (.lst l) (.lst m)=eqbL l m:=(by simp[eqb]);rw[e3]
    by_cases hl:l.length=m.length
    ·have h:=RcAt.lists x1 y1 (by rw[e1,e2,hl]) (show A.units<cLine by lia) (q2F (A:=A.in1) (λ {A d e u v}=>q22 k) p q x2 y2 (by rw[Around.in1_units];lia));rw[e1,q4G hl] at h;exact EqAt.of_refs ne h
    ·have h:=RcAt.lists_lengths x1 y1 (by rw[e1,e2];simpa using hl) (show A.units<cLine by lia);rw[q2n hl];exact EqAt.of_refs ne h
theorem qGy (k:Nat) (p:plN k d=true) (q:plN k e=true) (x:Dv s.heap d u) (y:Dv s.heap e v) (hu:A.units+k<cLine):RcAt A s u v (eqb d e):=by
 refine q9W (λ l h m h'=>?_) (λ l h m h'=>?_) ⟨_,p⟩ ⟨_,q⟩ x y (by lia)
 ·subst h h';cases k with
  |zero=>simp[plN] at p
  |succ k =>
   obtain⟨a,us,rfl,x1,x2⟩:=x;obtain⟨b,vs,rfl,y1,y2⟩:=y;rw[q11] at p q;have h:=RcAt.tuples x1 y1 (show A.units<cLine by lia) (q2F (A:=A.in1) (λ {A d e u v}=>q22 k) p q x2 y2 (by rw[Around.in1_units];lia));have e1:us.toArray.size=l.length:=(by rw[x2.length];simp);have e2:vs.toArray.size=m.length:=(by rw[y2.length];simp);rw[e1,e2,q2m] at h;have e3:eqb (.tup l) (.tup m)=eqbL l m:=(by simp[eqb]);rw[e3];exact h
 ·subst h h';cases k with
  |zero=>simp[plN] at p
  |succ k =>
   obtain⟨a,us,rfl,x1,x2⟩:=x;obtain⟨b,vs,rfl,y1,y2⟩:=y;rw[q4D] at p q;have e1:us.toArray.size=l.length:=(by rw[x2.length];simp);have e2:vs.toArray.size=m.length:=(by rw[y2.length];simp);have e3:eqb (.lst l) (.lst m)=eqbL l m:=(by simp[eqb]);rw[e3]
   by_cases hl:l.length=m.length
   ·have h:=RcAt.lists x1 y1 (by rw[e1,e2,hl]) (show A.units<cLine by lia) (q2F (A:=A.in1) (λ {A d e u v}=>q22 k) p q x2 y2 (by rw[Around.in1_units];lia));rw[e1,q4G hl] at h;exact h
   ·rw[q2n hl];exact RcAt.lists_lengths x1 y1 (by rw[e1,e2];simpa using hl) (show A.units<cLine by lia)
theorem qCA (k:Nat) (p:plN k d=true) (q:plN k e=true) (x:Dv s.heap d u) (y:Dv s.heap e v) (hu:A.units+k<cLine):RcNeAt A s u v (!eqb d e):=by
 refine q6R (λ l h m h'=>?_) (λ l h m h'=>?_) ⟨_,p⟩ ⟨_,q⟩ x y (by lia)
 ·subst h h';cases k with
  |zero=>simp[plN] at p
  |succ k =>
   obtain⟨a,us,rfl,x1,x2⟩:=x;obtain⟨b,vs,rfl,y1,y2⟩:=y;rw[q11] at p q;have h:=RcNeAt.tuples x1 y1 (show A.units<cLine by lia) (q2F (A:=A.in1) (λ {A d e u v}=>q22 k) p q x2 y2 (by rw[Around.in1_units];lia));have e1:us.toArray.size=l.length:=(by rw[x2.length];simp);have e2:vs.toArray.size=m.length:=(by rw[y2.length];simp);rw[e1,e2,q2m] at h;have e3:eqb (.tup l) (.tup m)=eqbL l m:=(by simp[eqb]);rw[e3];exact h
 ·subst h h';cases k with
  |zero=>simp[plN] at p
  |succ k =>
   obtain⟨a,us,rfl,x1,x2⟩:=x;obtain⟨b,vs,rfl,y1,y2⟩:=y;rw[q4D] at p q;have e1:us.toArray.size=l.length:=(by rw[x2.length];simp);have e2:vs.toArray.size=m.length:=(by rw[y2.length];simp);have e3:eqb (.lst l) (.lst m)=eqbL l m:=(by simp[eqb]);rw[e3]
   by_cases hl:l.length=m.length
   ·have h:=RcNeAt.lists x1 y1 (by rw[e1,e2,hl]) (show A.units<cLine by lia) (q2F (A:=A.in1) (λ {A d e u v}=>q22 k) p q x2 y2 (by rw[Around.in1_units];lia));rw[e1,q4G hl] at h;exact h
   ·rw[q2n hl];exact RcNeAt.lists_lengths x1 y1 (by rw[e1,e2];simpa using hl) (show A.units<cLine by lia)
end Ev
namespace Ev
open PySem
mutual
noncomputable def norm:D->D
 | .bl b=> .int (b2i b)
 | .tup l=> .tup (q5c l)
 | .lst l=> .lst (q5c l)
 |d=>d
noncomputable def q5c:List D->List D
 |[]=>[]
 |a::l=>norm a::q5c l
end
theorem q4H {k:Nat}(ih:∀{d e:D},plN k d=true->plN k e=true->(eqb d e=true↔norm d=norm e)):∀{l m:List D},l.all (plN k)=true->m.all (plN k)=true->(eqbL l m=true↔q5c l=q5c m)
 |[],[],_,_=>by simp[eqbL,q5c]
 |[],_::_,_,_=>by simp[eqbL,q5c]
 |_::_,[],_,_=>by simp[eqbL,q5c]
 |d::l,e::m,p,q=>by simp only[List.all_cons,Qg] at p q;simp only[eqbL,q5c,Qg,List.cons.injEq];rw[ih p.1 q.1,q4H ih p.2 q.2]
theorem q2o:∀(k:Nat) {d e:D},plN k d=true->plN k e=true->(eqb d e=true↔norm d=norm e)
 |0,d,e,p,q=>by
  cases d<;>cases e<;>first
   |(simp[plN] at p;done)
   |(simp[plN] at q;done)
   |(simp[eqb,norm,b2i];done)
   |(rename_i a b;cases a<;>cases b<;>simp[eqb,norm,b2i];done)
   |(rename_i a b;cases a<;>simp[eqb,norm,b2i]<;>lia)
   |(rename_i a b;cases b<;>simp[eqb,norm,b2i]<;>lia)
 |k+1,d,e,p,q=>by
  cases d<;>cases e<;>first
   |(simp[plN] at p;done)
   |(simp[plN] at q;done)
   |(simp[eqb,norm,b2i];done)
   |(rw[q11] at p q;simpa[eqb,norm] using q4H (λ {d e}=>q2o k) p q;done)
   |(rw[q4D] at p q;simpa[eqb,norm] using q4H (λ {d e}=>q2o k) p q;done)
   |(rename_i a b;cases a<;>cases b<;>simp[eqb,norm,b2i];done)
   |(rename_i a b;cases a<;>simp[eqb,norm,b2i]<;>lia)
   |(rename_i a b;cases b<;>simp[eqb,norm,b2i]<;>lia)
theorem qAN {k:Nat}{d d' e:D}(p:plN k d=true) (p':plN k d'=true) (q:plN k e=true) (h:eqb d d'=true):eqb d e=eqb d' e:=by have h':=(q2o k p p').mp h;rw[QP,q2o k p q,q2o k p' q,h']
end Ev
namespace Ev
open PySem PySem.SeqAt
open PySem.AutoSeq1 (wpAny_loadPart')
open PySem.MeetsSeq PySem.MeetsSeq2 PySem.MeetsSeq3
def LtAt (A:Around) (s:Shared) (u v:Value) (b:Bool):Prop :=
 ∀(prog:Program) (w:World) (E:Value->Shared->Prop) (Q:Value->Shared->Prop),Q (.bool b) s->wpAny (model prog w) A (richCompare .Lt u v) Q E s
def GeAt (A:Around) (s:Shared) (u v:Value) (b:Bool):Prop :=
 ∀(prog:Program) (w:World) (E:Value->Shared->Prop) (Q:Value->Shared->Prop),Q (.bool b) s->wpAny (model prog w) A (richCompare .GtE u v) Q E s
theorem q6S (l b:Addr) (items items2:List Value) (n n2:Nat) (dd dd2:Option Addr) (sl sl2:Array (Option Value)) (ds es:List D) (c:q0Y ds es=true) :
  Meets (Builtin.«tuple.__lt__» ⟨[.ref l,.ref b],[]⟩)
   (λ A R s=>s.heap.get? l=some {cls:= .type "tuple",dict:=dd,data:= .seq items.toArray n,slots:=sl}/\s.heap.get? b=some {cls:= .type "tuple",dict:=dd2,data:= .seq items2.toArray n2,slots:=sl2}/\
    DvL s.heap ds items/\DvL s.heap es items2/\(∀d∈ds,∀e∈es,∀u v,Dv s.heap d u->Dv s.heap e v->EqAt A.in1 s u v (eqb d e)/\(q0e d e=true->LtAt A.in1 s u v (ltb d e)))/\
    R (.ok (.ret (.bool (ltbL ds es)))) s) :=
 .of_wp λ prog w A R s h=>by
  obtain⟨hp,g,d,tk,os⟩:=s;obtain⟨hl,hb,hx,hy,hel,h⟩:=h;have f2:=AutoSeq1.sub_tuple_tuple;have z1:items.toArray.size=ds.length:=by rw[hx.length];simp
  have z2:items2.toArray.size=es.length:=by rw[hy.length];simp
  wp_walk using wpAny_loadPart' hl,wpAny_loadPart' hb,wpAny_forIn_list _ (λ rest b s'=>b.1=none/\s'=⟨hp,g,d,tk,os⟩/\∃(vs ws:List Value) (ds' es':List D),rest=vs.zip ws/\
   DvL hp ds' vs/\DvL hp es' ws/\(∀x∈ds',x∈ds)/\(∀x∈es',x∈es)/\q0Y ds' es'=true/\ds'.length+items2.toArray.size=es'.length+items.toArray.size/\R (.ok (.ret (.bool (ltbL ds' es')))) ⟨hp,g,d,tk,os⟩) _
  case turn =>
   rintro⟨y,x⟩ rest b s' ⟨hb',rfl,vs,ws,ds',es',hz,hv,hw,sd,se,hc,hlen,hR⟩;cases ds' with
   |nil=>cases (show vs=[] from hv);rw[List.zip_nil_left] at hz;cases hz
   |cons d1 ds1 =>
    obtain⟨u1,r1,e1,v1,v2⟩:=hv;subst e1;cases es' with
    |nil=>cases (show ws=[] from hw);rw[List.zip_nil_right] at hz;cases hz
    |cons d2 es1 =>
     obtain⟨u2,r2,e2,w1,w2⟩:=hw;subst e2;rw[Jn] at hz;injection hz with hyx hrest
     injection hyx with hy' hx'
     subst hy' hx';rw[ltbL] at hR;rw[q0Y] at hc;simp only[Qd] at hlen;have hh:=hel d1 (sd d1 Qb) d2 (se d2 Qb) _ _ v1 w1;refine wpAny_bind (hh.1 prog w _ _ ?_);cases e:eqb d1 d2 with
     |true =>
      rw[e,if_pos rfl] at hR hc
      wp_walk
      exact⟨rfl,rfl,_,_,_,_,hrest,v2,w2,λ x hx=>sd x (Qa _ hx),λ x hx=>se x (Qa _ hx),hc,by lia,hR⟩
     |false =>
      rw[e,if_neg (by simp)] at hR hc;have hri:=hh.2 hc prog w
      wp_walk using hri
      exact⟨_,rfl,by simpa using hR⟩
  case fin =>
   rintro⟨b1,b2⟩ s' ⟨hb',rfl,vs,ws,ds',es',hz,hv,hw,sd,se,hc,hlen,hR⟩;simp only at hb';subst hb';have hq:ltbL ds' es'=decide (items.toArray.size<items2.toArray.size):=by
    cases ds' with
    |nil=>cases es' with
     |nil =>
      simp only[QS] at hlen;rw[show ltbL [] []=false by simp[ltbL]];exact (decide_eq_false (by lia)).symm
     |cons _ _ =>
      simp only[QS,Qd] at hlen;rw[ltbL];exact (decide_eq_true (by lia)).symm
    |cons _ _=>cases es' with
     |nil =>
      simp only[QS,Qd] at hlen;rw[ltbL];exact (decide_eq_false (by lia)).symm
     |cons _ _ =>
      obtain⟨_,_,e1,_⟩:=hv;obtain⟨_,_,e2,_⟩:=hw;subst e1 e2;rw[Jn] at hz;cases hz
   rw[hq] at hR
   wp_walk
   exact⟨_,rfl,by simpa[Builtin.Tuple.tupleCompareSizes] using hR⟩
  case h =>
   exact⟨rfl,rfl,items,items2,ds,es,by simp,hx,hy,λ _ h=>h,λ _ h=>h,c,by lia,h⟩
theorem qAO (l b:Addr) (items items2:List Value) (n n2:Nat) (dd dd2:Option Addr) (sl sl2:Array (Option Value)) (ds es:List D) (c:q0Y ds es=true) :
  Meets (Builtin.«tuple.__ge__» ⟨[.ref l,.ref b],[]⟩)
   (λ A R s=>s.heap.get? l=some {cls:= .type "tuple",dict:=dd,data:= .seq items.toArray n,slots:=sl}/\s.heap.get? b=some {cls:= .type "tuple",dict:=dd2,data:= .seq items2.toArray n2,slots:=sl2}/\
    DvL s.heap ds items/\DvL s.heap es items2/\(∀d∈ds,∀e∈es,∀u v,Dv s.heap d u->Dv s.heap e v->EqAt A.in1 s u v (eqb d e)/\(q0e d e=true->GeAt A.in1 s u v (!ltb d e)))/\
    R (.ok (.ret (.bool (!ltbL ds es)))) s) :=
 .of_wp λ prog w A R s h=>by
  obtain⟨hp,g,d,tk,os⟩:=s;obtain⟨hl,hb,hx,hy,hel,h⟩:=h;have f2:=AutoSeq1.sub_tuple_tuple;have z1:items.toArray.size=ds.length:=by rw[hx.length];simp
  have z2:items2.toArray.size=es.length:=by rw[hy.length];simp
  wp_walk using wpAny_loadPart' hl,wpAny_loadPart' hb,wpAny_forIn_list _ (λ rest b s'=>b.1=none/\s'=⟨hp,g,d,tk,os⟩/\∃(vs ws:List Value) (ds' es':List D),rest=vs.zip ws/\
   DvL hp ds' vs/\DvL hp es' ws/\(∀x∈ds',x∈ds)/\(∀x∈es',x∈es)/\q0Y ds' es'=true/\ds'.length+items2.toArray.size=es'.length+items.toArray.size/\R (.ok (.ret (.bool (!ltbL ds' es')))) ⟨hp,g,d,tk,os⟩) _
  case turn =>
   rintro⟨y,x⟩ rest b s' ⟨hb',rfl,vs,ws,ds',es',hz,hv,hw,sd,se,hc,hlen,hR⟩;cases ds' with
   |nil=>cases (show vs=[] from hv);rw[List.zip_nil_left] at hz;cases hz
   |cons d1 ds1 =>
    obtain⟨u1,r1,e1,v1,v2⟩:=hv;subst e1;cases es' with
    |nil=>cases (show ws=[] from hw);rw[List.zip_nil_right] at hz;cases hz
    |cons d2 es1 =>
     obtain⟨u2,r2,e2,w1,w2⟩:=hw;subst e2;rw[Jn] at hz;injection hz with hyx hrest
     injection hyx with hy' hx'
     subst hy' hx';rw[ltbL] at hR;rw[q0Y] at hc;simp only[Qd] at hlen;have hh:=hel d1 (sd d1 Qb) d2 (se d2 Qb) _ _ v1 w1;refine wpAny_bind (hh.1 prog w _ _ ?_);cases e:eqb d1 d2 with
     |true =>
      rw[e,if_pos rfl] at hR hc
      wp_walk
      exact⟨rfl,rfl,_,_,_,_,hrest,v2,w2,λ x hx=>sd x (Qa _ hx),λ x hx=>se x (Qa _ hx),hc,by lia,hR⟩
     |false =>
      rw[e,if_neg (by simp)] at hR hc;have hri:=hh.2 hc prog w
      wp_walk using hri
      exact⟨_,rfl,by simpa using hR⟩
  case fin =>
   rintro⟨b1,b2⟩ s' ⟨hb',rfl,vs,ws,ds',es',hz,hv,hw,sd,se,hc,hlen,hR⟩;simp only at hb';subst hb';have hq:(!ltbL ds' es')=decide (items.toArray.size≥items2.toArray.size):=by
    cases ds' with
    |nil=>cases es' with
     |nil =>
      simp only[QS] at hlen;rw[show ltbL [] []=false by simp[ltbL]];exact (decide_eq_true (by lia)).symm
     |cons _ _ =>
      simp only[QS,Qd] at hlen;rw[ltbL];exact (decide_eq_false (by lia)).symm
    |cons _ _=>cases es' with
     |nil =>
      simp only[QS,Qd] at hlen;rw[ltbL];exact (decide_eq_true (by lia)).symm
     |cons _ _ =>
      obtain⟨_,_,e1,_⟩:=hv;obtain⟨_,_,e2,_⟩:=hw;subst e1 e2;rw[Jn] at hz;cases hz
   rw[hq] at hR
   wp_walk
   exact⟨_,rfl,by simpa[Builtin.Tuple.tupleCompareSizes] using hR⟩
  case h =>
   exact⟨rfl,rfl,items,items2,ds,es,by simp,hx,hy,λ _ h=>h,λ _ h=>h,c,by lia,h⟩
theorem q6T:∀(k:Nat) {A:Around}{s:Shared}{d e:D}{u v:Value},plN k d=true->plN k e=true->q02 d=true->q02 e=true->q0e d e=true->Dv s.heap d u->Dv s.heap e v->A.units+k<cLine->LtAt A s u v (ltb d e)/\GeAt A s u v (!ltb d e):=by
 intro k
 induction k with
 |zero =>
  intro A s d e u v p q h1 h2 c x y hu;cases d<;>cases e<;>first
   |(simp[q0e] at c;done)
   |(simp[plN] at p;done)
   |skip
  obtain⟨t,rfl⟩:=x;obtain⟨t',rfl⟩:=y;refine⟨λ prog w E Q h=>?_,λ prog w E Q h=>?_⟩
  ·exact (PyProof.Rows.lt_int (by simpa[ltb] using h):wpAny (model prog w) A (compareOp .Lt _ _) Q E s)
  ·refine (PyProof.Rows.ge_int ?_:wpAny (model prog w) A (compareOp .GtE _ _) Q E s);have e:∀a b:Int,(!decide (a<b))=decide (b<=a):=λ a b=>by rw[QP];simp
   simp only[ltb] at h;rw[e] at h;exact h
 |succ k ih =>
  intro A s d e u v p q h1 h2 c x y hu;cases d<;>cases e<;>first
   |(simp[q0e] at c;done)
   |(simp[q02] at h1;done)
   |skip
  ·obtain⟨t,rfl⟩:=x;obtain⟨t',rfl⟩:=y;refine⟨λ prog w E Q h=>?_,λ prog w E Q h=>?_⟩
   ·exact (PyProof.Rows.lt_int (by simpa[ltb] using h):wpAny (model prog w) A (compareOp .Lt _ _) Q E s)
   ·refine (PyProof.Rows.ge_int ?_:wpAny (model prog w) A (compareOp .GtE _ _) Q E s);have e:∀a b:Int,(!decide (a<b))=decide (b<=a):=λ a b=>by rw[QP];simp
    simp only[ltb] at h;rw[e] at h;exact h
  ·rename_i ds es;obtain⟨a,us,rfl,x1,x2⟩:=x;obtain⟨b,vs,rfl,y1,y2⟩:=y;rw[q11] at p q;have c':q0Y ds es=true:=(by simpa[q0e] using c);have h1':q09 ds=true:=(by simpa[q02] using h1);have h2':q09 es=true:=(by simpa[q02] using h2);obtain⟨⟨cls,dd,data,sl⟩,ho,hc,n,hd⟩:=id x1;obtain⟨⟨cls2,dd2,data2,sl2⟩,ho2,hc2,n2,hd2⟩:=id y1;simp only at hc hd hc2 hd2;subst hc hd hc2 hd2;have el:∀d∈ds,∀e∈es,∀u v,Dv s.heap d u->Dv s.heap e v->EqAt A.in1 s u v (eqb d e)/\(q0e d e=true->LtAt A.in1 s u v (ltb d e)/\GeAt A.in1 s u v (!ltb d e)):=by intro d hd e he u v x y;have p1:=Qs.mp p d hd;have q1:=Qs.mp q e he;have hu':A.in1.units+k<cLine:=(by rw[Around.in1_units];lia);exact⟨q22 k p1 q1 x y hu',λ c=>ih p1 q1 (q0K.mp h1' d hd) (q0K.mp h2' e he) c x y hu'⟩
   have e1:ltb (.tup ds) (.tup es)=ltbL ds es:=(by simp[ltb]);rw[e1];refine⟨λ prog w E Q h=>?_,λ prog w E Q h=>?_⟩
   ·exact richCompare_meets_room (op:= .Lt) ⟨_,ho,rfl⟩ ⟨_,ho2,rfl⟩ PySem.F.slot_tuple_lt PySem.F.entry_tuple_lt (PySem.F.args_tuple_lt_2 _ _) (q6S a b us vs n n2 dd dd2 sl sl2 ds es c')
     ⟨ho,ho2,x2,y2,λ d hd e he u v x y=>⟨(el d hd e he u v x y).1,λ c=>((el d hd e he u v x y).2 c).1⟩,show Value.bool (ltbL ds es)≠Value.notImplemented/\Q (.bool (ltbL ds es)) s from⟨(λ x=>nomatch x),h⟩⟩ (by lia)
   ·exact richCompare_meets_room (op:= .GtE) ⟨_,ho,rfl⟩ ⟨_,ho2,rfl⟩ PySem.F.slot_tuple_ge PySem.F.entry_tuple_ge (PySem.F.args_tuple_ge_2 _ _) (qAO a b us vs n n2 dd dd2 sl sl2 ds es c')
     ⟨ho,ho2,x2,y2,λ d hd e he u v x y=>⟨(el d hd e he u v x y).1,λ c=>((el d hd e he u v x y).2 c).2⟩,show Value.bool (!ltbL ds es)≠Value.notImplemented/\Q (.bool (!ltbL ds es)) s from⟨(λ x=>nomatch x),h⟩⟩ (by lia)
end Ev
namespace Ev
open PySem
mutual
noncomputable def hv:D->Int
 | .int i=>hashInt i
 | .tup ds=>reduceHash (Builtin.Tuple.tupleHashOf (hvL ds))
 |_=>0
noncomputable def hvL:List D->List Int
 |[]=>[]
 |d::ds=>hv d::hvL ds
end
theorem q3K:∀a b:List D,hvL (a++b)=hvL a++hvL b
 |[],_=>by simp[hvL]
 |d::a,b=>by simp[hvL,q3K a b]
section
variable {prog:Program}{w:World}
theorem qCB:∀(k:Nat) {A:Around}{E:Value->Shared->Prop}{s:Shared}{d:D}{u:Value}{Q:Int->Shared->Prop},plN k d=true->q02 d=true->Dv s.heap d u->A.units+k<cLine->
  (∀t,Q (hv d) {s with toks:=t})->wpAny (model prog w) A (pyHash u) Q E s:=by
 intro k
 induction k with
 |zero =>
  intro A E s d u Q p hh x hu h;cases d<;>first
   |(simp[q02] at hh;done)
   |(simp[plN] at p;done)
   |skip
  obtain⟨t,rfl⟩:=x;exact wpAny_pyHash_int (by have:=h (s.toks+1);simpa[hv] using this)
 |succ k ih =>
  intro A E s d u Q p hh x hu h;cases d<;>first
   |(simp[q02] at hh;done)
   |skip
  ·obtain⟨t,rfl⟩:=x;exact wpAny_pyHash_int (by have:=h (s.toks+1);simpa[hv] using this)
  ·rename_i ds;obtain⟨a,us,rfl,x1,x2⟩:=x;rw[q11] at p;have hh':q09 ds=true:=(by simpa[q02] using hh);have hT:s.TypeIs (.ref a) "tuple":=let ⟨o,ho,hc,_⟩:=x1;⟨o,ho,hc⟩;obtain⟨o,ho,hc,n,hd⟩:=x1;unfold pyHash pyHashByItsType;refine wpAny_bind (wpAny_cRoomFor_or (.inr (by lia)) ?_);refine wpAny_bind (wpAny_specialOf hT F.slot_tuple_hash.lookup (wpAny_ite_split (λ z=>absurd z (by rw[beq_builtin_none];decide)) λ _=>wpAny_bind (wpAny_specialOf hT F.slot_tuple_hash.lookup (wpAny_bind (wpAny_callSpecialIfBoundUnlessNone?_slot hT F.slot_tuple_hash
    (wpAny_call_entry F.slot_tuple_hash hT F.entry_tuple_hash (show wpAny _ _ (Builtin.Tuple.tupleItemsOf _ >>= _) _ _ s from wpAny_bind (wpAny_tupleItemsOf ho hd (wpAny_bind ?_))) (F.args_tuple_hash_1 _)))))))
   rw[<-Array.forIn_toList];refine wpAny_forIn_list _
    (λ rest (b:Array Int) s'=>∃done left t,ds=done++left/\DvL s.heap left rest/\b.toList=hvL done/\s'={s with toks:=t})
    _ ?_ ?_ _ _ ⟨[],ds,s.toks,rfl,by simpa using x2,by simp[hvL],rfl⟩
   ·rintro y rest b s' ⟨done,left,t,e,hl,hb,rfl⟩;cases left with
    |nil=>cases (show y::rest=[] from hl)
    |cons d1 left =>
     obtain⟨u1,r1,e1,v1,v2⟩:=hl;injection e1 with e2 e3
     subst e2 e3;have hm:d1∈ds:=(by rw[e];simp);refine wpAny_bind (ih (Qs.mp p _ hm) (q0K.mp hh' _ hm) (s:={s with toks:=t}) v1 (by rw[Around.in1_units];lia) λ t'=>?_)
     first
      |exact wpAny_pure ⟨done++[d1],left,t',by simp[e],v2,by simp[hb,q3K,hvL],rfl⟩
      |exact wpAny_bind (wpAny_pure (wpAny_pure ⟨done++[d1],left,t',by simp[e],v2,by simp[hb,q3K,hvL],rfl⟩))
   ·rintro b s' ⟨done,left,t,e,hl,hb,rfl⟩;cases left with
    |cons _ _=>obtain⟨_,_,q,_⟩:=hl;cases q
    |nil =>
     rw[QB] at e;subst e;show wpAny _ _ (retInt (Builtin.Tuple.tupleHashOf b.toList)) _ _ _;rw[hb];refine wpAny_ret_mkInt ?_;show wpAny _ _ (if (decide (-(2:Int)^63<=Builtin.Tuple.tupleHashOf (hvL ds))&&decide (Builtin.Tuple.tupleHashOf (hvL ds)<2^63))=true then _ else _) Q E _;have hq:∀t,Q (reduceHash (Builtin.Tuple.tupleHashOf (hvL ds))) {s with toks:=t}:=λ t=>by have:=h t;simpa[hv] using this
     unfold reduceHash at hq
     by_cases hr:(decide (-(2:Int)^63<=Builtin.Tuple.tupleHashOf (hvL ds))&&decide (Builtin.Tuple.tupleHashOf (hvL ds)<2^63))=true
     ·rw[if_pos hr] at hq |-;exact wpAny_pure (hq _)
     ·rw[if_neg hr] at hq |-;exact wpAny_bind (wpAny_rule (wpAny_pure (hq _)))
theorem q4I {M:Model}{A:Around}{E:Value->Shared->Prop}{s:Shared}{β:Type}{us:List Value}{b0:β}{body:Value->β->Sem (ForInStep β)}{Q:β->Shared->Prop}{ds:List D}(x:DvL s.heap ds us)
  (hb:∀v d,d∈ds->Dv s.heap d v->∀Q':ForInStep β->Shared->Prop,Q' (.yield b0) s->wpAny M A (body v b0) Q' E s) (h:Q b0 s):wpAny M A (forIn us.toArray b0 body) Q E s:=by
 rw[<-Array.forIn_toList];refine wpAny_forIn_list _ (λ rest r t=>(r=b0/\t=s)/\∀v∈rest,v∈us) _ (λ v rest r t i=>?_) (λ r t i=>?_) _ _ ⟨⟨rfl,rfl⟩,λ v hv=>by simpa using hv⟩
 ·obtain⟨⟨rfl,rfl⟩,m⟩:=i;obtain⟨d,hd,z⟩:=x.mem (m v Qb);exact hb v d hd z _ ⟨⟨rfl,rfl⟩,λ y hy=>m y (Qa _ hy)⟩
 ·obtain⟨⟨rfl,rfl⟩,_⟩:=i;exact h
theorem qAP:∀(k n:Nat) {A:Around}{E:Value->Shared->Prop}{s:Shared}{d:D}{u:Value}{Q:Bool->Shared->Prop},k<=n->plN k d=true->q02 d=true->Dv s.heap d u->Q true s->wpAny (model prog w) A (eqIsQuiet n u) Q E s:=by
 intro k
 induction k with
 |zero =>
  intro n A E s d u Q hk p hh x h;cases d<;>first
   |(simp[q02] at hh;done)
   |(simp[plN] at p;done)
   |skip
  obtain⟨t,rfl⟩:=x;rw[eqIsQuiet_byValue _ (by rfl)];exact wpAny_pure h
 |succ k ih =>
  intro n A E s d u Q hk p hh x h;cases d<;>first
   |(simp[q02] at hh;done)
   |skip
  ·obtain⟨t,rfl⟩:=x;rw[eqIsQuiet_byValue _ (by rfl)];exact wpAny_pure h
  ·rename_i ds;obtain⟨a,us,rfl,x1,x2⟩:=x;rw[q11] at p;have hh':q09 ds=true:=(by simpa[q02] using hh);have hT:s.TypeIs (.ref a) "tuple":=let ⟨o,ho,hc,_⟩:=x1;⟨o,ho,hc⟩;obtain⟨o,ho,hc,m,hd⟩:=x1;cases n with
   |zero=>lia
   |succ n =>
    unfold eqIsQuiet;refine wpAny_bind (wpAny_specialOf hT F.slot_tuple_eq.lookup (wpAny_bind (wpAny_isInstance hT isSubtype_tuple_tuple (wpAny_bind (wpAny_seqItems ho hd ?_)))));refine wpAny_bind (q4I x2 (λ v d1 hd1 z Q' q=>wpAny_bind (ih n (by lia) (Qs.mp p _ hd1) (q0K.mp hh' _ hd1) z (wpAny_pure q))) ?_);exact wpAny_pure h
theorem q6U:∀(k n:Nat) {A:Around}{E:Value->Shared->Prop}{s:Shared}{d:D}{u:Value}{Q:Bool->Shared->Prop},k<=n->plN k d=true->q02 d=true->Dv s.heap d u->Q false s->wpAny (model prog w) A (ofAClassStatement n u) Q E s:=by
 intro k
 induction k with
 |zero =>
  intro n A E s d u Q hk p hh x h;cases d<;>first
   |(simp[q02] at hh;done)
   |(simp[plN] at p;done)
   |skip
  obtain⟨t,rfl⟩:=x;unfold ofAClassStatement;exact wpAny_pure h
 |succ k ih =>
  intro n A E s d u Q hk p hh x h;cases d<;>first
   |(simp[q02] at hh;done)
   |skip
  ·obtain⟨t,rfl⟩:=x;unfold ofAClassStatement;exact wpAny_pure h
  ·rename_i ds;obtain⟨a,us,rfl,x1,x2⟩:=x;rw[q11] at p;have hh':q09 ds=true:=(by simpa[q02] using hh);have hT:s.TypeIs (.ref a) "tuple":=let ⟨o,ho,hc,_⟩:=x1;⟨o,ho,hc⟩;obtain⟨o,ho,hc,m,hd⟩:=x1;cases n with
   |zero=>lia
   |succ n =>
    unfold ofAClassStatement;refine wpAny_bind (wpAny_typeOf hT (wpAny_bind (wpAny_pure (wpAny_bind (wpAny_seqItems ho hd ?_)))));refine wpAny_bind (q4I x2 (λ v d1 hd1 z Q' q=>wpAny_bind (ih n (by lia) (Qs.mp p _ hd1) (q0K.mp hh' _ hd1) z (wpAny_pure q))) ?_);exact wpAny_pure h
theorem qEU:∀(k n:Nat) {A:Around}{E:Value->Shared->Prop}{s:Shared}{d:D}{u:Value}{Q:Bool->Shared->Prop},k<=n->plN k d=true->q02 d=true->Dv s.heap d u->Q true s->wpAny (model prog w) A (hashByValue n u) Q E s:=by
 intro k
 induction k with
 |zero =>
  intro n A E s d u Q hk p hh x h;cases d<;>first
   |(simp[q02] at hh;done)
   |(simp[plN] at p;done)
   |skip
  obtain⟨t,rfl⟩:=x;cases n<;>exact wpAny_pure h
 |succ k ih =>
  intro n A E s d u Q hk p hh x h;cases d<;>first
   |(simp[q02] at hh;done)
   |skip
  ·obtain⟨t,rfl⟩:=x;cases n<;>exact wpAny_pure h
  ·rename_i ds;obtain⟨a,us,rfl,x1,x2⟩:=x;rw[q11] at p;have hh':q09 ds=true:=(by simpa[q02] using hh);have hT:s.TypeIs (.ref a) "tuple":=let ⟨o,ho,hc,_⟩:=x1;⟨o,ho,hc⟩;obtain⟨o,ho,hc,m,hd⟩:=x1;cases n with
   |zero=>lia
   |succ n =>
    unfold hashByValue;refine wpAny_bind (wpAny_specialOf hT F.slot_tuple_hash.lookup (wpAny_bind (wpAny_seqItems ho hd ?_)));refine wpAny_bind (q4I x2 (λ v d1 hd1 z Q' q=>wpAny_bind (ih n (by lia) (Qs.mp p _ hd1) (q0K.mp hh' _ hd1) z (wpAny_pure q))) ?_);exact wpAny_pure h
end
end Ev
namespace Snd
open PySem PySem.Spec PyProof.Rows L2 Ev
variable {H H':Hp}{a:Addr}{vs:List V}{d:D}{v:V}{O:List Addr}
noncomputable def q2p (a C:Addr):Heap->Prop:=λ h=>∃o,h.get? a=some o/\o.cls = .ref C
noncomputable def keyD:Key->D
 | .inl i=> .int i
 | .inr x=> .str x
structure Pm where
 K:PySem.W.Frag
 cls:List Addr
mutual
noncomputable def Rep (p:Pm) (H:Hp):D->V->Prop
 | .non,v=>v = .non
 | .bl b,v=>v = .bl b
 | .int i,v=>v = .int i
 | .str x,v=>v = .str x/\x.length<=big
 | .tup ds,v=>∃a vs,v = .ref a/\SqT p.K H a vs/\vs.length<=sizeLine/\RepL p H ds vs
 | .lst ds,v=>∃a vs,v = .ref a/\SqL p.K H a vs/\RepL p H ds vs
 | .dct ks ds,v=>∃a kvs o,v = .ref a/\H a=some (.frz o (.dK kvs))/\ks=kvs.map (λ q=>keyD q.1)/\RepL p H ds (kvs.map (·.2))
 | .exc c,v=>∃a C,v = .ref a/\p.cls[c]? = some C/\H a=some (.ext (q2p a C))
noncomputable def RepL (p:Pm) (H:Hp):List D->List V->Prop
 |[],vs=>vs=[]
 |d::ds,vs=>∃v r,vs=v::r/\Rep p H d v/\RepL p H ds r
end
def Ext (H H':Hp):Prop:=∀a o,H a=some o->H' a=some o
theorem Ext.refl (H:Hp):Ext H H:=λ _ _ e=>e
theorem Ext.trans {H1 H2:Hp}(a:Ext H H1) (b:Ext H1 H2):Ext H H2:=λ x o e=>b x o (a x o e)
theorem Ext.upd {H:Hp}{a:Addr}{o:HO}(n:H a=none):Ext H (upd H a o):=λ b u e=>by rw[q05 (q0D e n)];exact e
theorem Ext.rd (x:Ext H H') {u:HO}(r:Rd H a u):Rd H' a u:=r.elim (λ e=> .inl (x _ _ e)) λ⟨o,e⟩=> .inr ⟨o,x _ _ e⟩
theorem Ext.sqL (x:Ext H H') {K:PySem.W.Frag}(r:SqL K H a vs):SqL K H' a vs:=r.elim (λ e=> .inl (x.rd e)) .inr
theorem Ext.sqT (x:Ext H H') {K:PySem.W.Frag}(r:SqT K H a vs):SqT K H' a vs:=r.elim (λ e=> .inl (x.rd e)) .inr
theorem q3f {p:Pm}(x:Ext H H'):(∀d v,Rep p H d v->Rep p H' d v)/\(∀ds vs,RepL p H ds vs->RepL p H' ds vs):=by
 refine D.ind (P:=λ d=>∀v,Rep p H d v->Rep p H' d v) (Q:=λ ds=>∀vs,RepL p H ds vs->RepL p H' ds vs)
  (λ v h=>h) (λ _ v h=>h) (λ _ v h=>h) (λ _ v h=>h) (λ l ih v h=>?_) (λ l ih v h=>?_) (λ k l ihk ih v h=>?_) (λ c v h=>?_) (λ vs h=>h) (λ d ds ih1 ih2 vs h=>?_)
 ·obtain⟨a,vs,e,s,z,r⟩:=h;exact⟨a,vs,e,x.sqT s,z,ih _ r⟩
 ·obtain⟨a,vs,e,s,r⟩:=h;exact⟨a,vs,e,x.sqL s,ih _ r⟩
 ·obtain⟨a,kvs,o,e,s,q,r⟩:=h;exact⟨a,kvs,o,e,x _ _ s,q,ih _ r⟩
 ·obtain⟨a,C,e,s,q⟩:=h;exact⟨a,C,e,s,x _ _ q⟩
 ·obtain⟨v,r,e,h1,h2⟩:=h;exact⟨v,r,e,ih1 _ h1,ih2 _ h2⟩
theorem Rep.mono {p:Pm}(h:Rep p H d v) (x:Ext H H'):Rep p H' d v:=(q3f x).1 d v h
theorem RepL.mono {p:Pm}{ds:List D}(h:RepL p H ds vs) (x:Ext H H'):RepL p H' ds vs:=(q3f x).2 ds vs h
theorem RepL.length {p:Pm}:∀{ds:List D}{vs:List V},RepL p H ds vs->ds.length=vs.length
 |[],vs,h=>by cases (show vs=[] from h);rfl
 |d::ds,vs,h=>by obtain⟨v,r,e,_,h2⟩:=h;subst e;simp[RepL.length h2]
theorem RepL.get {p:Pm}:∀{ds:List D}{vs:List V}{i:Nat}{d:D},RepL p H ds vs->ds[i]? = some d->∃v,vs[i]? = some v/\Rep p H d v
 |[],vs,i,d,h,e=>by simp at e
 |a::ds,vs,0,d,h,e=>by obtain⟨v,r,q,h1,_⟩:=h;subst q;simp at e;subst e;exact⟨v,rfl,h1⟩
 |a::ds,vs,i+1,d,h,e=>by obtain⟨v,r,q,_,h2⟩:=h;subst q;obtain⟨w,e1,e2⟩:=RepL.get (i:=i) h2 (by simpa using e);exact⟨w,by simpa using e1,e2⟩
theorem RepL.append {p:Pm}:∀{ds es:List D}{vs us:List V},RepL p H ds vs->RepL p H es us->RepL p H (ds++es) (vs++us)
 |[],es,vs,us,h,h'=>by cases (show vs=[] from h);exact h'
 |d::ds,es,vs,us,h,h'=>by obtain⟨v,r,q,h1,h2⟩:=h;subst q;exact⟨v,r++us,rfl,h1,RepL.append h2 h'⟩
theorem RepL.take {p:Pm}:∀{ds:List D}{vs:List V}(n:Nat),RepL p H ds vs->RepL p H (ds.take n) (vs.take n)
 |_,_,0,_=>by simp[RepL]
 |[],vs,n+1,h=>by cases (show vs=[] from h);simp[RepL]
 |d::ds,vs,n+1,h=>by obtain⟨v,r,q,h1,h2⟩:=h;subst q;exact⟨v,r.take n,rfl,h1,RepL.take n h2⟩
theorem RepL.drop {p:Pm}:∀{ds:List D}{vs:List V}(n:Nat),RepL p H ds vs->RepL p H (ds.drop n) (vs.drop n)
 |_,_,0,h=>h
 |[],vs,n+1,h=>by cases (show vs=[] from h);simp[RepL]
 |d::ds,vs,n+1,h=>by obtain⟨v,r,q,h1,h2⟩:=h;subst q;exact RepL.drop n h2
theorem RepL.snoc {p:Pm}{ds:List D}(h:RepL p H ds vs) (h1:Rep p H d v):RepL p H (ds++[d]) (vs++[v]):=h.append ⟨v,[],rfl,h1,rfl⟩
theorem RepL.reverse {p:Pm}:∀{ds:List D}{vs:List V},RepL p H ds vs->RepL p H ds.reverse vs.reverse
 |[],vs,h=>by cases (show vs=[] from h);simp[RepL]
 |d::ds,vs,h=>by obtain⟨v,r,q,h1,h2⟩:=h;subst q;rw[List.reverse_cons,List.reverse_cons];exact (RepL.reverse h2).snoc h1
noncomputable def fz (O:List Addr) (H:Hp):Hp:=λ a=>if a∈O then none else H a
theorem q1E (x:Ext H H'):Ext (fz O H) (fz O H'):=λ a o e=>by
 unfold fz at e |-;split at e
 ·cases e
 ·rename_i h;rw[if_neg h];exact x _ _ e
theorem q0V:Ext (fz O H) H:=λ a o e=>by
 unfold fz at e;split at e
 ·cases e
 ·exact e
theorem qGz:fz [] H=H:=by funext a;simp[fz]
theorem q1N {o:HO}(h:H a=some o) (n:a∉O):fz O H a=some o:=by unfold fz;rw[if_neg n];exact h
theorem q4z {o:HO}(h:a∈O):fz O (upd H a o)=fz O H:=by
 funext b;unfold fz;split
 ·rfl
 ·rename_i n;exact q05 λ e=>n (e▸h)
noncomputable def RepB (p:Pm) (H Hf:Hp):D->V->Prop
 | .lst ds,v=>∃a vs,v = .ref a/\SqL p.K H a vs/\RepL p Hf ds vs
 | .dct ks ds,v=>∃a kvs,v = .ref a/\Rd H a (.dK kvs)/\ks=kvs.map (λ q=>keyD q.1)/\RepL p Hf ds (kvs.map (·.2))
 |d,v=>Rep p Hf d v
theorem Rep.b {p:Pm}{Hf:Hp}(h:Rep p Hf d v) (x:Ext Hf H):RepB p H Hf d v:=by
 cases d with
 |lst ds=>obtain⟨a,vs,e,s,r⟩:=h;exact⟨a,vs,e,x.sqL s,r⟩
 |dct ks ds=>obtain⟨a,kvs,o,e,s,q,r⟩:=h;exact⟨a,kvs,e,.inr ⟨o,x _ _ s⟩,q,r⟩
 |_=>exact h
theorem RepB.mono {p:Pm}{Hf Hf':Hp}(h:RepB p H Hf d v) (x:Ext H H') (y:Ext Hf Hf'):RepB p H' Hf' d v:=by
 cases d with
 |lst ds=>obtain⟨a,vs,e,s,r⟩:=h;exact⟨a,vs,e,x.sqL s,r.mono y⟩
 |dct ks ds=>obtain⟨a,kvs,e,s,q,r⟩:=h;exact⟨a,kvs,e,x.rd s,q,r.mono y⟩
 |non=>exact h
 |bl _=>exact h
 |int _=>exact h
 |str _=>exact h
 |tup _=>exact Rep.mono (d:= .tup _) h y
 |exc _=>exact Rep.mono (d:= .exc _) h y
noncomputable def qEV (p:Pm) (H Hf:Hp) (a:Addr):D->Prop
 | .lst ds=>∃vs,H a=some (.lst vs)/\RepL p Hf ds vs
 | .dct ks ds=>∃kvs,H a=some (.dK kvs)/\ks=kvs.map (λ q=>keyD q.1)/\RepL p Hf ds (kvs.map (·.2))
 |_=>False
noncomputable def q4J (p:Pm) (H Hf:Hp):List Addr->List (List D)->Prop
 |[],xss=>xss=[]
 |b::bs,xss=>∃xs r,xss=xs::r/\(∃vs,H b=some (.lst vs)/\RepL p Hf xs vs)/\q4J p H Hf bs r
noncomputable def q2q (p:Pm) (H Hf:Hp):Option Sl->Option V->List Addr->Prop
 |none,_,as=>as=[]
 |some (.val d),σ,as=>as=[]/\∃v,σ=some v/\Rep p Hf d v
 |some (.own d),σ,as=>∃a,σ=some (.ref a)/\as=[a]/\qEV p H Hf a d
 |some (.own2 xss),σ,as=>∃a bs,σ=some (.ref a)/\as=a::bs/\H a=some (.lst (bs.map V.ref))/\q4J p H Hf bs xss
noncomputable def q0t (p:Pm) (H Hf:Hp):Ev.Env->L2.St->List (List Addr)->Prop
 |[],_,_=>True
 |x::ρ,σ,os=>∃y σ' as os',σ=y::σ'/\os=as::os'/\q2q p H Hf x y as/\q0t p H Hf ρ σ' os'
structure Rel (p:Pm) (ρ:Ev.Env) (σ:L2.St) (os:List (List Addr)) (H:Hp):Prop where
 nd:os.flatten.Nodup
 there:∀a∈os.flatten,∃o,H a=some o
 slots:q0t p H (fz os.flatten H) ρ σ os
end Snd
namespace Snd
open PySem PySem.Spec PyProof.Rows L2 Ev
variable {a b:Int}{r d:D}
noncomputable def Fin (p:Pm) (O:List Addr) (H:Hp) (r:D):VK:=λ z H'=>Ext H H'/\Rep p (fz O H') r z
def Th (O:List Addr) (H:Hp):Prop:=∀a∈O,∃o,H a=some o
theorem Th.ext {O:List Addr}{H H':Hp}(h:Th O H) (x:Ext H H'):Th O H':=λ a ha=>let ⟨o,e⟩:=h a ha;⟨o,x _ _ e⟩
theorem Th.out {O:List Addr}{H:Hp}(h:Th O H) {a:Addr}(n:H a=none):a∉O:=λ z=>by obtain⟨o,e⟩:=h a z;rw[n] at e;cases e
theorem q0C {p:Pm}{O:List Addr}{H:Hp}{z:V}(h:Rep p (fz O H) r z):Fin p O H r z H:=⟨Ext.refl _,h⟩
theorem q4K {p:Pm}{O:List Addr}{H:Hp}{ds:List D}{vs:List V}(hO:Th O H) (h:RepL p (fz O H) ds vs) {a:Addr}(n:H a=none):Fin p O H (.lst ds) (.ref a) (upd H a (.lst vs)) :=
 ⟨Ext.upd n,a,vs,rfl,SqL.of (q1N q0M (hO.out n)),h.mono (q1E (Ext.upd n))⟩
theorem q7d {p:Pm}{O:List Addr}{H:Hp}{ds:List D}{vs:List V}(hO:Th O H) (h:RepL p (fz O H) ds vs) (z:vs.length<=sizeLine) {a:Addr}(n:H a=none):Fin p O H (.tup ds) (.ref a) (upd H a (.tup vs)) :=
 ⟨Ext.upd n,a,vs,rfl,SqT.of (q1N q0M (hO.out n)),z,h.mono (q1E (Ext.upd n))⟩
theorem q0W:big<=sizeLine:=by rw[sizeLine_eq];decide
noncomputable def opr:Op2->Operator
 | .add=> .Add | .sub=> .Sub | .mul=> .Mult | .fdiv=> .FloorDiv | .mod=> .Mod | .shl=> .LShift | .shr=> .RShift | .band=> .BitAnd | .bor=> .BitOr | .bxor=> .BitXor
theorem qCC {op:Operator}{o:Op2}(h:opOf op=some o):op=opr o:=by cases op<;>simp[opOf] at h<;>subst h<;>rfl
section
variable {X:Cx}{p:Pm}{O:List Addr}{H:Hp}
noncomputable def qJQ (K:PySem.W.Frag):R2:=λ x y H Q=>∃l b xs zs,x = .ref l/\y = .ref b/\SqL K H l xs/\SqL K H b zs/\xs.length+zs.length<=sizeLine/\∀q,H q=none->Q (.ref q) (upd H q (.lst (xs++zs)))
theorem qEW:OpR X (binaryOp .Add) (qJQ X.K):=by
 intro pins s σ H x y v u Q I rx ry h;obtain⟨l,b,xs,zs,rfl,rfl,hH,hB,hz,q⟩:=h;cases rx;cases ry;obtain⟨its,r,⟨o1,n,e,c1,d1,f1⟩,z1⟩:=I.list hH;obtain⟨its2,r2,⟨o2,n2,e2,c2,d2,f2⟩,z2⟩:=I.list hB;have hl:=r.length;have hl2:=r2.length;obtain⟨oc,od,odt,os⟩:=o1;obtain⟨oc2,od2,odt2,os2⟩:=o2;simp only at c1 d1 f1 c2 d2 f2;subst c1 f1 c2 f2;refine concat_meets ⟨_,e,rfl⟩ ⟨_,e2,rfl⟩ noFill_list_add seq_list_add PySem.F.slot_list_add PySem.F.entry_list_add (PySem.F.args_list_add_2 _ _) (list_addW l b its.toArray its2.toArray n n2 od od2 os os2 (by rw[Ql,Ql];lia)) ⟨e,e2,?_⟩;have ea:its.toArray++its2.toArray=(its++its2).toArray:=by simp
 rw[ea];exact⟨.ref _,_,I.lnew (t':=s.toks) (r.append r2) (by rw[Qj];lia),rfl,q _ I.fresh⟩
theorem q8K (ha:0<=a) (hb:0<=b):Builtin.bitAnd a b=((a.toNat &&& b.toNat:Nat):Int):=by unfold Builtin.bitAnd;simp[ha,hb]
theorem qAQ (ha:0<=a) (hb:0<=b):Builtin.bitOr a b=((a.toNat ||| b.toNat:Nat):Int):=by
 unfold Builtin.bitOr Builtin.bitAnd Builtin.bitNot;have h1:decide (0<=-a-1)=false:=decide_eq_false (by lia);have h2:decide (0<=-b-1)=false:=decide_eq_false (by lia);rw[h1,h2];have e1:(-(-a-1)-1).toNat=a.toNat:=by lia
 have e2:(-(-b-1)-1).toNat=b.toNat:=by lia
 dsimp only;rw[e1,e2];lia
theorem q9X:∀a b:Nat,a ||| b=(a ^^^ b)+(a &&& b):=by
 intro a
 induction a using Nat.strongRecOn with
 |ind a ih =>
  intro b
  by_cases h:a=0
  ·subst h;simp
  ·have ih':=ih (a / 2) (by lia) (b / 2);have o1:=Nat.or_div_two (a:=a) (b:=b);have o2:=Nat.xor_div_two (a:=a) (b:=b);have o3:=Nat.and_div_two (a:=a) (b:=b);have m1:=Nat.or_mod_two_eq_one (a:=a) (b:=b);have m2:=Nat.xor_mod_two_eq_one (a:=a) (b:=b);have m3:=Nat.and_mod_two_eq_one (a:=a) (b:=b)
   by_cases p:a % 2=1<;>by_cases q:b % 2=1<;>lia
theorem qCD (ha:0<=a) (hb:0<=b):Builtin.bitXor a b=((a.toNat ^^^ b.toNat:Nat):Int):=by unfold Builtin.bitXor;rw[qAQ ha hb,q8K ha hb,q9X];lia
theorem q04 (a b:Str):(a++b).length=a.length+b.length:=by show (a.cps++b.cps).size=_;rw[Array.size_append];rfl
noncomputable def qH0 (K:PySem.W.Frag):R2:=λ x y H Q=>∃a b xs ys,x = .ref a/\y = .ref b/\SqT K H a xs/\SqT K H b ys/\xs.length+ys.length<=sizeLine/\
 (ys=[]->Q (.ref a) H)/\(xs=[]->Q (.ref b) H)/\(xs≠[]->ys≠[]->∀p,H p=none->Q (.ref p) (upd H p (.tup (xs++ys))))
theorem qCE:OpR X (binaryOp .Add) (qH0 X.K):=by
 intro pins s σ H x y v u Q I rx ry h;obtain⟨a,b,xs,ys,rfl,rfl,ha,hb,hz,q1,q2,q3⟩:=h
 by_cases hx:xs=[]
 ·cases rx;cases ry;obtain⟨its,r1,p1,_⟩:=I.tuple ha;obtain⟨its2,r2,p2,_⟩:=I.tuple hb;have e0:its=[]:=r1.q5O.mpr hx;subst e0;obtain⟨⟨cls,dd,data,sl⟩,ho,hc,n,hd⟩:=id p1;obtain⟨⟨cls2,dd2,data2,sl2⟩,ho2,hc2,n2,hd2⟩:=id p2;simp only at hc hd hc2 hd2;subst hc hd hc2 hd2;exact concat_meets ⟨_,ho,rfl⟩ ⟨_,ho2,rfl⟩ noFill_tuple_add seq_tuple_add PySem.F.slot_tuple_add PySem.F.entry_tuple_add (PySem.F.args_tuple_add_2 _ _)
   (tuple_addW0 a b _ its2.toArray n n2 dd dd2 sl sl2 (by simp)) ⟨ho,ho2,⟨.ref b,H,I,rfl,q2 hx⟩⟩
 ·exact qEE pins s σ H _ _ v u Q I rx ry ⟨a,b,xs,ys,rfl,rfl,ha,hb,hx,hz,q1,λ hy=>q3 hx hy⟩
noncomputable def qJR (K:PySem.W.Frag):R2:=λ x y H Q=>∃l k xs,x = .ref l/\y = .int k/\SqL K H l xs/\-(2^63)<=k/\k<2^63/\xs.length*k.toNat<=sizeLine/\
 ∀p,H p=none->Q (.ref p) (upd H p (.lst (Qo k.toNat xs).flatten))
theorem qEX:OpR X (binaryOp .Mult) (qJR X.K):=by
 intro pins s σ H x y v u Q I rx ry h;obtain⟨l,k,xs,rfl,rfl,hH,h1,h2,hz,q⟩:=h;cases rx;obtain⟨t,rfl⟩:=ry;obtain⟨its,r,⟨o1,n,e,c1,d1,f1⟩,z1⟩:=I.list hH;have hl:=r.length;obtain⟨oc,od,odt,os⟩:=o1;simp only at c1 d1 f1;subst c1 f1;have hs:sizeLine=2^24:=sizeLine_eq;have hlen:its.toArray.size*k.toNat<=2^24:=by rw[Ql,<-hl,<-hs];exact hz
 refine wpAny_binaryOp_repeat_ref (T := "list") (U := "int") (by decide) ⟨_,e,rfl⟩ (λ s'=>typeIs_int s' k t) noFill_list_mul PySem.F.fills_int_mul PySem.F.slot_int_rmul repeat_list PySem.F.slot_int_index.lookup
  (call_meets PySem.F.slot_int_rmul (typeIs_int s k t) PySem.F.entry_int_rmul (PySem.F.args_int_rmul_2 _ _) (lm_int_rmul_list_any k t l its.toArray n od os)
   ⟨e,rfl,⟨_,e,rfl⟩,call_meets PySem.F.slot_list_mul ⟨_,e,rfl⟩ PySem.F.entry_list_mul (PySem.F.args_list_mul_2 _ _)
    (lm_list_mul_any l its.toArray n od os k t (by simp[Builtin.List.listFitsIndex];lia) (by lia) (by simp[Builtin.List.listTooLong,sizeLine];lia))
    ⟨e,?_⟩⟩)
 rw[listMul_foldl_if];show EP X pins σ Q (.ref s.heap.objs.size) {s with heap:=s.heap.push {cls:= .type "list",data:= .seq (Qo k.toNat its.toArray.toList).flatten.toArray}};exact⟨.ref _,_,I.lnew (t':=s.toks) (r.rep k.toNat) (by rw[len_rep,Nat.mul_comm];exact hz),rfl,q _ I.fresh⟩
theorem q8L {p:Pm}{H:Hp}{ds:List D}{vs:List V}(h:RepL p H ds vs):∀k:Nat,RepL p H (Qo k ds).flatten (Qo k vs).flatten
 |0=>by simp[RepL]
 |k+1=>by rw[Jb,Jb,Qw,Qw];exact h.append (q8L h k)
theorem qH1 (h:(-(2^62)<a/\a<2^62)\/(-(2^62)<b/\b<2^62)):CMul a b:=by unfold CMul;lia
theorem q17 {f:Int->R D}(h:intD f d = .ok r):∃a,d = .int a/\f a = .ok r:=by cases d<;>first|(cases h;done)|exact⟨_,rfl,h⟩
theorem qCF {f:List D->R D}(h:lstD f d = .ok r):∃a,d = .lst a/\f a = .ok r:=by cases d<;>first|(cases h;done)|exact⟨_,rfl,h⟩
theorem qCG {f:List D->R D}(h:tupD f d = .ok r):∃a,d = .tup a/\f a = .ok r:=by cases d<;>first|(cases h;done)|exact⟨_,rfl,h⟩
theorem qCH {f:Str->R D}(h:strD f d = .ok r):∃a,d = .str a/\f a = .ok r:=by cases d<;>first|(cases h;done)|exact⟨_,rfl,h⟩
theorem q8M {q:R D}(h:nonD q d = .ok r):d = .non/\q = .ok r:=by cases d<;>first|(cases h;done)|exact⟨rfl,h⟩
noncomputable def rInt:Op2->R2
 | .add=>rI0 λ i j=> .int (i+j)
 | .sub=>rI0 λ i j=> .int (i-j)
 | .mul=>rI CMul λ i j=> .int (i*j)
 | .fdiv=>rI CDiv λ i j=> .int (i / j)
 | .mod=>rI (λ _ j=>0<j) λ i j=> .int (i % j)
 | .shl=>rI CPow λ i j=> .int (i*2^j.toNat)
 | .shr=>rI (λ _ j=>0<=j) λ i j=> .int (i / 2^j.toNat)
 | .band=>rI0 λ i j=> .int (Builtin.bitAnd i j)
 | .bor=>rI0 λ i j=> .int (Builtin.bitOr i j)
 | .bxor=>rI0 λ i j=> .int (Builtin.bitXor i j)
theorem qH2:∀o:Op2,OpR X (binaryOp (opr o)) (rInt o)
 | .add=>qGK | .sub=>qGL | .mul=>qGM | .fdiv=>qEA | .mod=>qGN | .shl=>qGO | .shr=>qGP | .band=>qGQ | .bor=>qIx | .bxor=>qGR
theorem q2J {c:Prop}{_:Decidable c}{x:D}(h:(if c then R.ok x else .stuck) = .ok r):c/\x=r:=by
 by_cases z:c
 ·rw[if_pos z] at h;cases h;exact⟨z,rfl⟩
 ·rw[if_neg z] at h;cases h
theorem q3g {i j:Int}(e:j=i) (h:D.int i=r):Fin p O H r (.int j) H:=by subst e h;exact q0C rfl
theorem qAR (o:Op2) {m n:Int}(h:opD o (.int m) (.int n) = .ok r):rInt o (.int m) (.int n) H (Fin p O H r):=by
 cases o with
 |add=>cases h;exact⟨_,_,rfl,rfl,q0C rfl⟩
 |mul =>
  obtain⟨c,e⟩:=q2J h;exact⟨_,_,rfl,rfl,qH1 c,q3g rfl e⟩
 |sub=>cases h;exact⟨_,_,rfl,rfl,q0C rfl⟩
 |fdiv =>
  obtain⟨c,e⟩:=q2J h;exact⟨_,_,rfl,rfl,c,q3g rfl e⟩
 |mod =>
  obtain⟨c,e⟩:=q2J h;exact⟨_,_,rfl,rfl,c,q3g rfl e⟩
 |shl =>
  obtain⟨c,e⟩:=q2J h;refine⟨_,_,rfl,rfl,⟨c.2.2.1,by lia,by lia⟩,q3g ?_ e⟩;rw[Nat.shiftLeft_eq,Int.natCast_mul,Int.natCast_pow,Int.toNat_of_nonneg c.1];rfl
 |shr =>
  obtain⟨c,e⟩:=q2J h;refine⟨_,_,rfl,rfl,c.2,q3g ?_ e⟩;rw[Nat.shiftRight_eq_div_pow,Int.natCast_ediv,Int.natCast_pow,Int.toNat_of_nonneg c.1];rfl
 |band =>
  obtain⟨c,e⟩:=q2J h;exact⟨_,_,rfl,rfl,q3g (q8K c.1 c.2) e⟩
 |bor =>
  obtain⟨c,e⟩:=q2J h;exact⟨_,_,rfl,rfl,q3g (qAQ c.1 c.2) e⟩
 |bxor =>
  obtain⟨c,e⟩:=q2J h;exact⟨_,_,rfl,rfl,q3g (qCD c.1 c.2) e⟩
theorem qEY {o:Op2}{e:D}(h:opD o d e = .ok r) (h1:o ≠ .add) (h2:o ≠ .mul):∃m n,d = .int m/\e = .int n:=by
 unfold opD at h;split at h
 ·exact absurd rfl h1
 ·exact absurd rfl h2
 ·obtain⟨m,e1,h⟩:=q17 h;obtain⟨n,e2,_⟩:=q17 h;exact⟨m,n,e1,e2⟩
theorem qCI (hK:p.K=X.K) (hO:Th O H):∀(o:Op2) (d e r:D) (x y:V),opD o d e = .ok r->RepB p H (fz O H) d x->RepB p H (fz O H) e y->
  ∃r2:R2,OpR X (binaryOp (opr o)) r2/\r2 x y H (Fin p O H r):=by
 intro o d e r x y h hx hy;have tw2:(∃m n,d = .int m/\e = .int n)->∃r2:R2,OpR X (binaryOp (opr o)) r2/\r2 x y H (Fin p O H r):=λ⟨m,n,e1,e2⟩=>by subst e1 e2;cases (show x=_ from hx);cases (show y=_ from hy);exact⟨_,qH2 o,qAR o h⟩
 by_cases h1:o = .add
 ·subst h1;cases d with
  |int m=>obtain⟨n,e1,_⟩:=q17 h;exact tw2 ⟨_,_,rfl,e1⟩
  |lst ds =>
   obtain⟨es,rfl,h⟩:=qCF h;obtain⟨c,rfl⟩:=q2J h;obtain⟨a,vs,rfl,s1,r1⟩:=hx;obtain⟨b,us,rfl,s2,r2⟩:=hy;exact⟨_,qEW,a,b,vs,us,rfl,rfl,hK▸s1,hK▸s2,Qt (by rw[<-r1.length,<-r2.length];exact c) q0W,λ q n=>q4K hO (r1.append r2) n⟩
  |tup ds =>
   obtain⟨es,rfl,h⟩:=qCG h;obtain⟨c,rfl⟩:=q2J h;obtain⟨a,vs,rfl,s1,z1,r1⟩:=hx;obtain⟨b,us,rfl,s2,z2,r2⟩:=hy;have c':vs.length+us.length<=sizeLine:=Qt (by rw[<-r1.length,<-r2.length];exact c) q0W;refine⟨_,qCE,a,b,vs,us,rfl,rfl,hK▸q0V.sqT s1,hK▸q0V.sqT s2,c',λ e=>?_,λ e=>?_,λ n1 n2 q n=>q7d hO (r1.append r2) (by rw[Qj];exact c') n⟩
   ·subst e;cases (Q1.mp r2.length:es=[]);rw[QB];exact q0C ⟨a,vs,rfl,s1,z1,r1⟩
   ·subst e;cases (Q1.mp r1.length:ds=[]);rw[List.nil_append];exact q0C ⟨b,us,rfl,s2,z2,r2⟩
  |str a =>
   obtain⟨b,rfl,h⟩:=qCH h;obtain⟨c,rfl⟩:=q2J h;obtain⟨rfl,z1⟩:=hx;obtain⟨rfl,z2⟩:=hy;exact⟨_,q9O,_,_,rfl,rfl,Qt c q0W,q0C ⟨rfl,by rw[q04];exact c⟩⟩
  |_=>cases h
 by_cases h2:o = .mul
 ·subst h2;cases d with
  |int m=>obtain⟨n,e1,_⟩:=q17 h;exact tw2 ⟨_,_,rfl,e1⟩
  |lst ds =>
   obtain⟨k,rfl,h⟩:=q17 h;obtain⟨c,rfl⟩:=q2J h;obtain⟨a,vs,rfl,s1,r1⟩:=hx;cases (show y=_ from hy);exact⟨_,qEX,a,k,vs,rfl,rfl,hK▸s1,by lia,by lia,Qt (by rw[<-r1.length];exact c.2.2) q0W,λ q n=>q4K hO (q8L r1 _) n⟩
  |_=>cases h
 exact tw2 (qEY h h1 h2)
end
end Snd
namespace Snd
open PySem PySem.Spec PyProof.Rows L2 Ev
variable {s:Shared}{u:Value}
section
variable {X:Cx}{p:Pm}{O:List Addr}
theorem q2O {pins:List (Addr×Obj)}{σ:L2.St}{H:Hp}(hK:p.K=X.K) (I:Inv X pins σ H s):(∀d v u,Rep p H d v->RelV v u->Dv s.heap d u)/\(∀ds vs us,RepL p H ds vs->Vals vs us->DvL s.heap ds us):=by
 refine D.ind (P:=λ d=>∀v u,Rep p H d v->RelV v u->Dv s.heap d u) (Q:=λ ds=>∀vs us,RepL p H ds vs->Vals vs us->DvL s.heap ds us)
  (λ v u h r=>?_) (λ b v u h r=>?_) (λ i v u h r=>?_) (λ x v u h r=>?_) (λ l ih v u h r=>?_) (λ l ih v u h r=>?_) (λ _ _ _ _ _ _ _ _=>trivial) (λ _ _ _ _ _=>trivial) (λ vs us h r=>?_) (λ d ds ih1 ih2 vs us h r=>?_)
 ·cases (show v=_ from h);exact r
 ·cases (show v=_ from h);exact r
 ·cases (show v=_ from h);exact r
 ·obtain⟨rfl,_⟩:=h;exact r
 ·obtain⟨a,vs,rfl,s1,z,r1⟩:=h;cases r;obtain⟨its,rv,pt,_⟩:=I.tuple (hK▸s1);exact⟨a,its,rfl,pt,ih _ _ r1 rv⟩
 ·obtain⟨a,vs,rfl,s1,r1⟩:=h;cases r;obtain⟨its,rv,pt,_⟩:=I.list (hK▸s1);exact⟨a,its,rfl,pt.isList,ih _ _ r1 rv⟩
 ·cases (show vs=[] from h);cases r;rfl
 ·obtain⟨v,r',rfl,h1,h2⟩:=h;cases r with
  |cons ra rb=>exact⟨_,_,rfl,ih1 _ _ h1 ra,ih2 _ _ h2 rb⟩
theorem q2r {pins:List (Addr×Obj)}{σ:L2.St}{H Hf:Hp}(hK:p.K=X.K) (I:Inv X pins σ H s) (x:Ext Hf H) {d:D}{v:V}(h:RepB p H Hf d v) (r:RelV v u):Dv s.heap d u:=by
 cases d with
 |lst ds =>
  obtain⟨a,vs,rfl,s1,r1⟩:=h;exact (q2O hK I).1 (.lst ds) _ _ ⟨a,vs,rfl,s1,r1.mono x⟩ r
 |dct _ _=>trivial
 |exc _=>trivial
 |non=>exact (q2O hK I).1 .non _ _ (Rep.mono (p:=p) (d:= .non) h x) r
 |bl b=>exact (q2O hK I).1 (.bl b) _ _ (Rep.mono (p:=p) (d:= .bl b) h x) r
 |int i=>exact (q2O hK I).1 (.int i) _ _ (Rep.mono (p:=p) (d:= .int i) h x) r
 |str y=>exact (q2O hK I).1 (.str y) _ _ (Rep.mono (p:=p) (d:= .str y) h x) r
 |tup l=>exact (q2O hK I).1 (.tup l) _ _ (Rep.mono (p:=p) (d:= .tup l) h x) r
noncomputable def rCm (p:Pm) (ok:D->D->Bool) (g:D->D->Bool):R2:=λ x y H Q=>∃d e Hf,Ext Hf H/\RepB p H Hf d x/\RepB p H Hf e y/\ok d e=true/\Q (.bl (g d e)) H
theorem qJS (hK:p.K=X.K) (hu:X.A.units+64<cLine):OpR X (compareOp .Eq) (rCm p (λ a b=>pl a&&pl b) eqb):=by intro pins s σ H x y v u Q I rx ry h;obtain⟨d,e,Hf,xt,h1,h2,c,q⟩:=h;simp only[Qg] at c;exact qGy 8 c.1 c.2 (q2r hK I xt h1 rx) (q2r hK I xt h2 ry) (by lia) X.prog X.w X.xe _ ⟨.bl _,H,I,rfl,q⟩
theorem qJT (hK:p.K=X.K) (hu:X.A.units+64<cLine):OpR X (compareOp .NotEq) (rCm p (λ a b=>pl a&&pl b) (λ a b=>!eqb a b)):=by intro pins s σ H x y v u Q I rx ry h;obtain⟨d,e,Hf,xt,h1,h2,c,q⟩:=h;simp only[Qg] at c;exact qCA 8 c.1 c.2 (q2r hK I xt h1 rx) (q2r hK I xt h2 ry) (by lia) X.prog X.w X.xe _ ⟨.bl _,H,I,rfl,q⟩
noncomputable def qCJ (a b:D):Bool:=pl a&&pl b&&q02 a&&q02 b&&q0e a b
theorem qJU (hK:p.K=X.K) (hu:X.A.units+64<cLine):OpR X (compareOp .Lt) (rCm p qCJ ltb):=by intro pins s σ H x y v u Q I rx ry h;obtain⟨d,e,Hf,xt,h1,h2,c,q⟩:=h;simp only[qCJ,Qg] at c;exact (q6T 8 c.1.1.1.1 c.1.1.1.2 c.1.1.2 c.1.2 c.2 (q2r hK I xt h1 rx) (q2r hK I xt h2 ry) (by lia)).1 X.prog X.w X.xe _ ⟨.bl _,H,I,rfl,q⟩
theorem qJV (hK:p.K=X.K) (hu:X.A.units+64<cLine):OpR X (compareOp .GtE) (rCm p qCJ (λ a b=>!ltb a b)):=by intro pins s σ H x y v u Q I rx ry h;obtain⟨d,e,Hf,xt,h1,h2,c,q⟩:=h;simp only[qCJ,Qg] at c;exact (q6T 8 c.1.1.1.1 c.1.1.1.2 c.1.1.2 c.1.2 c.2 (q2r hK I xt h1 rx) (q2r hK I xt h2 ry) (by lia)).2 X.prog X.w X.xe _ ⟨.bl _,H,I,rfl,q⟩
noncomputable def eqTo (h:Heap) (ds:List D) (x:D) (u:Value):Bool:=@decide (∃d∈ds,Dv h d u/\eqb d x=true) (Classical.propDecidable _)
theorem q5d {h:Heap}{ds:List D}{x d:D}(pd:plL ds=true) (px:pl x=true) (hd:d∈ds) (y:Dv h d u):eqTo h ds x u=eqb d x:=by unfold eqTo;rw[QP,@decide_eq_true_eq _ (Classical.propDecidable _)];refine⟨λ⟨e,he,z,w⟩=>?_,λ w=>⟨d,hd,y,w⟩⟩;have p1:=q1R.mp pd d hd;have p2:=q1R.mp pd e he;rw[qAN (k:=8) p1 p2 px (q2U 8 p1 p2 y z)];exact w
theorem q5e {h:Heap}{ds:List D}{x:D}(pd:plL ds=true) (px:pl x=true):∀{es:List D}{us:List Value},(∀e∈es,e∈ds)->DvL h es us->us.any (eqTo h ds x)=es.any λ y=>eqb y x
 |[],us,_,y=>by cases (show us=[] from y);rfl
 |e::es,us,hs,y=>by obtain⟨u,r,rfl,y1,y2⟩:=y;rw[List.any_cons,List.any_cons,q5d pd px (hs e Qb) y1,q5e pd px (λ z hz=>hs z (Qa _ hz)) y2]
noncomputable def rMem (p:Pm) (neg:Bool):R2:=λ x y H Q=>∃d e Hf ds,Ext Hf H/\RepB p H Hf d x/\RepB p H Hf e y/\(e = .lst ds\/e = .tup ds)/\pl d=true/\plL ds=true/\Q (.bl (neg ^^ ds.any λ y=>eqb y d)) H
theorem q1Z {ds:List D}{x:D}{us:List Value}{A:Around}(pd:plL ds=true) (px:pl x=true) (y:DvL s.heap ds us) (z:Dv s.heap x u) (hu:A.units+8<cLine) :
  ∀w,w∈us.toArray->SeqAt.EqAt A s w u (eqTo s.heap ds x w):=λ w hw=>by
 obtain⟨d,hd,yd⟩:=y.mem (by simpa using hw);rw[q5d pd px hd yd];exact q22 8 (q1R.mp pd d hd) px yd z hu
theorem qH3 (hK:p.K=X.K) (hu:X.A.units+64<cLine):OpR X (compareOp .In) (rMem p false):=by
 intro pins s σ H x y v u Q I rx ry h;obtain⟨d,e,Hf,ds,xt,h1,h2,c,p1,p2,q⟩:=h;have z1:=q2r hK I xt h1 rx;have z2:=q2r hK I xt h2 ry;have hu':X.A.in1.units+8<cLine:=by rw[Around.in1_units];lia
 have q':∀us:List Value,DvL s.heap ds us->EP X pins σ Q (.bool (us.toArray.any (eqTo s.heap ds d))) s:=λ us y=>by rw[List.any_toArray,q5e p2 p1 (λ _ h=>h) y];exact⟨.bl _,H,I,rfl,by simpa using q⟩
 rcases c with rfl|rfl
 ·obtain⟨a,us,rfl,w1,w2⟩:=z2;exact SeqAt.in_listAt (eqTo s.heap ds d) w1 (q1Z p2 p1 w2 z1 hu') (q' us w2)
 ·obtain⟨a,us,rfl,w1,w2⟩:=z2;exact SeqAt.in_tupleAt (eqTo s.heap ds d) w1 (q1Z p2 p1 w2 z1 hu') (q' us w2)
theorem q8N (hK:p.K=X.K) (hu:X.A.units+64<cLine):OpR X (compareOp .NotIn) (rMem p true):=by
 intro pins s σ H x y v u Q I rx ry h;obtain⟨d,e,Hf,ds,xt,h1,h2,c,p1,p2,q⟩:=h;have z1:=q2r hK I xt h1 rx;have z2:=q2r hK I xt h2 ry;have hu':X.A.in1.units+8<cLine:=by rw[Around.in1_units];lia
 have q':∀us:List Value,DvL s.heap ds us->EP X pins σ Q (.bool (!us.toArray.any (eqTo s.heap ds d))) s:=λ us y=>by rw[List.any_toArray,q5e p2 p1 (λ _ h=>h) y];exact⟨.bl _,H,I,rfl,by simpa using q⟩
 rcases c with rfl|rfl
 ·obtain⟨a,us,rfl,w1,w2⟩:=z2;exact SeqAt.notIn_listAt (eqTo s.heap ds d) w1 (q1Z p2 p1 w2 z1 hu') (q' us w2)
 ·obtain⟨a,us,rfl,w1,w2⟩:=z2;exact SeqAt.notIn_tupleAt (eqTo s.heap ds d) w1 (q1Z p2 p1 w2 z1 hu') (q' us w2)
end
end Snd
namespace Snd
open PySem PySem.Spec PyProof.Rows L2 Ev
variable {d:D}
section
variable {X:Cx}{p:Pm}{O:List Addr}{H:Hp}
noncomputable def cmr:Cm->CmpOp
 | .eq=> .Eq | .ne=> .NotEq | .lt=> .Lt | .le=> .LtE | .gt=> .Gt | .ge=> .GtE | .isN=> .Is | .notN=> .IsNot | .mem=> .In | .nmem=> .NotIn
theorem qDg (op:CmpOp):cmr (cmOf op)=op:=by cases op<;>rfl
theorem q8O (kvs:List (Key×V)) (i:Int):((kvs.map λ q=>keyD q.1).any λ y=>eqb y (.int i))=(valV kvs (.inl i)).isSome:=by
 induction kvs with
 |nil=>rfl
 |cons q r ih =>
  rw[Qz,List.any_cons,ih];obtain⟨k,v⟩:=q;cases k with
  |inl j =>
   by_cases e:j=i
   ·subst e;rw[q3p rfl];simp[keyD,eqb]
   ·rw[q2f (λ z=>e (Sum.inl.inj z))];simp[keyD,eqb,e]
  |inr x=>rw[q2f (p:=(Sum.inr x,v)) (by intro z;cases z)];simp[keyD,eqb]
theorem qH4 (hu:X.A.units+64<cLine):OpR X (compareOp .In) (λ x y H Q=>∃i a kvs,x = .int i/\y = .ref a/\Rd H a (.dK kvs)/\Q (.bl (valV kvs (.inl i)).isSome) H):=by intro pins s σ H x y v u Q I rx ry h;obtain⟨i,a,kvs,rfl,rfl,e,q⟩:=h;cases ry;exact d_in (by lia) I (.inl ⟨kvs,.inl i,e,rfl,rfl⟩) rx λ s' I'=>⟨.bl _,H,I',rfl,q⟩
theorem qAS (hu:X.A.units+64<cLine):OpR X (compareOp .NotIn) (λ x y H Q=>∃i a kvs,x = .int i/\y = .ref a/\Rd H a (.dK kvs)/\Q (.bl (!(valV kvs (.inl i)).isSome)) H):=by intro pins s σ H x y v u Q I rx ry h;obtain⟨i,a,kvs,rfl,rfl,e,q⟩:=h;cases ry;exact qEC (by lia) I (.inl ⟨kvs,.inl i,e,rfl,rfl⟩) rx λ s' I'=>⟨.bl _,H,I',rfl,q⟩
theorem q8P {Hf:Hp}{x:V}(h:RepB p H Hf d x):decide (x = .non)=(match d with | .non=>true|_=>false):=by
 cases d with
 |non=>cases (show x=_ from h);rfl
 |bl b=>cases (show x=_ from h);rfl
 |int i=>cases (show x=_ from h);rfl
 |str y=>obtain⟨rfl,_⟩:=h;rfl
 |tup l=>obtain⟨_,_,rfl,_⟩:=h;rfl
 |lst l=>obtain⟨_,_,rfl,_⟩:=h;rfl
 |dct k l=>obtain⟨_,_,rfl,_⟩:=h;rfl
 |exc c=>obtain⟨_,_,rfl,_⟩:=h;rfl
theorem qAT {y:Str}{c:Nat}(h:one? y=some c):y=mkS [c]:=by
 unfold one? at h;split at h
 ·rename_i e;cases h;obtain⟨a⟩:=y;have e:a.toList=[c]:=e;show Str.mk a=Str.mk [c].toArray;rw[<-e]
 ·cases h
theorem q8Q {z:Str}{f:Bool->R D}{r:D}(h:(memS z d).bind f = .ok r):∃c,d = .str (mkS [c])/\f (decide (c∈z.cps.toList)) = .ok r:=by
 cases d with
 |str y =>
  cases q:one? y with
  |none=>rw[show memS z (.str y) = .stuck by unfold memS;dsimp only;rw[q]] at h;cases h
  |some c =>
   rw[show memS z (.str y) = .ok (decide (c∈z.cps.toList)) by unfold memS;dsimp only;rw[q]] at h;exact⟨c,by rw[qAT q],h⟩
 |_=>cases h
theorem q8R (hK:p.K=X.K) (hO:Th O H) (hu:X.A.units+64<cLine):∀(o:Cm) (d e r:D) (x y:V),cmD o d e = .ok r->RepB p H (fz O H) d x->RepB p H (fz O H) e y->
  ∃r2:R2,OpR X (compareOp (cmr o)) r2/\r2 x y H (Fin p O H r):=by
 intro o d e r x y h hx hy;have pf:∀b:Bool,Fin p O H (.bl b) (.bl b) H:=λ b=>q0C rfl;cases o with
 |eq =>
  obtain⟨c,rfl⟩:=q2J h;exact⟨_,qJS hK hu,d,e,_,q0V,hx,hy,c,pf _⟩
 |ne =>
  obtain⟨c,rfl⟩:=q2J h;exact⟨_,qJT hK hu,d,e,_,q0V,hx,hy,c,pf _⟩
 |lt =>
  obtain⟨c,rfl⟩:=q2J h;exact⟨_,qJU hK hu,d,e,_,q0V,hx,hy,c,pf _⟩
 |ge =>
  obtain⟨c,rfl⟩:=q2J h;exact⟨_,qJV hK hu,d,e,_,q0V,hx,hy,c,pf _⟩
 |le =>
  obtain⟨a,rfl,h⟩:=q17 h;obtain⟨b,rfl,h⟩:=q17 h;cases h;cases (show x=_ from hx);cases (show y=_ from hy);exact⟨_,qIy,_,_,rfl,rfl,pf _⟩
 |gt =>
  obtain⟨a,rfl,h⟩:=q17 h;obtain⟨b,rfl,h⟩:=q17 h;cases h;cases (show x=_ from hx);cases (show y=_ from hy);exact⟨_,qIz,_,_,rfl,rfl,pf _⟩
 |isN =>
  have hn:=q8P hx;obtain⟨rfl,h⟩:=q8M h;cases h;cases (show y=_ from hy);refine⟨_,qGS,rfl,?_⟩;rw[hn];cases d<;>exact pf _
 |notN =>
  have hn:=q8P hx;obtain⟨rfl,h⟩:=q8M h;cases h;cases (show y=_ from hy);refine⟨_,qEB,rfl,?_⟩;rw[hn];cases d<;>exact pf _
 |mem =>
  simp only[cmD,memD] at h;split at h
  ·split at h
   ·rename_i xs c;simp only[Qg] at c;cases h;exact⟨_,qH3 hK hu,d,_,_,xs,q0V,hx,hy,.inl rfl,c.1,c.2,by simpa using pf _⟩
   ·cases h
  ·split at h
   ·rename_i xs c;simp only[Qg] at c;cases h;exact⟨_,qH3 hK hu,d,_,_,xs,q0V,hx,hy,.inr rfl,c.1,c.2,by simpa using pf _⟩
   ·cases h
  ·split at h
   ·cases h;cases (show x=_ from hx);obtain⟨a,kvs,rfl,s1,rfl,_⟩:=hy;refine⟨_,qH4 hu,_,a,kvs,rfl,rfl,s1,?_⟩;rw[<-q8O];exact pf _
   ·cases h
  ·obtain⟨c,rfl,h⟩:=q8Q h;cases h;obtain⟨rfl,_⟩:=hx;obtain⟨rfl,_⟩:=hy;refine⟨_,qA4,_,_,rfl,rfl,?_⟩;rw[show mkS [c]=⟨#[c]⟩ from rfl,PySem.StrLaws.found_one];exact pf _
  ·cases h
 |nmem =>
  simp only[cmD,memD] at h;split at h
  ·split at h
   ·rename_i xs c;simp only[Qg] at c;cases h;exact⟨_,q8N hK hu,d,_,_,xs,q0V,hx,hy,.inl rfl,c.1,c.2,by simpa using pf _⟩
   ·cases h
  ·split at h
   ·rename_i xs c;simp only[Qg] at c;cases h;exact⟨_,q8N hK hu,d,_,_,xs,q0V,hx,hy,.inr rfl,c.1,c.2,by simpa using pf _⟩
   ·cases h
  ·split at h
   ·cases h;cases (show x=_ from hx);obtain⟨a,kvs,rfl,s1,rfl,_⟩:=hy;refine⟨_,qAS hu,_,a,kvs,rfl,rfl,s1,?_⟩;rw[<-q8O];exact pf _
   ·cases h
  ·obtain⟨c,rfl,h⟩:=q8Q h;cases h;obtain⟨rfl,_⟩:=hx;obtain⟨rfl,_⟩:=hy;refine⟨_,q6F,_,_,rfl,rfl,?_⟩;rw[show mkS [c]=⟨#[c]⟩ from rfl,PySem.StrLaws.found_one];exact pf _
  ·cases h
theorem qDh {Hf:Hp}{ds:List D}{vs:List V}{i:Int}(h:RepL p Hf ds vs) (e:nth ds i = .ok d):∃v,atI vs i=some v/\Rep p Hf d v:=by
 have hl:=h.length;unfold nth at e;unfold atI ixN;split at e
 ·rename_i z hz;cases e;split at hz
  ·rename_i c;obtain⟨v,e1,e2⟩:=h.get hz;refine⟨v,?_,e2⟩;have:=(Qc.mp e1).1;rw[if_pos c,if_pos (by lia)];exact e1
  ·rename_i c;split at hz
   ·rename_i c2;obtain⟨v,e1,e2⟩:=h.get hz;refine⟨v,?_,e2⟩;rw[if_neg c,if_pos (by lia)];rw[hl] at e1;exact e1
   ·cases hz
 ·cases e
theorem q8S {Hf:Hp}{i:Int}{d:D}:∀{kvs:List (Key×V)}{ds:List D},RepL p Hf ds (kvs.map (·.2))->look i (kvs.map λ q=>keyD q.1) ds = .ok d->∃v,valV kvs (.inl i)=some v/\Rep p Hf d v
 |[],ds,h,e=>by cases ds<;>simp[look] at e
 |(k,w)::r,ds,h,e=>by
  cases ds with
  |nil=>cases k<;>simp[look,keyD] at e
  |cons d1 ds =>
   obtain⟨v,r',q,h1,h2⟩:=h;injection q with q1 q2
   subst q1 q2;cases k with
   |inl j =>
    simp only[Qz,keyD,look] at e;split at e
    ·rename_i c;subst c;cases e;exact⟨w,q3p rfl,h1⟩
    ·rename_i c;obtain⟨v,e1,e2⟩:=q8S h2 e;exact⟨v,by rw[q2f (λ z=>c (Sum.inl.inj z))];exact e1,e2⟩
   |inr x=>simp[look,keyD] at e
theorem qEZ (hu:X.A.units+64<cLine):IxR X (λ x y H Q=>∃a kvs i v,x = .ref a/\y = .int i/\Rd H a (.dK kvs)/\valV kvs (.inl i)=some v/\Q v H):=by intro value slice pins s σ H x y v u Q I rx ry h hs;obtain⟨a,kvs,i,z,rfl,rfl,e,hv,q⟩:=h;cases rx;have g:DGet H a (.int i) (some z):= .inl ⟨kvs,.inl i,e,rfl,hv.symm⟩;obtain⟨ht,_⟩:=qGV I (.inl ⟨kvs,e⟩);exact tail_any (ops:=[.ref a,u]) ht slot_dict_getitem.lookup (qA7 (by lia) I g ry λ w' s' I' rw'=>⟨z,H,I',rw',q⟩) hs
theorem qEa {x:Str}{i:Int}(e:nth (chrs x) i = .ok d):∃c,atI x.cps.toList i=some c/\d = .str (mkS [c]):=by
 unfold nth chrs at e;unfold atI ixN;rw[Qe] at e;split at e
 ·rename_i z hz;cases e;split at hz
  ·rename_i c;rw[Qn] at hz;obtain⟨a,h1,h2⟩:=QO.mp hz;have:=(Qc.mp h1).1;rw[if_pos c,if_pos (by lia)];exact⟨a,h1,h2.symm⟩
  ·rename_i c;split at hz
   ·rename_i c2;rw[Qn] at hz;obtain⟨a,h1,h2⟩:=QO.mp hz;rw[if_neg c,if_pos (by lia)];exact⟨a,h1,h2.symm⟩
   ·cases hz
 ·cases e
theorem qCK (hK:p.K=X.K) (hu:X.A.units+64<cLine):∀(d e r:D) (x y:V),idxD d e = .ok r->RepB p H (fz O H) d x->RepB p H (fz O H) e y->
  ∃r2:R2,IxR X r2/\r2 x y H (Fin p O H r):=by
 intro d e r x y h hx hy;unfold idxD at h;split at h
 ·cases (show y=_ from hy);obtain⟨a,vs,rfl,s1,r1⟩:=hx;obtain⟨v,e1,e2⟩:=qDh r1 h;exact⟨_,qEG,a,vs,_,v,rfl,rfl,hK▸s1,e1,q0C e2⟩
 ·cases (show y=_ from hy);obtain⟨a,vs,rfl,s1,z,r1⟩:=hx;obtain⟨v,e1,e2⟩:=qDh r1 h;exact⟨_,qGY,a,vs,_,v,rfl,rfl,hK▸q0V.sqT s1,e1,q0C e2⟩
 ·cases (show y=_ from hy);obtain⟨a,kvs,rfl,s1,rfl,r1⟩:=hx;obtain⟨v,e1,e2⟩:=q8S r1 h;exact⟨_,qEZ hu,a,kvs,_,v,rfl,rfl,s1,e1,q0C e2⟩
 ·cases (show y=_ from hy);obtain⟨rfl,z⟩:=hx;obtain⟨c,e1,rfl⟩:=qEa h;exact⟨_,qGZ,_,_,c,rfl,rfl,Qt z q0W,e1,q0C ⟨rfl,by show 1<=big;decide⟩⟩
 ·cases h
theorem qCL (hK:p.K=X.K) {x:V}{b:Bool}(h:tr d = .ok b) (hx:RepB p H (fz O H) d x):TruV X.K x H b:=by
 unfold tr at h;split at h<;>cases h
 ·cases (show x=_ from hx);rfl
 ·cases (show x=_ from hx);rfl
 ·cases (show x=_ from hx);rfl
 ·obtain⟨rfl,z⟩:=hx;refine⟨Qt z q0W,?_⟩;rw[QP];simp
 ·obtain⟨a,vs,rfl,s1,z,r1⟩:=hx;refine .inr (.inl ⟨vs,hK▸q0V.sqT s1,?_⟩);have:=r1.length;rename_i ds;cases ds<;>cases vs<;>first|rfl|(simp at this)
 ·obtain⟨a,vs,rfl,s1,r1⟩:=hx;refine .inl ⟨vs,hK▸s1,?_⟩;have:=r1.length;rename_i ds;cases ds<;>cases vs<;>first|rfl|(simp at this)
end
end Snd
namespace Snd
open PySem PySem.Spec PyProof.Rows L2 Ev
variable {σ:L2.St}{H H':Hp}{d:D}{ρ:Ev.Env}{os:List (List Addr)}{a:PySem.Expr}{la lb:L}{pos:Pos}
structure BOk (X:Cx) (pins:List (Addr×Obj)) (H:Hp) (B:Heap):Prop where
 hok:HOk X.prog X.w H B
 keep:∀b o,X.s₀.heap.get? b=some o->X.H₀ b=none->b∉frs X.stack->b∉X.ex->B.get? b=some o
 there:∀b o,X.s₀.heap.get? b=some o->b∉frs X.stack->b∉X.ex->∃o',B.get? b=some o'
 pin:∀q∈X.pn++pins,B.get? q.1=some q.2
def TrcX (K:PySem.W.Frag) (h base:Heap) (e:Addr) (cls a0 fl:Value):Prop :=
 ∃oe vs T oT ts,h.get? e=some oe/\(oe.cls=cls/\vs[0]? = some a0)/\oe.data = .fields vs/\vs[1]? = some (.ref T)/\base.get? T=none/\T≠e/\h.get? T=some oT/\oT.data = .fields ts/\ts[3]? = some fl/\∃x,vs[2]? = some x/\(x = .none\/PySem.W.nsIn K mainGlobals "BadText" = some (some cls))
theorem TrcX.there {K:PySem.W.Frag}{h base:Heap}{e:Addr}{cls a0 fl:Value}(x:TrcX K h base e cls a0 fl):∃ob,h.get? e=some ob/\ob.cls=cls:=by obtain⟨oe,_,_,_,_,he,hc,_⟩:=x;exact⟨oe,he,hc.1⟩
def TrW (K:PySem.W.Frag) (B:Heap) (l:List PySem.Env) (e:Addr) (cls a0 fl:Value) (h:Heap):Prop:=B.StaysIn h/\B.get? e=none/\h.FunFrames B l/\TrcX K h B e cls a0 fl
def Mid (X:Cx) (p:Pm) (pins:List (Addr×Obj)) (σ:L2.St) (H:Hp) (c:Nat) (e:Value) (s':Shared):Prop :=
 ∃H' a C,e = .ref a/\p.cls[c]? = some C/\Ext H H'/\
  ((∃s1 vs,Inv X pins σ H' s1/\Heap.MadeExcOf s1.heap s'.heap a (.ref C) vs/\s'={s1 with heap:=s'.heap})\/
   (∃B t,Inv X pins σ H' s'/\BOk X pins H' B/\TrW X.K B X.stack a (.ref C) (.ref t) .none s'.heap)\/
   (∃B t L,X.env.frame=some L/\Inv X pins σ H' s'/\BOk X pins H' B/\TrW X.K B X.stack a (.ref C) (.ref t) (rawInt L) s'.heap))
theorem Mid.ext {X:Cx}{p:Pm}{pins:List (Addr×Obj)}{H1:Hp}{c:Nat}{e:Value}{s':Shared}(m:Mid X p pins σ H1 c e s') (x:Ext H H1):Mid X p pins σ H c e s':=by obtain⟨H',a,C,h1,h2,h3,h4⟩:=m;exact⟨H',a,C,h1,h2,x.trans h3,h4⟩
theorem q8T {p:Pm}{H H' Hf Hf':Hp}(x:Ext H H') (y:Ext Hf Hf'):∀{bs:List Addr}{xss:List (List D)},q4J p H Hf bs xss->q4J p H' Hf' bs xss
 |[],_,h=>h
 |b::bs,xss,h=>by obtain⟨xs,r,e,⟨vs,h1,h2⟩,h3⟩:=h;exact⟨xs,r,e,⟨vs,x _ _ h1,h2.mono y⟩,q8T x y h3⟩
theorem qAU {p:Pm}{Hf Hf':Hp}(x:Ext H H') (y:Ext Hf Hf') {a:Addr}(h:qEV p H Hf a d):qEV p H' Hf' a d:=by
 cases d with
 |lst ds=>obtain⟨vs,h1,h2⟩:=h;exact⟨vs,x _ _ h1,h2.mono y⟩
 |dct ks ds=>obtain⟨kvs,h1,h2,h3⟩:=h;exact⟨kvs,x _ _ h1,h2,h3.mono y⟩
 |_=>exact h.elim
theorem q5f {p:Pm}{Hf Hf':Hp}(x:Ext H H') (y:Ext Hf Hf') {sl:Option Sl}{v:Option V}{as:List Addr}(h:q2q p H Hf sl v as):q2q p H' Hf' sl v as:=by
 cases sl with
 |none=>exact h
 |some s=>cases s with
  |val d=>obtain⟨h1,w,h2,h3⟩:=h;exact⟨h1,w,h2,h3.mono y⟩
  |own d=>obtain⟨a,h1,h2,h3⟩:=h;exact⟨a,h1,h2,qAU x y h3⟩
  |own2 xss=>obtain⟨a,bs,h1,h2,h3,h4⟩:=h;exact⟨a,bs,h1,h2,x _ _ h3,q8T x y h4⟩
theorem q1F {p:Pm}{H H' Hf Hf':Hp}(x:Ext H H') (y:Ext Hf Hf'):∀{ρ:Ev.Env}{σ:L2.St}{os:List (List Addr)},q0t p H Hf ρ σ os->q0t p H' Hf' ρ σ os
 |[],_,_,h=>h
 |_::ρ,_,_,h=>by obtain⟨y1,σ',as,os',e1,e2,h1,h2⟩:=h;exact⟨y1,σ',as,os',e1,e2,q5f x y h1,q1F x y h2⟩
theorem Rel.th {p:Pm}(r:Rel p ρ σ os H):Th os.flatten H:=r.there
theorem Rel.ext {p:Pm}(r:Rel p ρ σ os H) (x:Ext H H'):Rel p ρ σ os H' :=
 ⟨r.nd,r.th.ext x,q1F x (q1E x) r.slots⟩
theorem q2s {p:Pm}{H Hf:Hp}:∀{ρ:Ev.Env}{σ:L2.St}{os:List (List Addr)}{i:Nat}{x:Option Sl},q0t p H Hf ρ σ os->ρ[i]? = some x->∃y as,σ[i]? = some y/\os[i]? = some as/\q2q p H Hf x y as
 |[],_,_,i,x,h,e=>by simp at e
 |x0::ρ,_,_,0,x,h,e=>by obtain⟨y1,σ',as,os',rfl,rfl,h1,h2⟩:=h;simp at e;subst e;exact⟨y1,as,rfl,rfl,h1⟩
 |x0::ρ,_,_,i+1,x,h,e=>by obtain⟨y1,σ',as,os',rfl,rfl,h1,h2⟩:=h;obtain⟨y,bs,e1,e2,e3⟩:=q2s (i:=i) h2 (by simpa using e);exact⟨y,bs,by simpa using e1,by simpa using e2,e3⟩
theorem Rel.val {p:Pm}(r:Rel p ρ σ os H) {i:Nat}(e:getV ρ i = .ok d):∃v,σ[i]? = some (some v)/\Rep p (fz os.flatten H) d v:=by
 unfold getV at e;split at e
 ·rename_i d' h;cases e;obtain⟨y,as,e1,_,h1,v,e2,h2⟩:=q2s r.slots h;exact⟨v,by rw[e1,e2],h2⟩
 ·cases e
theorem Rel.bor {p:Pm}(r:Rel p ρ σ os H) {i:Nat}(e:getB ρ i = .ok d):∃v,σ[i]? = some (some v)/\RepB p H (fz os.flatten H) d v:=by
 unfold getB at e;split at e
 ·rename_i d' h;cases e;obtain⟨y,as,e1,_,h1,v,e2,h2⟩:=q2s r.slots h;exact⟨v,by rw[e1,e2],h2.b q0V⟩
 ·rename_i d' h;cases e;obtain⟨y,as,e1,_,a,e2,_,h2⟩:=q2s r.slots h;refine⟨.ref a,by rw[e1,e2],?_⟩;cases d with
  |lst ds=>obtain⟨vs,q1,q2⟩:=h2;exact⟨a,vs,rfl,SqL.of q1,q2⟩
  |dct ks ds=>obtain⟨kvs,q1,q2,q3⟩:=h2;exact⟨a,kvs,rfl,.inl q1,q2,q3⟩
  |_=>exact h2.elim
 ·cases e
section
variable {X:Cx}{p:Pm}{G:Nat->List D->R D}{sub:Nat->Nat->Bool}
def Gd (X:Cx) (p:Pm) (pins:List (Addr×Obj)) (σ:L2.St) (os:List (List Addr)) (H:Hp) (r:R D) (u:Value) (s':Shared):Prop :=
 ∃d v H',r = .ok d/\Inv X pins σ H' s'/\RelV v u/\Ext H H'/\Rep p (fz os.flatten H') d v
def Gb (X:Cx) (p:Pm) (pins:List (Addr×Obj)) (σ:L2.St) (os:List (List Addr)) (H:Hp) (r:R D) (u:Value) (s':Shared):Prop :=
 ∃d v H',r = .ok d/\Inv X pins σ H' s'/\RelV v u/\Ext H H'/\RepB p H' (fz os.flatten H') d v
def Er {α:Type}(X:Cx) (p:Pm) (pins:List (Addr×Obj)) (σ:L2.St) (H:Hp) (r:R α) (e:Value) (s':Shared):Prop:=∃c,r = .err c/\Mid X p pins σ H c e s'
def SE (X:Cx) (p:Pm) (G:Nat->List D->R D) (sub:Nat->Nat->Bool) (e:PySem.Expr) (l:L):Prop :=
 ∀(pins:List (Addr×Obj)) (s:Shared) (σ:L2.St) (H:Hp) (ρ:Ev.Env) (os:List (List Addr)),Inv X pins σ H s->Rel p ρ σ os H->ev G sub l ρ ≠ .stuck->
  wpAny (model X.prog X.w) X.A (eval e X.env) (Gd X p pins σ os H (ev G sub l ρ)) (Er X p pins σ H (ev G sub l ρ)) s
def SB (X:Cx) (p:Pm) (G:Nat->List D->R D) (sub:Nat->Nat->Bool) (e:PySem.Expr) (l:L):Prop :=
 ∀(pins:List (Addr×Obj)) (s:Shared) (σ:L2.St) (H:Hp) (ρ:Ev.Env) (os:List (List Addr)),Inv X pins σ H s->Rel p ρ σ os H->ev G sub l ρ ≠ .stuck->
  wpAny (model X.prog X.w) X.A (eval e X.env) (Gb X p pins σ os H (ev G sub l ρ)) (Er X p pins σ H (ev G sub l ρ)) s
theorem SE.b {e:PySem.Expr}{l:L}(h:SE X p G sub e l):SB X p G sub e l:=λ pins s σ H ρ os I R hs =>
 wpAny_mono (h pins s σ H ρ os I R hs) (λ u s' ⟨d,v,H',e1,I',rv,x,q⟩=>⟨d,v,H',e1,I',rv,x,q.b q0V⟩) λ _ _ z=>z
theorem q07 {α β:Type}{r:R α}{f:α->R β}(h:r.bind f ≠ .stuck):r ≠ .stuck:=λ e=>h (by rw[e];rfl)
theorem q6V {pins:List (Addr×Obj)}{H1:Hp}{r:D}{rr:R D}{E:Value->Shared->Prop}{u:Value}{s':Shared}(x:Ext H H1) (e:rr = .ok r) (h:EP (X.wish E) pins σ (Fin p os.flatten H1 r) u s'):Gd X p pins σ os H rr u s':=by obtain⟨v,H',I',rv,x',q⟩:=h;exact⟨r,v,H',e,I'.q45,rv,x.trans x',q⟩
theorem q8U {b:PySem.Expr}{f:Value->Value->Sem Value}{g:D->D->R D}(ha:SB X p G sub a la) (hb:SB X p G sub b lb)
  (hf:∀(E:Value->Shared->Prop) (pins:List (Addr×Obj)) (s:Shared) (σ:L2.St) (H:Hp) (os:List (List Addr)) (x y:V) (v u:Value) (d e r:D),Inv X pins σ H s->Th os.flatten H->RelV x v->RelV y u->RepB p H (fz os.flatten H) d x->RepB p H (fz os.flatten H) e y->g d e = .ok r->
   wpAny (model X.prog X.w) X.A (f v u) (EP (X.wish E) pins σ (Fin p os.flatten H r)) E s)
  (hg:∀d e,g d e = .stuck\/∃r,g d e = .ok r)
  {pins:List (Addr×Obj)}{s:Shared}{σ:L2.St}{H:Hp}{ρ:Ev.Env}{os:List (List Addr)}(I:Inv X pins σ H s) (R:Rel p ρ σ os H) {rr:Ev.R D}(er:rr=(ev G sub la ρ).bind λ x=>(ev G sub lb ρ).bind λ y=>g x y) (hs:rr ≠ .stuck) :
  wpAny (model X.prog X.w) X.A (eval a X.env) (λ v s₁=>wpAny (model X.prog X.w) X.A (eval b X.env) (λ u s₂=>wpAny (model X.prog X.w) X.A (f v u) (Gd X p pins σ os H rr) (Er X p pins σ H rr) s₂) (Er X p pins σ H rr) s₁) (Er X p pins σ H rr) s:=by
 subst er;refine wpAny_mono (ha pins s σ H ρ os I R (q07 hs)) (λ v s1 ⟨d,x,H1,e1,I1,r1,x1,q1⟩=>?_) (λ e s' ⟨c,e1,m⟩=>⟨c,by rw[e1];rfl,m⟩);rw[e1,q00] at hs |-;have R1:=R.ext x1;refine wpAny_mono (hb pins s1 σ H1 ρ os I1 R1 (q07 hs)) (λ u s2 ⟨d2,y,H2,e2,I2,r2,x2,q2⟩=>?_) (λ e s' ⟨c,e2,m⟩=>⟨c,by rw[e2];rfl,m.ext x1⟩);rw[e2,q00] at hs |-;rcases hg d d2 with z|⟨r,z⟩
 ·exact absurd z hs
 rw[z];exact wpAny_mono (hf _ pins s2 σ H2 os x y v u d d2 r I2 (R1.ext x2).th r1 r2 (q1.mono x2 (q1E x2)) q2 z) (λ w s3 h3=>q6V (x1.trans x2) rfl h3) λ _ _ z=>z
theorem q8V {c:Prop}{_:Decidable c}{x:D}:(if c then R.ok x else .stuck) = .stuck\/∃r,(if c then R.ok x else .stuck) = .ok r:=by
 by_cases z:c
 ·rw[if_pos z];exact .inr ⟨_,rfl⟩
 ·rw[if_neg z];exact .inl rfl
theorem q2G {f:Int->R D}(h:∀i,f i = .stuck\/∃r,f i = .ok r) (d:D):intD f d = .stuck\/∃r,intD f d = .ok r:=by cases d<;>first|exact h _|exact .inl rfl
theorem qEb (o:Op2) (a b:Int):opI o a b = .stuck\/∃r,opI o a b = .ok r:=by cases o<;>first|exact .inl rfl|exact .inr ⟨_,rfl⟩|exact q8V
theorem qEc (o:Op2) (d e:D):opD o d e = .stuck\/∃r,opD o d e = .ok r:=by
 unfold opD;split
 ·cases d<;>first|exact .inl rfl|exact q2G (λ _=> .inr ⟨_,rfl⟩) e|(cases e<;>first|exact .inl rfl|exact q8V)
 ·cases d<;>first|exact .inl rfl|exact q2G (λ _=>q8V) e
 ·exact q2G (λ a=>q2G (qEb o a) e) d
theorem qCM (z:Str) (d:D):memS z d = .stuck\/∃r,memS z d = .ok r:=by
 unfold memS;split
 ·split
  ·exact .inr ⟨_,rfl⟩
  ·exact .inl rfl
 ·exact .inl rfl
theorem qCN (d e:D):memD d e = .stuck\/∃r,memD d e = .ok r:=by
 unfold memD;split<;>first
  |exact qCM _ _
  |exact .inl rfl
  |(split<;>first|exact .inr ⟨_,rfl⟩|exact .inl rfl)
theorem qAV (o:Cm) (d e:D):cmD o d e = .stuck\/∃r,cmD o d e = .ok r:=by
 cases o<;>first
  |exact q8V
  |exact q2G (λ a=>q2G (λ b=> .inr ⟨_,rfl⟩) e) d
  |(cases e<;>first|exact .inl rfl|exact .inr ⟨_,rfl⟩)
  |(unfold cmD;dsimp only;rcases qCN d e with z|⟨r,z⟩<;>rw[z]<;>first|exact .inl rfl|exact .inr ⟨_,rfl⟩)
theorem qEd (l:List D) (i:Int):nth l i = .stuck\/∃r,nth l i = .ok r:=by unfold nth;split<;>first|exact .inr ⟨_,rfl⟩|exact .inl rfl
theorem q8W (i:Int):∀(ks vs:List D),look i ks vs = .stuck\/∃r,look i ks vs = .ok r
 |[],vs=>by unfold look;exact .inl rfl
 |k::ks,[]=>by cases k<;>(unfold look;exact .inl rfl)
 |k::ks,v::vs=>by
  cases k<;>first
   |(unfold look;exact .inl rfl)
   |(unfold look;split<;>first|exact .inr ⟨_,rfl⟩|exact q8W i ks vs)
theorem qCO (d e:D):idxD d e = .stuck\/∃r,idxD d e = .ok r:=by unfold idxD;split<;>first|exact qEd _ _|exact q8W _ _ _|exact .inl rfl
theorem qJW {b:PySem.Expr}{op:Operator}{o:Op2}(hK:p.K=X.K) (ho:opOf op=some o) (ha:SB X p G sub a la) (hb:SB X p G sub b lb):SE X p G sub (.BinOp a op b pos) (.op o la lb):=by intro pins s σ H ρ os I R hs;rw[qCC ho];refine wpAny_BinOp (q8U ha hb (λ E pins s σ H os x y v u d e r I t rx ry h1 h2 h=>?_) (qEc o) I R (q0P ..) hs);obtain⟨r2,k,q⟩:=qCI (X:=X.wish E) hK t o d e r x y h h1 h2;exact k pins s σ H x y v u _ (I.wish E) rx ry q
theorem qJX {b:PySem.Expr}{op:CmpOp}(hK:p.K=X.K) (hu:X.A.units+64<cLine) (hm:behindInMarks op b=false) (ha:SB X p G sub a la) (hb:SB X p G sub b lb):SE X p G sub (.Compare a [op] [b] pos) (.cm (cmOf op) la lb):=by intro pins s σ H ρ os I R hs;refine wpAny_Compare1 (q8U ha hb (λ E pins s σ H os x y v u d e r I t rx ry h1 h2 h=>?_) (qAV (cmOf op)) I R (q9S ..) hs) hm;obtain⟨r2,k,q⟩:=q8R (X:=X.wish E) hK t hu (cmOf op) d e r x y h h1 h2;rw[qDg] at k;exact k pins s σ H x y v u _ (I.wish E) rx ry q
theorem qH5 {b:PySem.Expr}(hK:p.K=X.K) (hu:X.A.units+64<cLine) (hs:qA9 b) (ha:SB X p G sub a la) (hb:SB X p G sub b lb):SE X p G sub (.Subscript a b pos) (.idx la lb):=by intro pins s σ H ρ os I R hn;refine Subscript_ (q8U ha hb (λ E pins s σ H os x y v u d e r I t rx ry h1 h2 h=>?_) qCO I R (q1u ..) hn);obtain⟨r2,k,q⟩:=qCK (X:=X.wish E) (O:=os.flatten) hK hu d e r x y h h1 h2;exact k a b pins s σ H x y v u _ (I.wish E) rx ry q (hs _ _)
end
end Snd
namespace Snd
open PySem PySem.Spec PyProof.Rows L2 Ev
variable {d:D}{pos:Pos}{pins:List (Addr×Obj)}{σ:L2.St}{H:Hp}{x:Str}{i:Nat}{u:Value}{a b:PySem.Expr}{la lb:L}{r es:List PySem.Expr}{s':Shared}{ls:List L}
section
variable {X:Cx}{p:Pm}{G:Nat->List D->R D}{sub:Nat->Nat->Bool}
theorem q8X {c:Const}{j:Nat}(h:q2j c=some d):SE X p G sub (.Constant c j pos) (.con d):=by
 intro pins s σ H ρ os I R hs;cases c<;>simp[q2j] at h
 ·subst h;exact Constant_none ⟨_,.non,H,rfl,I,rfl,Ext.refl _,rfl⟩
 ·subst h;exact Constant_bool ⟨_,.bl _,H,rfl,I,rfl,Ext.refl _,rfl⟩
 ·subst h;exact wpAny_Constant_int ⟨_,.int _,H,rfl,I.tok _,⟨_,rfl⟩,Ext.refl _,rfl⟩
 ·obtain⟨h1,rfl⟩:=h;exact Calls.Constant_str ⟨_,.str _,H,rfl,I.tok _,⟨_,rfl⟩,Ext.refl _,rfl,Qt h1 (by decide)⟩
theorem q4L {E:Value->Shared->Prop}{s:Shared}{v:V}{Q:Value->Shared->Prop}(I:Inv X pins σ H s) (hN:X.N[i]? = some x) (hv:Vis X.env.scope x) (e:σ[i]? = some (some v))
  (hd:(x==("__debug__":Str))=false) (hcd:(x==("__classdict__":Str))=false) (h:∀u,RelV v u->Q u s):wpAny (model X.prog X.w) X.A (eval (.Name x pos) X.env) Q E s:=by
 obtain⟨m,hn,hl⟩:=I.loc;obtain⟨u,r,l⟩:=hl i x v hN e hv;rcases l with ⟨hk,hm⟩|⟨hk,c,hc,hcell⟩
 ·exact wpAny_Name (wpAny_loadName_local I.ok.kind hk hn hm (h u r)) hd
 ·rcases hk with hk|hk
  ·exact wpAny_Name (wpAny_loadName_cell I.ok.kind hk hc hcell (h u r)) hd
  ·exact wpAny_Name (wpAny_loadName_free I.ok.kind hk hc hcell (h u r) hcd) hd
theorem qDi (hN:X.N[i]? = some x) (hv:Vis X.env.scope x) (hd:(x==("__debug__":Str))=false) (hcd:(x==("__classdict__":Str))=false):SE X p G sub (.Name x pos) (.var i):=by
 intro pins s σ H ρ os I R hs;rw[q1C] at hs |-;cases e:getV ρ i with
 |ok d =>
  obtain⟨v,e1,q⟩:=R.val e;exact q4L I hN hv e1 hd hcd λ u r=>⟨d,v,H,rfl,I,r,Ext.refl _,q⟩
 |err c=>unfold getV at e;split at e<;>cases e
 |stuck=>exact absurd e hs
theorem qDj (hN:X.N[i]? = some x) (hv:Vis X.env.scope x) (hd:(x==("__debug__":Str))=false) (hcd:(x==("__classdict__":Str))=false):SB X p G sub (.Name x pos) (.bor i):=by
 intro pins s σ H ρ os I R hs;rw[qDa] at hs |-;cases e:getB ρ i with
 |ok d =>
  obtain⟨v,e1,q⟩:=R.bor e;exact q4L I hN hv e1 hd hcd λ u r=>⟨d,v,H,rfl,I,r,Ext.refl _,q⟩
 |err c=>unfold getB at e;split at e<;>cases e
 |stuck=>exact absurd e hs
theorem qEe {v:V}(hg:Gl X x) (hm:X.mg x=some u) (r:RelV v u) (hr:∀H,Rep p H d v) (hd:(x==("__debug__":Str))=false):SE X p G sub (.Name x pos) (.con d):=λ pins s σ H ρ os I R hs =>
 q1w I hg hm ⟨d,v,H,rfl,I,r,Ext.refl _,hr _⟩ hd
theorem qH6 (ha:SE X p G sub a la):SE X p G sub (.UnaryOp .USub a pos) (.neg la):=by
 intro pins s σ H ρ os I R hs;rw[qGn] at hs |-;refine UnaryOp_ (wpAny_mono (ha pins s σ H ρ os I R (q07 hs)) (λ v s1 ⟨d,x,H1,e1,I1,r1,x1,q1⟩=>?_) (λ e s' ⟨c,e1,m⟩=>⟨c,by rw[e1];rfl,m⟩));rw[e1,q00] at hs |-;cases d<;>first
  |exact absurd rfl hs
  |skip
 cases (show x=_ from q1);obtain⟨t,rfl⟩:=r1;exact neg_int ⟨_,.int _,H1,rfl,I1.tok _,⟨_,rfl⟩,x1,rfl⟩
def Tp (X:Cx) (p:Pm) (pins:List (Addr×Obj)) (σ:L2.St) (H:Hp) (r:R Bool) (b:Bool) (s':Shared):Prop:=∃H',r = .ok b/\Inv X pins σ H' s'/\Ext H H'
def ST (X:Cx) (p:Pm) (G:Nat->List D->R D) (sub:Nat->Nat->Bool) (e:PySem.Expr) (l:T):Prop :=
 ∀(whole:Sem Value) (pins:List (Addr×Obj)) (s:Shared) (σ:L2.St) (H:Hp) (ρ:Ev.Env) (os:List (List Addr)),(whole=eval e X.env\/q7V e=true)->Inv X pins σ H s->Rel p ρ σ os H->tst G sub l ρ ≠ .stuck->
  wpAny (model X.prog X.w) X.A (isTrue e X.env whole) (Tp X p pins σ H (tst G sub l ρ)) (Er X p pins σ H (tst G sub l ρ)) s
theorem q2V (hK:p.K=X.K) {s:Shared}{H0:Hp}{os:List (List Addr)}{x:V}{v:Value}{E:Value->Shared->Prop}{rr:R Bool}(I:Inv X pins σ H s) (r:RelV x v) (q:RepB p H (fz os.flatten H) d x) (x0:Ext H0 H) (hs:tr d ≠ .stuck) (er:rr=tr d) :
  wpAny (model X.prog X.w) X.A (truthy v) (Tp X p pins σ H0 rr) E s:=by
 cases e:tr d with
 |ok b =>
  refine thn (qGT (X:=X.wish E) pins s σ H x v (λ b' H'=>b'=b/\H'=H) (I.wish E) r ⟨b,qCL (X:=X.wish E) (O:=os.flatten) hK e q,rfl,rfl⟩) λ b' s' h=>?_;obtain⟨H',I',rfl,rfl⟩:=h;exact⟨H',by rw[er,e],I'.q45,x0⟩
 |err c=>unfold tr at e;split at e<;>cases e
 |stuck=>exact absurd e hs
theorem st_e {e:PySem.Expr}{l:L}(hK:p.K=X.K) (he:∀whole,isTrue e X.env whole=(do let v <-whole;standAt e.pos;holding [v] (truthy v))) (hb:q7V e=false) (h:SB X p G sub e l):ST X p G sub e (.e l):=by
 intro whole pins s σ H ρ os hw I R hs;rcases hw with rfl|hw
 ·rw[q9T] at hs |-;refine isTrue_plain (wpAny_mono (h pins s σ H ρ os I R (q07 hs)) (λ v s1 ⟨d,x,H1,e1,I1,r1,x1,q1⟩=>?_) (λ e s' ⟨c,e1,m⟩=>⟨c,by rw[e1];rfl,m⟩)) (he _);rw[e1,q00] at hs |-;exact q2V hK I1 r1 q1 x1 hs rfl
 ·rw[hb] at hw;cases hw
theorem qJY {op:CmpOp}(hK:p.K=X.K) (hu:X.A.units+64<cLine) (hm:behindInMarks op b=false) (ha:SB X p G sub a la) (hb:SB X p G sub b lb):ST X p G sub (.Compare a [op] [b] pos) (.e (.cm (cmOf op) la lb)):=by
 intro whole pins s σ H ρ os hw I R hs;rw[q9T] at hs |-;have hs':ev G sub (.cm (cmOf op) la lb) ρ ≠ .stuck:=q07 hs;have two:=q8U (X:=X) ha hb (f:=compareOp op) (g:=cmD (cmOf op)) (λ E pins s σ H os x y v u d e r I t rx ry h1 h2 h=>by obtain⟨r2,k,q⟩:=q8R (X:=X.wish E) hK t hu (cmOf op) d e r x y h h1 h2;rw[qDg] at k;exact k pins s σ H x y v u _ (I.wish E) rx ry q) (qAV (cmOf op)) I R (q9S ..) hs'
 have er:∀e s',Er X p pins σ H (ev G sub (.cm (cmOf op) la lb) ρ) e s'->Er X p pins σ H ((ev G sub (.cm (cmOf op) la lb) ρ).bind tr) e s':=λ e s' ⟨c,e1,m⟩=>⟨c,by rw[e1];rfl,m⟩
 refine wpAny_isTrue_Compare1 (wpAny_mono two (λ v s1 h1=>wpAny_mono h1 (λ u s2 h2=>wpAny_mono h2 (λ w s3 h3=>?_) er) er) er) hm;obtain⟨d,x,H1,e1,I1,r1,x1,q1⟩:=h3;rw[e1,q00] at hs |-;exact q2V hK I1 r1 (q1.b q0V) x1 hs rfl
theorem qH7 {la:T}(ha:ST X p G sub a la):ST X p G sub (.UnaryOp .Not a pos) (.not la):=by intro whole pins s σ H ρ os hw I R hs;rw[q5X] at hs |-;refine isTrue_not (wpAny_mono (ha _ pins s σ H ρ os (.inl rfl) I R (q07 hs)) (λ b s1 ⟨H1,e1,I1,x1⟩=>?_) (λ e s' ⟨c,e1,m⟩=>⟨c,by rw[e1];rfl,m⟩));exact⟨H1,by rw[e1];rfl,I1,x1⟩
theorem qEf {la:T}(ha:ST X p G sub a la):ST X p G sub (.BoolOp .And [a] pos) la:=by
 intro whole pins s σ H ρ os hw I R hs;refine isTrue_and (wpAny_mono (ha _ pins s σ H ρ os (.inl rfl) I R hs) (λ c s1 e=>?_) (λ _ _ z=>z));cases c with
 |true=>exact isTrue_and_nil e
 |false=>exact e
theorem qH8 {la:T}(ha:ST X p G sub a la):ST X p G sub (.BoolOp .Or [a] pos) la:=by
 intro whole pins s σ H ρ os hw I R hs;refine isTrue_or (wpAny_mono (ha _ pins s σ H ρ os (.inl rfl) I R hs) (λ c s1 e=>?_) (λ _ _ z=>z));cases c with
 |false=>exact isTrue_or_nil e
 |true=>exact e
theorem qH9 {la lb:T}(ha:ST X p G sub a la) (hb:ST X p G sub (.BoolOp .And (b::r) pos) lb):ST X p G sub (.BoolOp .And (a::b::r) pos) (.and la lb):=by
 intro whole pins s σ H ρ os hw I R hs;rw[q5W] at hs |-;refine isTrue_and (wpAny_mono (ha _ pins s σ H ρ os (.inl rfl) I R (q07 hs)) (λ c s1 ⟨H1,e1,I1,x1⟩=>?_) (λ e s' ⟨c,e1,m⟩=>⟨c,by rw[e1];rfl,m⟩));rw[e1,q00] at hs |-;cases c with
 |false=>exact⟨H1,rfl,I1,x1⟩
 |true =>
  rw[if_pos rfl] at hs |-;exact wpAny_mono (hb _ pins s1 σ H1 ρ os (.inr rfl) I1 (R.ext x1) hs) (λ c s2 ⟨H2,e2,I2,x2⟩=>⟨H2,e2,I2,x1.trans x2⟩) (λ e s' ⟨c,e1,m⟩=>⟨c,e1,m.ext x1⟩)
theorem qJZ {la lb:T}(ha:ST X p G sub a la) (hb:ST X p G sub (.BoolOp .Or (b::r) pos) lb):ST X p G sub (.BoolOp .Or (a::b::r) pos) (.or la lb):=by
 intro whole pins s σ H ρ os hw I R hs;rw[q2l] at hs |-;refine isTrue_or (wpAny_mono (ha _ pins s σ H ρ os (.inl rfl) I R (q07 hs)) (λ c s1 ⟨H1,e1,I1,x1⟩=>?_) (λ e s' ⟨c,e1,m⟩=>⟨c,by rw[e1];rfl,m⟩));rw[e1,q00] at hs |-;cases c with
 |true=>exact⟨H1,rfl,I1,x1⟩
 |false =>
  rw[if_neg (by simp)] at hs |-;exact wpAny_mono (hb _ pins s1 σ H1 ρ os (.inr rfl) I1 (R.ext x1) hs) (λ c s2 ⟨H2,e2,I2,x2⟩=>⟨H2,e2,I2,x1.trans x2⟩) (λ e s' ⟨c,e1,m⟩=>⟨c,e1,m.ext x1⟩)
theorem qHA {op:BoolOp}(ha:SE X p G sub a la):SE X p G sub (.BoolOp op [a] pos) la:=λ pins s σ H ρ os I R hs=>BoolOp_one (ha pins s σ H ρ os I R hs)
theorem Gd.ext {os:List (List Addr)}{H1:Hp}{r:R D}(x:Ext H H1) (h:Gd X p pins σ os H1 r u s'):Gd X p pins σ os H r u s':=by obtain⟨d,v,H',e,I,rv,y,q⟩:=h;exact⟨d,v,H',e,I,rv,x.trans y,q⟩
theorem Er.ext {α:Type}{H1:Hp}{r:R α}(x:Ext H H1) (h:Er X p pins σ H1 r u s'):Er X p pins σ H r u s':=by obtain⟨c,e,m⟩:=h;exact⟨c,e,m.ext x⟩
theorem Er.bind {α β:Type}{r:R α}{f:α->R β}(h:Er X p pins σ H r u s'):Er X p pins σ H (r.bind f) u s':=by obtain⟨c,e,m⟩:=h;exact⟨c,by rw[e];rfl,m⟩
theorem qHB (ha:SE X p G sub a la) (hb:SE X p G sub (.BoolOp .And (b::r) pos) lb):SE X p G sub (.BoolOp .And (a::b::r) pos) (.and la lb):=by
 intro pins s σ H ρ os I R hs;rw[qDb] at hs |-;refine BoolOp_and (wpAny_mono (ha pins s σ H ρ os I R (q07 hs)) (λ v s1 ⟨d,x,H1,e1,I1,r1,x1,q1⟩=>?_) (λ e s' z=>z.bind));rw[e1,q00] at hs |-;cases d<;>first
  |exact absurd rfl hs
  |skip
 rename_i c;cases (show x=_ from q1);cases r1;refine wpAny_truthy_bool ?_;cases c with
 |true=>exact wpAny_mono (hb pins s1 σ H1 ρ os I1 (R.ext x1) hs) (λ _ _ z=>z.ext x1) (λ _ _ z=>z.ext x1)
 |false=>exact⟨_,.bl false,H1,rfl,I1,rfl,x1,rfl⟩
theorem qJa (ha:SE X p G sub a la) (hb:SE X p G sub (.BoolOp .Or (b::r) pos) lb):SE X p G sub (.BoolOp .Or (a::b::r) pos) (.or la lb):=by
 intro pins s σ H ρ os I R hs;rw[qJ4] at hs |-;refine BoolOp_or (wpAny_mono (ha pins s σ H ρ os I R (q07 hs)) (λ v s1 ⟨d,x,H1,e1,I1,r1,x1,q1⟩=>?_) (λ e s' z=>z.bind));rw[e1,q00] at hs |-;cases d<;>first
  |exact absurd rfl hs
  |skip
 rename_i c;cases (show x=_ from q1);cases r1;refine wpAny_truthy_bool ?_;cases c with
 |false=>exact wpAny_mono (hb pins s1 σ H1 ρ os I1 (R.ext x1) hs) (λ _ _ z=>z.ext x1) (λ _ _ z=>z.ext x1)
 |true=>exact⟨_,.bl true,H1,rfl,I1,rfl,x1,rfl⟩
theorem qHC (hK:p.K=X.K) (ha:SB X p G sub a la):SE X p G sub (.UnaryOp .Not a pos) (.not la):=by intro pins s σ H ρ os I R hs;rw[qGo] at hs |-;refine UnaryOp_ (wpAny_mono (ha pins s σ H ρ os I R (q07 hs)) (λ v s1 ⟨d,x,H1,e1,I1,r1,x1,q1⟩=>?_) (λ e s' z=>z.bind));rw[e1,q00] at hs |-;refine not_of (thn (q2V hK I1 r1 q1 x1 (q07 hs) rfl) λ b s2 ⟨H2,e2,I2,x2⟩=>?_);rw[e2];exact⟨_,.bl _,H2,rfl,I2,rfl,x2,rfl⟩
theorem qHD {c:PySem.Expr}{lc:T}(hc:ST X p G sub c lc) (ha:SE X p G sub a la) (hb:SE X p G sub b lb):SE X p G sub (.IfExp c a b pos) (.ite lc la lb):=by
 intro pins s σ H ρ os I R hs;rw[qAK] at hs |-;refine wpAny_IfExp (wpAny_mono (hc _ pins s σ H ρ os (.inl rfl) I R (q07 hs)) (λ t s1 ⟨H1,e1,I1,x1⟩=>?_) (λ e s' z=>z.bind));rw[e1,q00] at hs |-;cases t with
 |true=>exact wpAny_mono (ha pins s1 σ H1 ρ os I1 (R.ext x1) hs) (λ _ _ z=>z.ext x1) (λ _ _ z=>z.ext x1)
 |false=>exact wpAny_mono (hb pins s1 σ H1 ρ os I1 (R.ext x1) hs) (λ _ _ z=>z.ext x1) (λ _ _ z=>z.ext x1)
def Ga (X:Cx) (p:Pm) (pins:List (Addr×Obj)) (σ:L2.St) (os:List (List Addr)) (H:Hp) (r:R (List D)) (us:List Value) (s':Shared):Prop :=
 ∃ds vs H',r = .ok ds/\Inv X pins σ H' s'/\Vals vs us/\Ext H H'/\RepL p (fz os.flatten H') ds vs
def SA (X:Cx) (p:Pm) (G:Nat->List D->R D) (sub:Nat->Nat->Bool) (es:List PySem.Expr) (l:List L):Prop :=
 ∀(pos:Pos) (pins:List (Addr×Obj)) (s:Shared) (σ:L2.St) (H:Hp) (ρ:Ev.Env) (os:List (List Addr)),Inv X pins σ H s->Rel p ρ σ os H->evs G sub l ρ ≠ .stuck->
  wpAny (model X.prog X.w) X.A (spliced (backTo pos (starEach es X.env))) (Ga X p pins σ os H (evs G sub l ρ)) (Er X p pins σ H (evs G sub l ρ)) s
theorem qHE:SA X p G sub [] []:=λ _ _ _ _ H _ _ I _ _=>Calls.spliced_nil ⟨[],[],H,rfl,I,.nil,Ext.refl _,rfl⟩
theorem qEg {e:PySem.Expr}{l:L}(ha:SE X p G sub e l) (hr:SA X p G sub es ls) (hst:starEach (e::es) X.env=(false,eval e X.env)::starEach es X.env):SA X p G sub (e::es) (l::ls):=by intro pos pins s σ H ρ os I R hs;rw[hst];rw[q0E] at hs |-;show wpAny _ _ (spliced ((false,eval e X.env)::backTo pos (starEach es X.env))) _ _ s;refine Calls.spliced_cons (wpAny_mono (ha pins s σ H ρ os I R (q07 hs)) (λ u s1 ⟨d,x,H1,e1,I1,r1,x1,q1⟩=>?_) (λ e s' z=>z.bind));rw[e1,q00] at hs |-;refine wpAny_mono (hr pos pins s1 σ H1 ρ os I1 (R.ext x1) (q07 hs)) (λ us s2 ⟨ds,vs,H2,e2,I2,r2,x2,q2⟩=>?_) (λ e s' z=>(z.ext x1).bind);rw[e2];exact⟨d::ds,x::vs,H2,rfl,I2,.cons r1 r2,x1.trans x2,x,vs,rfl,q1.mono (q1E x2),q2⟩
theorem qAW {O:List Addr}{a:Addr}{o:HO}(t:Th O H) (n:H a=none):fz O (upd H a o) a=some o:=q1N q0M λ m=>by obtain⟨u,e⟩:=t a m;rw[n] at e;cases e
theorem qHF {k1:Nat}(h:SA X p G sub es ls):SE X p G sub (.Tuple es k1 pos) (.tup ls):=by
 intro pins s σ H ρ os I R hs;rw[q8F] at hs |-;refine wpAny_Tuple_spliced (wpAny_mono (h pos pins s σ H ρ os I R (q07 hs)) (λ us s1 ⟨ds,vs,H1,e1,I1,r1,x1,q1⟩=>?_) (λ e s' z=>z.bind));rw[e1,q00] at hs |-;have z:ds.length<=big:=by
  by_cases z:ds.length<=big
  ·exact z
  ·rw[if_neg z] at hs;exact absurd rfl hs
 rw[if_pos z];have z1:vs.length<=sizeLine:=Qt (q1.length▸z) q0W;refine⟨by rw[<-r1.length];exact z1,?_⟩;have hf:H1 s1.heap.objs.size=none:=I1.hok.fresh (Qf _);refine⟨_,.ref s1.heap.objs.size,upd H1 s1.heap.objs.size (.tup vs),rfl,I1.laid (t':=s1.toks) (λ b u e=>Heap.get?_push_of_some _ e) (Qf _) ?_,rfl,x1.trans (Ext.upd hf),?_⟩
 ·exact⟨z1,us,r1,⟨_,Heap.get?_push_size _ rfl,rfl,_,rfl⟩⟩
 ·exact⟨_,vs,rfl,SqT.of (qAW (R.ext x1).th hf),z1,q1.mono (q1E (Ext.upd hf))⟩
theorem qHG (h:SA X p G sub es ls):SE X p G sub (.List es pos) (.lst ls):=by
 intro pins s σ H ρ os I R hs;rw[qAL] at hs |-;refine wpAny_List_spliced (wpAny_mono (h pos pins s σ H ρ os I R (q07 hs)) (λ us s1 ⟨ds,vs,H1,e1,I1,r1,x1,q1⟩=>?_) (λ e s' z=>z.bind));rw[e1,q00] at hs |-;have z:ds.length<=big:=by
  by_cases z:ds.length<=big
  ·exact z
  ·rw[if_neg z] at hs;exact absurd rfl hs
 rw[if_pos z];have z1:vs.length<=sizeLine:=Qt (q1.length▸z) q0W;refine⟨by rw[<-r1.length];exact z1,?_⟩;have hf:H1 s1.heap.objs.size=none:=I1.hok.fresh (Qf _);refine⟨_,.ref s1.heap.objs.size,upd H1 s1.heap.objs.size (.lst vs),rfl,I1.laid (t':=s1.toks) (λ b u e=>Heap.get?_push_of_some _ e) (Qf _) ?_,rfl,x1.trans (Ext.upd hf),?_⟩
 ·exact⟨z1,us,0,r1,Heap.get?_push_size _ rfl⟩
 ·exact⟨_,vs,rfl,SqL.of (qAW (R.ext x1).th hf),q1.mono (q1E (Ext.upd hf))⟩
end
end Snd
namespace Snd
open PySem PySem.Spec PyProof.Rows L2 Ev
variable {H0 H:Hp}{O0:List Addr}{ρ:Ev.Env}{σ:L2.St}{os:List (List Addr)}{i:Nat}{pins:List (Addr×Obj)}{e:PySem.Expr}{l:L}{pos:Pos}
theorem q2t {p:Pm}{H Hf:Hp}{x:Option Sl}{y:Option V}{as:List Addr}(h:q2q p H Hf x y as):∀{ρ:Ev.Env}{σ:L2.St}{os:List (List Addr)}(i:Nat),q0t p H Hf ρ σ os->q0t p H Hf (ρ.set i x) (σ.set i y) (os.set i as)
 |[],_,_,_,_=>trivial
 |_::ρ,_,_,0,q=>by obtain⟨y1,σ',as',os',rfl,rfl,h1,h2⟩:=q;exact⟨y,σ',as,os',rfl,rfl,h,h2⟩
 |_::ρ,_,_,i+1,q=>by obtain⟨y1,σ',as',os',rfl,rfl,h1,h2⟩:=q;exact⟨y1,σ'.set i y,as',os'.set i as,rfl,rfl,h1,q2t h i h2⟩
theorem q0F {as:List Addr}{b:Addr}:∀{os:List (List Addr)}{i:Nat},b∈(os.set i as).flatten->b∈os.flatten\/b∈as
 |[],i,h=>by simp at h
 |o::os,0,h=>by
  simp only[List.set_cons_zero,Qw,Qq] at h;rcases h with h|h
  ·exact .inr h
  ·exact .inl (by simp only[Qw,Qq];exact .inr h)
 |o::os,i+1,h=>by
  simp only[List.set_cons_succ,Qw,Qq] at h;rcases h with h|h
  ·exact .inl (by simp only[Qw,Qq];exact .inl h)
  ·rcases q0F h with h|h
   ·exact .inl (by simp only[Qw,Qq];exact .inr h)
   ·exact .inr h
theorem q0j {as:List Addr}(na:as.Nodup):∀{os:List (List Addr)}{i:Nat},os.flatten.Nodup->(∀a∈as,a∉os.flatten)->(os.set i as).flatten.Nodup
 |[],i,h,_=>by simp
 |o::os,0,h,d=>by simp only[List.set_cons_zero,Qw] at h |-;have h2:=QD.mp h;refine QD.mpr ⟨na,h2.2.1,λ a ha b hb e=>?_⟩;subst e;exact d a ha (by simp only[Qw,Qq];exact .inr hb)
 |o::os,i+1,h,d=>by
  simp only[List.set_cons_succ,Qw] at h |-;have h2:=QD.mp h;refine QD.mpr ⟨h2.1,q0j na h2.2.1 (λ a ha hb=>d a ha (by simp only[Qw,Qq];exact .inr hb)),λ a ha b hb e=>?_⟩;subst e;rcases q0F hb with hb|hb
  ·exact h2.2.2 a ha a hb rfl
  ·exact d a hb (by simp only[Qw,Qq];exact .inl ha)
structure Bd (p:Pm) (H0:Hp) (O0:List Addr) (ρ:Ev.Env) (σ:L2.St) (os:List (List Addr)) (H:Hp):Prop where
 rel:Rel p ρ σ (os++[O0]) H
 len:os.length=ρ.length
 slen:σ.length=ρ.length
 ext:Ext H0 H
 new:∀a∈os.flatten,H0 a=none
theorem Bd.mono {p:Pm}{H1:Hp}(b:Bd p H0 O0 ρ σ os H) (x:Ext H H1):Bd p H0 O0 ρ σ os H1 :=
 ⟨b.rel.ext x,b.len,b.slen,b.ext.trans x,b.new⟩
theorem q2u {A B:List Addr}(h:∀a∈B,a∈A):Ext (fz A H) (fz B H):=λ a o e=>by
 unfold fz at e |-;split at e
 ·cases e
 ·rename_i n;rw[if_neg λ m=>n (h a m)];exact e
theorem q0q (os:List (List Addr)) (O:List Addr):(os++[O]).flatten=os.flatten++O:=by simp
theorem qEh:Ext (fz (os++[O0]).flatten H) (fz O0 H):=q2u λ a h=>by rw[q0q];exact Qr _ h
theorem q0X {O as:List Addr}(h:i<os.length):(os++[O]).set i as=os.set i as++[O]:=by rw[List.set_append,if_pos h]
theorem Bd.setV {p:Pm}{d:D}{v:V}(b:Bd p H0 O0 ρ σ os H) (hi:i < ρ.length) (h:Rep p (fz (os++[O0]).flatten H) d v) :
  Bd p H0 O0 (ρ.set i (some (.val d))) (σ.set i (some v)) (os.set i []) H:=by
 have sub:∀a∈(os.set i []++[O0]).flatten,a∈(os++[O0]).flatten:=λ a ha=>by rw[<-q0X (by rw[b.len];exact hi)] at ha;exact (q0F ha).elim id λ z=>absurd z (by simp)
 have y:Ext (fz (os++[O0]).flatten H) (fz (os.set i []++[O0]).flatten H):=q2u sub;refine⟨⟨?_,λ a ha=>b.rel.there a (sub a ha),?_⟩,by simp[b.len],by simp[b.slen],b.ext,λ a ha=>?_⟩
 ·rw[<-q0X (by rw[b.len];exact hi)];exact q0j List.nodup_nil b.rel.nd λ a ha=>absurd ha (by simp)
 ·have:=q2t (x:=some (.val d)) (y:=some v) (as:=[]) (show q2q p H (fz (os.set i []++[O0]).flatten H) _ _ _ from⟨rfl,v,rfl,h.mono y⟩) i (q1F (Ext.refl H) y b.rel.slots)
  rwa [q0X (by rw[b.len];exact hi)] at this
 ·exact (q0F ha).elim (b.new a) λ z=>absurd z (by simp)
theorem Bd.setN {p:Pm}{y:Option V}(b:Bd p H0 O0 ρ σ os H) (hi:i < ρ.length) :
  Bd p H0 O0 (ρ.set i none) (σ.set i y) (os.set i []) H:=by
 have sub:∀a∈(os.set i []++[O0]).flatten,a∈(os++[O0]).flatten:=λ a ha=>by rw[<-q0X (by rw[b.len];exact hi)] at ha;exact (q0F ha).elim id λ z=>absurd z (by simp)
 have z:Ext (fz (os++[O0]).flatten H) (fz (os.set i []++[O0]).flatten H):=q2u sub;refine⟨⟨?_,λ a ha=>b.rel.there a (sub a ha),?_⟩,by simp[b.len],by simp[b.slen],b.ext,λ a ha=>?_⟩
 ·rw[<-q0X (by rw[b.len];exact hi)];exact q0j List.nodup_nil b.rel.nd λ a ha=>absurd ha (by simp)
 ·have:=q2t (x:=none) (y:=y) (as:=[]) (show q2q p H (fz (os.set i []++[O0]).flatten H) _ _ _ from rfl) i (q1F (Ext.refl H) z b.rel.slots)
  rwa [q0X (by rw[b.len];exact hi)] at this
 ·exact (q0F ha).elim (b.new a) λ z=>absurd z (by simp)
theorem Bd.setO {p:Pm}{H1:Hp}{sl:Sl}{v:V}{as:List Addr}(b:Bd p H0 O0 ρ σ os H) (hi:i < ρ.length) (x:Ext H H1) (nd:as.Nodup) (na:∀a∈as,H a=none)
  (th:∀a∈as,∃o,H1 a=some o) (h:q2q p H1 (fz ((os++[O0]).flatten++as) H1) (some sl) (some v) as) :
  Bd p H0 O0 (ρ.set i (some sl)) (σ.set i (some v)) (os.set i as) H1:=by
 have lt:i<os.length:=by rw[b.len];exact hi
 have sub:∀a∈(os.set i as++[O0]).flatten,a∈(os++[O0]).flatten++as:=λ a ha=>by rw[<-q0X lt] at ha;exact Qq.mpr (q0F ha)
 have y:Ext (fz ((os++[O0]).flatten++as) H1) (fz (os.set i as++[O0]).flatten H1):=q2u sub;have z:Ext (fz (os++[O0]).flatten H) (fz ((os++[O0]).flatten++as) H1):=λ c o e=>by
  unfold fz at e |-;split at e
  ·cases e
  ·rename_i n;rw[if_neg λ m=>?_]
   ·exact x _ _ e
   ·rcases Qq.mp m with m|m
    ·exact n m
    ·rw[na c m] at e;cases e
 have dis:∀a∈as,a∉(os++[O0]).flatten:=λ a ha hb=>by obtain⟨o,e⟩:=b.rel.there a hb;rw[na a ha] at e;cases e
 refine⟨⟨?_,λ a ha=>?_,?_⟩,by simp[b.len],by simp[b.slen],b.ext.trans x,λ a ha=>?_⟩
 ·rw[<-q0X lt];exact q0j nd b.rel.nd dis
 ·rcases Qq.mp (sub a ha) with m|m
  ·obtain⟨o,e⟩:=b.rel.there a m;exact⟨o,x _ _ e⟩
  ·exact th a m
 ·have:=q2t (q5f (Ext.refl H1) y h) i (q1F x (z.trans y) b.rel.slots)
  rwa [q0X lt] at this
 ·rcases q0F ha with m|m
  ·exact b.new a m
  ·cases e:H0 a with
   |none=>rfl
   |some o=>have:=b.ext a o e;rw[na a m] at this;cases this
noncomputable def FlR (p:Pm) (Hf:Hp):F->Flow->Prop
 | .nx,.next=>True
 | .brk,.brk=>True
 | .cont,.cont=>True
 | .ret d,.ret u=>∃v,RelV v u/\Rep p Hf d v
 |_,_=>False
section
variable {X:Cx}{p:Pm}{G:Nat->List D->R D}{sub:Nat->Nat->Bool}
def Es (X:Cx) (p:Pm) (H0:Hp) (O0:List Addr) (pins:List (Addr×Obj)) (r:RS) (e:Value) (s':Shared):Prop :=
 ∃c ρ' σ' os' H',r = .err c ρ'/\Bd p H0 O0 ρ' σ' os' H'/\Mid X p pins σ' H' c e s'
def Gs (X:Cx) (p:Pm) (H0:Hp) (O0:List Addr) (pins:List (Addr×Obj)) (r:RS) (f:Flow) (s':Shared):Prop :=
 ∃ρ' fl σ' os' H',r = .ok ρ' fl/\Bd p H0 O0 ρ' σ' os' H'/\Inv X pins σ' H' s'/\FlR p (fz O0 H') fl f
def SS (X:Cx) (p:Pm) (G:Nat->List D->R D) (sub:Nat->Nat->Bool) (st:Stmt) (l:S):Prop :=
 ∀(H0:Hp) (O0:List Addr) (E:Value->Shared->Prop),PassesOwn (model X.prog X.w) X.A X.env E->∀(pins:List (Addr×Obj)) (s:Shared) (σ:L2.St) (H:Hp) (ρ:Ev.Env) (os:List (List Addr)),Inv X pins σ H s->Bd p H0 O0 ρ σ os H->
  ex G sub l ρ ≠ .stuck->(∀e s',Es X p H0 O0 pins (ex G sub l ρ) e s'->E e s')->wpAny (model X.prog X.w) X.A (exec st X.env) (Gs X p H0 O0 pins (ex G sub l ρ)) E s
def SSs (X:Cx) (p:Pm) (G:Nat->List D->R D) (sub:Nat->Nat->Bool) (st:List Stmt) (l:List S):Prop :=
 ∀(H0:Hp) (O0:List Addr) (E:Value->Shared->Prop),PassesOwn (model X.prog X.w) X.A X.env E->∀(pins:List (Addr×Obj)) (s:Shared) (σ:L2.St) (H:Hp) (ρ:Ev.Env) (os:List (List Addr)),Inv X pins σ H s->Bd p H0 O0 ρ σ os H->
  exs G sub l ρ ≠ .stuck->(∀e s',Es X p H0 O0 pins (exs G sub l ρ) e s'->E e s')->wpAny (model X.prog X.w) X.A (execs st X.env) (Gs X p H0 O0 pins (exs G sub l ρ)) E s
theorem q5g {α:Type}{r:R α}{f:α->RS}(h:r.go ρ f ≠ .stuck):r ≠ .stuck:=λ e=>h (by rw[e];rfl)
theorem q3l {α:Type}{r:R α}{f:α->RS}{e:Value}{s':Shared}(B:Bd p H0 O0 ρ σ os H) (h:Er X p pins σ H r e s'):Es X p H0 O0 pins (r.go ρ f) e s':=by obtain⟨c,e1,m⟩:=h;exact⟨c,ρ,σ,os,H,by rw[e1];rfl,B,m⟩
theorem qEi:SSs X p G sub [] []:=λ H0 O0 E _ pins s σ H ρ os I B _ _=>wpAny_execs_nil ⟨ρ,.nx,σ,os,H,rfl,B,I,trivial⟩
theorem qCP {st:Stmt}{sts:List Stmt}{l:S}{ls:List S}(h1:SS X p G sub st l) (h2:SSs X p G sub sts ls):SSs X p G sub (st::sts) (l::ls):=by
 intro H0 O0 E hp pins s σ H ρ os I B hs hE;have e0:exs G sub (l::ls) ρ=(ex G sub l ρ).nx λ ρ'=>exs G sub ls ρ':=rfl;rw[e0] at hs hE |-;have ns:ex G sub l ρ ≠ .stuck:=λ e=>hs (by rw[e];rfl);refine wpAny_execs_cons (thn (h1 H0 O0 E hp pins s σ H ρ os I B ns (λ e s' ⟨c,ρ',σ',os',H',e1,B1,m⟩=>hE e s' ⟨c,ρ',σ',os',H',by rw[e1];rfl,B1,m⟩)) λ f s1 q=>?_);obtain⟨ρ1,fl,σ1,os1,H1,e1,B1,I1,r1⟩:=q;rw[e1] at hs hE |-;cases fl<;>cases f<;>first|exact r1.elim|skip
 ·exact h2 H0 O0 E hp pins s1 σ1 H1 ρ1 os1 I1 B1 hs hE
 ·exact⟨_,_,σ1,os1,H1,rfl,B1,I1,r1⟩
 ·exact⟨_,_,σ1,os1,H1,rfl,B1,I1,r1⟩
 ·exact⟨_,_,σ1,os1,H1,rfl,B1,I1,r1⟩
theorem qEj (he:SE X p G sub e l) (hsw:swapsWith e none pos.line X.env=pure false):SS X p G sub (.Expr e pos) (.expr l):=by intro H0 O0 E hp pins s σ H ρ os I B hs hE;have e0:ex G sub (.expr l) ρ=(ev G sub l ρ).go ρ λ _=> .ok ρ .nx:=rfl;rw[e0] at hs hE |-;refine wpAny_Expr_any (wpAny_mono (he pins s σ H ρ _ I B.rel (q5g hs)) (λ v s1 ⟨d,x,H1,e1,I1,r1,x1,q1⟩=>?_) (λ e s' z=>hE e s' (q3l B z))) I.quiet hsw;rw[e1];exact⟨ρ,.nx,σ,os,H1,rfl,B.mono x1,I1,trivial⟩
theorem qDk (he:SE X p G sub e l):SS X p G sub (.Return (some e) pos) (.ret l):=by intro H0 O0 E hp pins s σ H ρ os I B hs hE;have e0:ex G sub (.ret l) ρ=(ev G sub l ρ).go ρ λ d=> .ok ρ (.ret d):=rfl;rw[e0] at hs hE |-;refine wpAny_Return_some (wpAny_mono (he pins s σ H ρ _ I B.rel (q5g hs)) (λ v s1 ⟨d,x,H1,e1,I1,r1,x1,q1⟩=>?_) (λ e s' z=>hE e s' (q3l B z)));rw[e1];exact⟨ρ,.ret d,σ,os,H1,rfl,B.mono x1,I1,x,r1,q1.mono qEh⟩
theorem qHH {c:PySem.Expr}{a b:List Stmt}{lc:T}{la lb:List S}(hc:ST X p G sub c lc) (ha:SSs X p G sub a la) (hb:SSs X p G sub b lb):SS X p G sub (.If c a b pos) (.ifs lc la lb):=by
 intro H0 O0 E hp pins s σ H ρ os I B hs hE;have e0:ex G sub (.ifs lc la lb) ρ=(tst G sub lc ρ).go ρ λ t=>if t then exs G sub la ρ else exs G sub lb ρ:=rfl
 rw[e0] at hs hE |-;refine wpAny_If (wpAny_mono (hc _ pins s σ H ρ _ (.inl rfl) I B.rel (q5g hs)) (λ t s1 ⟨H1,e1,I1,x1⟩=>?_) (λ e s' z=>hE e s' (q3l B z)));rw[e1,q0A] at hs hE |-;cases t with
 |true=>exact ha H0 O0 E hp pins s1 σ H1 ρ os I1 (B.mono x1) hs hE
 |false=>exact hb H0 O0 E hp pins s1 σ H1 ρ os I1 (B.mono x1) hs hE
theorem qHI {x:Str}{pos':Pos}(hN:X.N.Nodup) (hi:X.N[i]? = some x) (hx:Loc X.env.scope x) (hf:X.fn x=true\/X.env.scope.names.lookup x=some .local) (he:SE X p G sub e l)
  (hsw:swapsWith e (some (.Name x pos')) pos.line X.env=pure false):SS X p G sub (.Assign [.Name x pos'] e pos) (.set i l):=by
 intro H0 O0 E hp pins s σ H ρ os I B hs hE;have e0:ex G sub (.set i l) ρ=(ev G sub l ρ).go ρ λ d=> .ok (ρ.set i (some (.val d))) .nx:=rfl;rw[e0] at hs hE |-;refine wpAny_Assign_Name (wpAny_mono (he pins s σ H ρ _ I B.rel (q5g hs)) (λ v s1 ⟨d,y,H1,e1,I1,r1,x1,q1⟩=>?_) (λ e s' z=>hE e s' (q3l B z))) hsw;rw[e1];have lt:i < ρ.length:=by rw[<-B.slen,I.len];exact (Qc.mp hi).1
 exact q1K I1 hN hi hx r1 (λ s2 I2=>⟨_,.nx,_,_,H1,rfl,(B.mono x1).setV lt q1,I2,trivial⟩) hf
theorem BOk.qCQ {pl:List (Addr×Obj)}{B:Heap}(b:BOk X (pins++pl) H B):BOk X pins H B :=
 ⟨b.hok,b.keep,b.there,λ q hq=>b.pin q ((Qq.mp hq).elim (λ z=>QM _ z) λ z=>Qr _ (QM _ z))⟩
theorem Mid.qCQ {pl:List (Addr×Obj)}{c:Nat}{e:Value}{s':Shared}(m:Mid X p (pins++pl) σ H c e s'):Mid X p pins σ H c e s':=by
 obtain⟨H',a,C,h1,h2,h3,h4⟩:=m;refine⟨H',a,C,h1,h2,h3,?_⟩;rcases h4 with ⟨s1,vs,q1,q2⟩|⟨B,t,q1,q2,q3⟩|⟨B,t,L,q0,q1,q2,q3⟩
 ·exact .inl ⟨s1,vs,q1.q16,q2⟩
 ·exact .inr (.inl ⟨B,t,q1.q16,q2.qCQ,q3⟩)
 ·exact .inr (.inr ⟨B,t,L,q0,q1.q16,q2.qCQ,q3⟩)
end
end Snd
namespace Snd
open PySem PySem.Spec PyProof.Rows L2 Ev
variable {Hf H H0:Hp}{vs:List V}{K:PySem.W.Frag}{d:Addr}{o:Obj}{kvs:List (Key×V)}{P:Program}{w:World}{u:Value}{i:Nat}{tg:Expr}{E:Value->Shared->Prop}{pins:List (Addr×Obj)}{s:Shared}{σ:L2.St}{os:List (List Addr)}{v:V}{x:Str}{l:L}{pos:Pos}{O0:List Addr}{ρ:Ev.Env}
structure Wk (J:It) (Hf:Hp) (vs:List V):Prop where
 go:∀i H',Ext Hf H'->i<vs.length->J.go i H'
 yld:∀i H' x H'',Ext Hf H'->i<vs.length->J.yld i H' x H''->H''=H'/\vs[i]? = some x
 stop:∀H',Ext Hf H'->J.stop vs.length H'
 sz:vs.length<=sizeLine
theorem Wk.mono {J:It}{Hf':Hp}(k:Wk J Hf vs) (x:Ext Hf Hf'):Wk J Hf' vs :=
 ⟨λ i H' y=>k.go i H' (x.trans y),λ i H' v H'' y=>k.yld i H' v H'' (x.trans y),λ H' y=>k.stop H' (x.trans y),k.sz⟩
theorem qEk {a:Addr}(h:SqL K Hf a vs) (z:vs.length<=sizeLine):Wk (Itl K a) Hf vs :=
 ⟨λ i H' x hi=>⟨vs,vs[i],x.sqL h,by simp[hi]⟩,λ i H' v H'' x _ y=>⟨y.1,y.2 vs (x.sqL h)⟩,λ H' x=>⟨vs,x.sqL h,Qf _⟩,z⟩
theorem qHJ {a:Addr}(h:SqT K Hf a vs) (z:vs.length<=sizeLine):Wk (Itt K a) Hf vs :=
 ⟨λ i H' x hi=>⟨vs,vs[i],x.sqT h,by simp[hi]⟩,λ i H' v H'' x _ y=>⟨y.1,y.2 vs (x.sqT h)⟩,λ H' x=>⟨vs,x.sqT h,Qf _⟩,z⟩
theorem qDl (lo:Int) (n:Nat) (z:n<=sizeLine):Wk (Itr lo n) Hf ((Qp n).map λ (k:Nat)=>V.int (lo+k)):=by
 refine⟨λ i H' _ hi=>?_,λ i H' v H'' _ hi y=>⟨y.1,?_⟩,λ H' _=>?_,by simpa using z⟩
 ·show i<n;simpa using hi
 ·have hi':i<n:=by simpa using hi
  rw[y.2];simp[hi']
 ·show n<=_;simp
noncomputable def Itd (d:Addr) (o:Obj) (kvs:List (Key×V)):It :=
 ⟨λ i H=>H d=some (.frz o (.dK kvs))/\i<kvs.length,λ i H x H'=>H'=H/\∃q,kvs[i]? = some q/\x=kV q.1,λ i H=>H d=some (.frz o (.dK kvs))/\kvs.length<=i⟩
theorem qEl (h:Hf d=some (.frz o (.dK kvs))) (z:kvs.length<=sizeLine):Wk (Itd d o kvs) Hf (kvs.map λ q=>kV q.1):=by refine⟨λ i H' x hi=>⟨x _ _ h,by simpa using hi⟩,λ i H' v H'' x _ y=>⟨y.1,?_⟩,λ H' x=>⟨x _ _ h,by simp⟩,by simpa using z⟩;obtain⟨q,e1,e2⟩:=y.2;rw[Qn,e1,e2];rfl
theorem qJb {k:Key}(h:(q0u P w).is k u=true):RelV (kV k) u:=by
 rcases q0O h with ⟨i,t,rfl,rfl⟩|⟨x,t,rfl,rfl⟩
 ·exact⟨t,rfl⟩
 ·exact⟨t,rfl⟩
theorem q5h {h:Heap}(ok:HOk P w H h) (e:H d=some (.frz o (.dK kvs))) :
  kvs.length<=sizeLine/\(d==sysModules)=false/\∃vs es ep,KV kvs vs/\o.data = .dict es ep/\h.DictAt (q0u P w) d vs ep:=by
 obtain⟨h1,z,hd,vs,rel,o',es,ep,h2,h3,h4,h5,h6,h7⟩:=ok d _ e;rw[h1] at h2;cases h2;exact⟨z,hd,vs,es,ep,rel,h4,o,es,h1,h3,h4,h5,h6,h7⟩
theorem KV.key {vs:List (Key×Value)}(r:KV kvs vs) {q:Key×V}(e:kvs[i]? = some q):∃u,vs[i]? = some (q.1,u):=by
 induction r generalizing i with
 |nil=>simp at e
 |@cons p p' ps ps' h t ih =>
  cases i with
  |zero=>simp at e;subst e;exact⟨p'.2,by simp[h.1]⟩
  |succ i=>simpa using ih (by simpa using e)
theorem qAX {it:Addr}{es:Array DictEntry}{ep:Nat}(hd:o.data = .dict es ep) :
  Turn P w K tg (Itd d o kvs) [it] it (λ i h=>h.IsKeyIter it d i kvs.length ep) where
 mem:=by simp
 obj:=λ i h st b hb=>by
  have e:b=it:=by simpa using hb
  subst e;obtain⟨o,e,c,d⟩:=st;exact⟨o,e,λ v z=>by rw[d] at z;cases z⟩
 keep:=λ i h h' st k=>st.at λ o e=>k it (by simp) o e
 item:=by intro X hP hw hK hc i pins s σ H E I hf st hg;subst hP hw hK;obtain⟨hq,hi⟩:=hg;obtain⟨z,hd',vs,es',ep',rel,dd,hm⟩:=q5h I.hok hq;rw[hd] at dd;cases dd;have hl:=KV.length rel;obtain⟨u,hu⟩:=KV.key rel (i:=i) (q:=kvs[i]) (by simp[hi]);obtain⟨f0,f1,f2,f3,f4,f5⟩:=hf it (by simp);refine wpAny_pyNext_dict_item (hl▸st) hm hu λ key h' hkey st' sb=>?_;have I1:Inv X pins σ H {s with heap:=h'}:=I.turned (t':=s.toks) (λ b o hb e=>(sb.2 b hb).trans e) f0 f1 f3 f4 f5;obtain⟨o1,e,c,d1⟩:=id st';exact⟨key,rfl,qA0 (s:={s with heap:=h'}) e c d1 (by decide) ⟨kV (kvs[i]).1,H,I1,qJb hkey,⟨rfl,_,by simp[hi],rfl⟩,hl▸st',λ b hb=>(hf b hb).1⟩⟩
 done:=by intro X hP hw hK hc i pins s σ H E I hf st hg;subst hP hw hK;obtain⟨hq,hi⟩:=hg;obtain⟨z,hd',vs,es',ep',rel,dd,hm⟩:=q5h I.hok hq;rw[hd] at dd;cases dd;have hl:=KV.length rel;obtain⟨f0,f1,f2,f3,f4,f5⟩:=hf it (by simp);exact wpAny_pyNext_dict_end (I.ok.hd hc) (hl▸st) hm (by rw[Q3];lia) λ h' eb=>⟨rfl,I.turned (t':=s.toks) (λ b o hb e=>eb b o hb e) f0 f1 f3 f4 f5⟩
 self:=λ _ _ _ _ _ st h=>wpAny_pyIter_keyiter st h
def Gi (X:Cx) (p:Pm) (fr:Bool) (tg:Expr) (pins:List (Addr×Obj)) (σ:L2.St) (os:List (List Addr)) (H:Hp) (r:R (List D)) (itv:Value) (s2:Shared):Prop :=
 ∃ds,r = .ok ds/\PIE X pins σ tg (λ J H'=>Ext H H'/\∃vs,RepL p (fz os.flatten H') ds vs/\Wk J (if fr then fz os.flatten H' else H') vs) itv s2
def SI (X:Cx) (p:Pm) (G:Nat->List D->R D) (sub:Nat->Nat->Bool) (fr:Bool) (tg e:PySem.Expr) (l:I):Prop :=
 ∀(pins:List (Addr×Obj)) (s:Shared) (σ:L2.St) (H:Hp) (ρ:Ev.Env) (os:List (List Addr)),Inv X pins σ H s->Rel p ρ σ os H->evi G sub l ρ ≠ .stuck->
  wpAny (model X.prog X.w) X.A (eval e X.env) (λ v s1=>wpAny (model X.prog X.w) X.A (pyIter v) (Gi X p fr tg pins σ os H (evi G sub l ρ)) (Er X p pins σ H (evi G sub l ρ)) s1) (Er X p pins σ H (evi G sub l ρ)) s
section
variable {X:Cx}{p:Pm}{G:Nat->List D->R D}{sub:Nat->Nat->Bool}
theorem q8Y {Hf:Hp}:∀{kvs:List (Key×V)},(ints? (kvs.map λ q=>keyD q.1)).isSome=true->RepL p Hf (kvs.map λ q=>keyD q.1) (kvs.map λ q=>kV q.1)
 |[],_=>rfl
 |(.inl i,v)::r,h=>by refine⟨.int i,_,rfl,rfl,q8Y ?_⟩;have h':((ints? (r.map λ q=>keyD q.1)).map (i::·)).isSome=true:=h;simpa using h'
 |(.inr x,v)::r,h=>by simp[keyD,ints?] at h
theorem q8Z {fr:Bool}(hK:p.K=X.K) {xs:List D}(I:Inv X pins σ H s) (x0:Ext H0 H) (rv:RelV v u)
  (q:Rep p (fz os.flatten H) (.tup xs) v):wpAny (model X.prog X.w) X.A (pyIter u) (Gi X p fr tg pins σ os H0 (.ok xs)) E s:=by
 obtain⟨a,vs,rfl,s1,z,r1⟩:=q;cases rv;have s1':SqT X.K H a vs:=hK▸q0V.sqT s1;obtain⟨its,rv,pt,hz⟩:=I.tuple s1';refine wpAny_pyIter_tuple (show s.heap.IsTuple a its.toArray from pt) ?_;refine⟨xs,rfl,s.heap.objs.size,[s.heap.objs.size],_,_,H,rfl,I.kept (t':=s.toks) λ b o e=>Heap.get?_push_of_some _ e,q9K a _,⟨_,Heap.get?_push_size _ rfl,rfl,rfl⟩,λ b hb=>?_,x0,vs,r1,?_⟩
 ·have e:b=s.heap.objs.size:=by simpa using hb
  subst e;exact I.fpOk (Qf _) (I.hok.fresh (Qf _))
 ·have:=qHJ (hK▸s1:SqT X.K (fz os.flatten H) a vs) hz;cases fr
  ·exact this.mono q0V
  ·exact this
theorem q8a {fr:Bool}(hK:p.K=X.K) {xs:List D}(I:Inv X pins σ H s) (x0:Ext H0 H) (rv:RelV v u)
  (q:∃a vs,v = .ref a/\SqL p.K (if fr then fz os.flatten H else H) a vs/\RepL p (fz os.flatten H) xs vs):wpAny (model X.prog X.w) X.A (pyIter u) (Gi X p fr tg pins σ os H0 (.ok xs)) E s:=by
 obtain⟨a,vs,rfl,s1,r1⟩:=q;cases rv;have s1':SqL X.K H a vs:=by
  cases fr
  ·exact hK▸s1
  ·exact hK▸q0V.sqL s1
 obtain⟨its,rv,pt,hz⟩:=I.list s1';refine wpAny_pyIter_list pt.isList ?_;refine⟨xs,rfl,s.heap.objs.size,[s.heap.objs.size],_,_,H,rfl,I.kept (t':=s.toks) λ b o e=>Heap.get?_push_of_some _ e,qA1 a _,⟨_,Heap.get?_push_size _ rfl,rfl,rfl⟩,λ b hb=>?_,x0,vs,r1,?_⟩
 ·have e:b=s.heap.objs.size:=by simpa using hb
  subst e;exact I.fpOk (Qf _) (I.hok.fresh (Qf _))
 ·exact qEk (hK▸s1) hz
theorem qCR {ks ws:List D}(I:Inv X pins σ H s) (x0:Ext H0 H) (rv:RelV v u) (hki:(ints? ks).isSome=true)
  (q:Rep p (fz os.flatten H) (.dct ks ws) v):wpAny (model X.prog X.w) X.A (pyIter u) (Gi X p true tg pins σ os H0 (.ok ks)) E s:=by
 obtain⟨a,kvs,o,rfl,s1,rfl,r1⟩:=q;cases rv;obtain⟨z,hd,vs,es,ep,rel,dd,hm⟩:=q5h I.hok (q0V _ _ s1);refine wpAny_pyIter_dict hd hm ?_;have hl:=KV.length rel;refine⟨_,rfl,s.heap.objs.size,[s.heap.objs.size],_,Itd a o kvs,H,rfl,I.kept (t':=s.toks) λ b o e=>Heap.get?_push_of_some _ e,qAX dd,⟨_,Heap.get?_push_size _ rfl,rfl,by rw[hl];rfl⟩,λ b hb=>?_,x0,_,q8Y hki,qEl s1 z⟩;have e:b=s.heap.objs.size:=by simpa using hb
 subst e;exact I.fpOk (Qf _) (I.hok.fresh (Qf _))
noncomputable def Its (x:Str):It:=⟨λ i _=>i<x.cps.size,λ i H v H'=>H'=H/\∃c,x.cps[i]? = some c/\v = .str (mkS [c]),λ i _=>x.cps.size<=i⟩
theorem qDm (x:Str) (z:x.length<=big):Wk (Its x) Hf (x.cps.toList.map λ c=>V.str (mkS [c])):=by
 refine⟨λ i H' _ hi=>?_,λ i H' v H'' _ hi y=>⟨y.1,?_⟩,λ H' _=>?_,?_⟩
 ·show i<x.cps.size;simpa using hi
 ·obtain⟨c,h1,rfl⟩:=y.2;rw[Qn,Array.getElem?_toList,h1];rfl
 ·show x.cps.size<=_;simp
 ·rw[Qe,Array.length_toList];exact Qt z q0W
theorem q7e {Hf:Hp}:∀(l:List Nat),RepL p Hf (l.map λ c=>D.str (mkS [c])) (l.map λ c=>V.str (mkS [c]))
 |[]=>rfl
 |c::l=>⟨_,_,rfl,⟨rfl,by show 1<=big;decide⟩,q7e l⟩
theorem q8b {P:Program}{w:World}{K:PySem.W.Frag}{tg:Expr}{T:String}(hn:["enumerate", "zip", "dict_itemiterator", "dict_reverseitemiterator", "odict_iterator", "itertools.zip_longest", "itertools.pairwise"].contains T=false) (it:Addr) (x:Str) (t:Tok)
  (hit:∀(A:Around) (E:Value->Shared->Prop) (s:Shared) (i c:Nat) (Q:Option Value->Shared->Prop),s.heap.IsStrIter it T x t i->x.cps[i]? = some c->(∀h',h'.IsStrIter it T x t (i+1)->Heap.SameBut it s.heap h'->Q (some (.str ⟨#[c]⟩ s.toks)) {s with heap:=h',toks:=s.toks+1})->wpAny (model P w) A (pyNext (.ref it)) Q E s)
  (hend:∀(A:Around) (E:Value->Shared->Prop) (s:Shared) (i:Nat) (Q:Option Value->Shared->Prop),A.handled=none->s.heap.IsStrIter it T x t i->x.cps[i]? = none->(∀h',Heap.ExtBut it s.heap h'->Q none {s with heap:=h'})->wpAny (model P w) A (pyNext (.ref it)) Q E s)
  (hself:∀(A:Around) (i:Nat) (s:Shared) (Q:Value->Shared->Prop) (E:Value->Shared->Prop),s.heap.IsStrIter it T x t i->Q (.ref it) s->wpAny (model P w) A (pyIter (.ref it)) Q E s) :
  Turn P w K tg (Its x) [it] it (λ i h=>h.IsStrIter it T x t i) where
 mem:=by simp
 obj:=λ i h st b hb=>by
  have e:b=it:=by simpa using hb
  subst e;obtain⟨o,e,c,d⟩:=st;exact⟨o,e,λ v z=>by rw[d] at z;cases z⟩
 keep:=λ i h h' ⟨o,e,c,d⟩ k=>⟨o,k it (by simp) o e,c,d⟩
 item:=by intro X hP hw hK hc i pins s σ H E I hf st hg;subst hP hw hK;obtain⟨f0,f1,f2,f3,f4,f5⟩:=hf it (by simp);have hg:i<x.cps.size:=hg;refine hit _ _ s i x.cps[i] _ st (by simp[hg]) λ h' st' sb=>?_;have I1:Inv X pins σ H {s with heap:=h',toks:=s.toks+1}:=I.turned (t':=s.toks+1) (λ b o hb e=>(sb.2 b hb).trans e) f0 f1 f3 f4 f5;obtain⟨o,e,c,d⟩:=id st';exact⟨_,rfl,qA0 (s:={s with heap:=h',toks:=s.toks+1}) e c d hn ⟨.str (mkS [x.cps[i]]),H,I1,⟨_,rfl⟩,⟨rfl,_,by simp[hg],rfl⟩,st',λ b hb=>(hf b hb).1⟩⟩
 done:=by intro X hP hw hK hc i pins s σ H E I hf st hg;subst hP hw hK;obtain⟨f0,f1,f2,f3,f4,f5⟩:=hf it (by simp);have hg:x.cps.size<=i:=hg;exact hend _ _ s i _ (I.ok.hd hc) st (by simp;lia) λ h' eb=>⟨rfl,I.turned (t':=s.toks) (λ b o hb e=>eb b o hb e) f0 f1 f3 f4 f5⟩
 self:=λ A i s Q E st h=>hself A i s Q E st h
theorem qCS (I:Inv X pins σ H s) (x0:Ext H0 H) (rv:RelV v u) (q:Rep p (fz os.flatten H) (.str x) v) :
  wpAny (model X.prog X.w) X.A (pyIter u) (Gi X p true tg pins σ os H0 (.ok (chrs x))) E s:=by
 obtain⟨rfl,zz⟩:=q;obtain⟨t,rfl⟩:=rv;have fp:∀b∈[s.heap.objs.size],FpOk X pins H b:=λ b hb=>by
  have e:b=s.heap.objs.size:=by simpa using hb
  subst e;exact I.fpOk (Qf _) (I.hok.fresh (Qf _))
 cases ha:x.cps.all (·<128)
 ·refine wpAny_pyIter_wide ha ?_;exact⟨_,rfl,s.heap.objs.size,[s.heap.objs.size],_,Its x,H,rfl,I.kept (t':=s.toks) λ b o e=>Heap.get?_push_of_some _ e,q8b (T := "str_iterator") (by decide) _ x t (λ A E s i c Q h1 h2 h3=>wpAny_pyNext_wide_item h1 h2 h3) (λ A E s i Q h0 h1 h2 h3=>wpAny_pyNext_wide_end h0 h1 h2 h3) (λ A i s Q E h1 h2=>wpAny_pyIter_striter_wide h1 h2),⟨_,Heap.get?_push_size _ rfl,rfl,rfl⟩,fp,x0,_,q7e _,qDm x zz⟩
 ·refine wpAny_pyIter_ascii ha ?_;exact⟨_,rfl,s.heap.objs.size,[s.heap.objs.size],_,Its x,H,rfl,I.kept (t':=s.toks) λ b o e=>Heap.get?_push_of_some _ e,q8b (T := "str_ascii_iterator") (by decide) _ x t (λ A E s i c Q h1 h2 h3=>wpAny_pyNext_ascii_item h1 h2 h3) (λ A E s i Q h0 h1 h2 h3=>wpAny_pyNext_ascii_end h0 h1 h2 h3) (λ A i s Q E h1 h2=>wpAny_pyIter_striter_ascii h1 h2),⟨_,Heap.get?_push_size _ rfl,rfl,rfl⟩,fp,x0,_,q7e _,qDm x zz⟩
theorem si_e {tg e:PySem.Expr}(hK:p.K=X.K) (h:SE X p G sub e l):SI X p G sub true tg e (.e l):=by
 intro pins s σ H ρ os I R hs;rw[q5V] at hs |-;refine wpAny_mono (h pins s σ H ρ os I R (q07 hs)) (λ v s1 ⟨d,x,H1,e1,I1,r1,x1,q1⟩=>?_) (λ e s' z=>z.bind);rw[e1,q00] at hs |-;cases d<;>first
  |exact absurd rfl hs
  |skip
 ·exact qCS I1 x1 r1 q1
 ·exact q8Z hK I1 x1 r1 q1
 ·exact q8a (fr:=true) hK I1 x1 r1 q1
 ·rename_i ks ws;cases hki:(ints? ks).isSome with
  |true =>
   have e0:q2i (.dct ks ws) = .ok ks:=(by simp[q2i,hki]);rw[e0];exact qCR I1 x1 r1 hki q1
  |false=>exact absurd (by simp[q2i,hki]) hs
theorem si_b {tg:PySem.Expr}(hK:p.K=X.K) (hN:X.N[i]? = some x) (hv:Vis X.env.scope x) (hd:(x==("__debug__":Str))=false) (hcd:(x==("__classdict__":Str))=false):SI X p G sub false tg (.Name x pos) (.b i):=by
 intro pins s σ H ρ os I R hs;rw[qJ7] at hs |-;refine wpAny_mono (qDj (G:=G) (sub:=sub) hN hv hd hcd pins s σ H ρ os I R (q07 hs)) (λ v s1 ⟨d,x,H1,e1,I1,r1,x1,q1⟩=>?_) (λ e s' z=>z.bind);rw[qDa] at e1;rw[e1,q00] at hs |-;cases d<;>first
  |exact absurd rfl hs
  |skip
 ·exact q8Z hK I1 x1 r1 q1
 ·exact q8a (fr:=false) hK I1 x1 r1 q1
theorem q7f {Hf:Hp}(lo:Int):∀(l:List Nat),RepL p Hf (l.map λ (k:Nat)=>D.int (lo+k)) (l.map λ (k:Nat)=>V.int (lo+k))
 |[]=>rfl
 |k::l=>⟨_,_,rfl,rfl,q7f lo l⟩
theorem rng0 (n:Nat):(Qp n).map (λ (k:Nat)=>D.int k)=(Qp n).map (λ (k:Nat)=>D.int (0+k)):=by simp
theorem q7g {ρ:Ev.Env}:∀{ls:List L}{ds:List D},evs G sub ls ρ = .ok ds->ds.length=ls.length
 |[],ds,e=>by cases e;rfl
 |l::ls,ds,e=>by
  rw[q0E] at e;cases h:ev G sub l ρ with
  |ok d =>
   rw[h,q00] at e;cases h2:evs G sub ls ρ with
   |ok ds'=>rw[h2,q00] at e;cases e;simp[q7g h2]
   |err c=>rw[h2] at e;cases e
   |stuck=>rw[h2] at e;cases e
  |err c=>rw[h] at e;cases e
  |stuck=>rw[h] at e;cases e
theorem q6W {tg a:PySem.Expr}{q:Pos}(hg:Gl X "range") (hm:X.mg "range" = none) (ha:SA X p G sub [a] [l]) (hst:starEach [a] X.env=[(false,eval a X.env)]):SI X p G sub true tg (.Call (.Name "range" q) [a] [] pos) (.rng [l]):=by
 intro pins s σ H ρ os I R hs;rw[q21] at hs |-;refine Call_ (q1r I hg hm boot_range (PyProof.Rows.callWith_type1 (wpAny_mono (ha pos pins s σ H ρ os I R (q07 hs)) (λ us s1 ⟨ds,vs,H1,e1,I1,r1,x1,q1⟩=>?_) (λ e s' z=>z.bind)) hst rfl));have hl:=q7g e1;rw[e1,q00] at hs |-;unfold rngD at hs |-;split at hs
 ·rename_i j;split at hs
  ·rename_i hj;obtain⟨v,r,rfl,h1,h2⟩:=q1;cases (show v=_ from h1);cases (show r=[] from h2);cases r1 with
   |cons ra rb =>
    cases rb;obtain⟨t,rfl⟩:=ra;rw[if_pos hj];refine call_range_1 (wpAny_mono (q89 (tg:=tg) (R:=λ J H'=>H'=H1/\J=Itr 0 j.toNat) (E:=λ _ _=>False) I1 (by lia) (by lia) hj.1 (by lia) ⟨rfl,by simp⟩) (λ itv s2 h=>?_) (λ _ _ z=>z.elim));obtain⟨it,fp,tn,J,H',e2,I2,T,st,f,rfl,rfl⟩:=h;refine⟨_,rfl,it,fp,tn,_,H',e2,I2,T,st,f,x1,_,?_,(qDl 0 j.toNat (by have:=sizeLine_eq;lia))⟩;rw[rng0];exact q7f 0 _
  ·exact absurd rfl hs
 ·simp at hl
 ·exact absurd rfl hs
theorem q6X {tg a b:PySem.Expr}{m:L}{q:Pos}(hg:Gl X "range") (hm:X.mg "range" = none) (ha:SA X p G sub [a,b] [l,m]) (hst:starEach [a,b] X.env=[(false,eval a X.env),(false,eval b X.env)]) (hs2:starEach [b] X.env=[(false,eval b X.env)]) :
  SI X p G sub true tg (.Call (.Name "range" q) [a,b] [] pos) (.rng [l,m]):=by
 intro pins s σ H ρ os I R hs;rw[q21] at hs |-;refine Call_ (q1r I hg hm boot_range (PyProof.Rows.callWith_type1 (wpAny_mono (ha pos pins s σ H ρ os I R (q07 hs)) (λ us s1 ⟨ds,vs,H1,e1,I1,r1,x1,q1⟩=>?_) (λ e s' z=>z.bind)) (by rw[hst,hs2]) (by rw[hs2];rfl)));have hl:=q7g e1;rw[e1,q00] at hs |-;unfold rngD at hs |-;split at hs
 ·simp at hl
 ·rename_i i j;split at hs
  ·rename_i hj;obtain⟨v,r,rfl,h1,h2⟩:=q1;obtain⟨v2,r2,rfl,h3,h4⟩:=h2;cases (show v=_ from h1);cases (show v2=_ from h3);cases (show r2=[] from h4);cases r1 with
   |cons ra rb =>
    cases rb with
    |cons rc rd =>
    cases rd;obtain⟨t,rfl⟩:=ra;obtain⟨t',rfl⟩:=rc;rw[if_pos hj];refine call_range_2 (wpAny_mono (q89 (tg:=tg) (R:=λ J H'=>H'=H1/\J=Itr i (j-i).toNat) (E:=λ _ _=>False) I1 hj.1 hj.2.1 hj.2.2.1 hj.2.2.2.1 ⟨rfl,rfl⟩) (λ itv s2 h=>?_) (λ _ _ z=>z.elim));obtain⟨it,fp,tn,J,H',e2,I2,T,st,f,rfl,rfl⟩:=h;exact⟨_,rfl,it,fp,tn,_,H',e2,I2,T,st,f,x1,_,q7f i _,(qDl i (j-i).toNat (by have:=sizeLine_eq;lia))⟩
  ·exact absurd rfl hs
 ·exact absurd rfl hs
def SG (X:Cx) (p:Pm) (tg:PySem.Expr) (k:Nat) (is:List Nat):Prop :=
 ∀(E:Value->Shared->Prop) (H0:Hp) (O0:List Addr) (pins:List (Addr×Obj)) (s:Shared) (σ:L2.St) (H:Hp) (ρ:Ev.Env) (os:List (List Addr)) (d:D) (xs:List D) (v:V) (u:Value),Inv X pins σ H s->Bd p H0 O0 ρ σ os H->RelV v u->
  Rep p (fz (os++[O0]).flatten H) d v->unp k d = .ok xs->wpAny (model X.prog X.w) X.A (assign tg X.env u) (λ _ s'=>∃σ' os',Inv X pins σ' H s'/\Bd p H0 O0 (q2N is xs ρ) σ' os' H) E s
theorem qEm (hN:X.N.Nodup) (hi:X.N[i]? = some x) (hx:Loc X.env.scope x) (hf:X.fn x=true\/X.env.scope.names.lookup x=some .local):SG X p (.Name x pos) 0 [i]:=by
 intro E H0 O0 pins s σ H ρ os d xs v u I B rv q e;cases e;have lt:i < ρ.length:=by rw[<-B.slen,I.len];exact (Qc.mp hi).1
 exact wpAny_assign_Name (q1K I hN hi hx rv (λ s2 I2=>⟨_,_,I2,B.setV lt q⟩) hf)
theorem qHK {j:Nat}{y:Str}{px py:Pos}{k1:Nat}(hK:p.K=X.K) (hc:X.calm=true) (hN:X.N.Nodup) (hi:X.N[i]? = some x) (hx:Loc X.env.scope x) (hf:X.fn x=true\/X.env.scope.names.lookup x=some .local)
  (hj:X.N[j]? = some y) (hy:Loc X.env.scope y) (hf2:X.fn y=true\/X.env.scope.names.lookup y=some .local):SG X p (.Tuple [.Name x px,.Name y py] k1 pos) 2 [i,j]:=by
 intro E H0 O0 pins s σ H ρ os d xs v u I B rv q e;cases d<;>first
  |(exfalso;unfold unp at e;rw[if_neg (by decide)] at e;cases e;done)
  |skip
 rename_i ds;unfold unp at e;rw[if_neg (by decide)] at e;dsimp only at e;split at e
 ·rename_i hl;cases e;obtain⟨a,vs,rfl,s1,z,r1⟩:=q;obtain⟨d1,d2,rfl⟩:∃d1 d2,xs=[d1,d2]:=by
   match xs,hl with
   |[d1,d2],_=>exact⟨d1,d2,rfl⟩
  ·obtain⟨v1,r,rfl,q1,h2⟩:=r1;obtain⟨v2,r2,rfl,q2,h4⟩:=h2;cases (show r2=[] from h4);have lt:i < ρ.length:=(by rw[<-B.slen,I.len];exact (Qc.mp hi).1);have lt2:j < ρ.length:=(by rw[<-B.slen,I.len];exact (Qc.mp hj).1);refine wpAny_mono (qDW (X:=X.wish E) (n:=2) hc (q3o (q5N (X:=X.wish E) hN hi hx hf) (q3o (q5N (X:=X.wish E) hN hj hy hf2) q9z rfl) rfl) rfl rfl pins s σ H (.ref a) u (λ σ' H'=>H'=H/\σ'=(σ.set i (some v1)).set j (some v2)) (I.wish E) rv
    ⟨a,[v1,v2],rfl,hK▸q0V.sqT s1,rfl,v1,[v2],rfl,v2,[],rfl,rfl,rfl,rfl⟩) (λ _ s' h=>?_) (λ _ _ z=>z)
   obtain⟨σ',H',I',rfl,rfl⟩:=h;have B1:=B.setV lt q1;have sub:∀a∈(os.set i []++[O0]).flatten,a∈(os++[O0]).flatten:=λ a ha=>by rw[<-q0X (by rw[B.len];exact lt)] at ha;exact (q0F ha).elim id λ z=>absurd z (by simp)
   exact⟨_,_,I'.q45,B1.setV (by simpa using lt2) (q2.mono (q2u sub))⟩
 ·cases e
theorem Bd.refr (b:Bd p H0 O0 ρ σ os H):Bd p (fz os.flatten H) O0 ρ σ os H/\Ext H0 (fz os.flatten H) :=
 ⟨⟨b.rel,b.len,b.slen,q0V,λ a ha=>by unfold fz;rw[if_pos ha]⟩,λ a o e=>q1N (b.ext a o e) λ m=>by rw[b.new a m] at e;cases e⟩
theorem Bd.back {H0':Hp}(b:Bd p H0' O0 ρ σ os H) (x:Ext H0 H0'):Bd p H0 O0 ρ σ os H :=
 ⟨b.rel,b.len,b.slen,x.trans b.ext,λ a ha=>by
  cases e:H0 a with
  |none=>rfl
  |some o=>have:=x a o e;rw[b.new a ha] at this;cases this⟩
theorem Bd.kept {os2:List (List Addr)}{H2:Hp}(b:Bd p (fz os2.flatten H2) O0 ρ σ os H):Ext (fz (os2++[O0]).flatten H2) (fz (os++[O0]).flatten H):=λ a o e=>by
 unfold fz at e;split at e
 ·cases e
 ·rename_i n;rw[q0q] at n;have e':fz os2.flatten H2 a=some o:=q1N e λ m=>n (QM _ m);refine q1N (b.ext a o e') λ m=>?_;rw[q0q] at m;rcases Qq.mp m with m|m
  ·rw[b.new a m] at e';cases e'
  ·exact n (Qr _ m)
theorem qEn (k:Nat) (d:D):unp k d = .stuck\/∃xs,unp k d = .ok xs:=by
 unfold unp;split
 ·exact .inr ⟨_,rfl⟩
 ·split
  ·split
   ·exact .inr ⟨_,rfl⟩
   ·exact .inl rfl
  ·exact .inl rfl
theorem qHL {tg iter:PySem.Expr}{body:List Stmt}{k:Nat}{is:List Nat}{li:I}{lb:List S}(hc:X.calm=true) (hi:SI X p G sub true tg iter li) (hg:SG X p tg k is) (hb:SSs X p G sub body lb) (hfs:∀x,foldedSetIterable iter X.env x=pure x) :
  SS X p G sub (.For tg iter body [] pos) (.forr k is li lb):=by
 intro H0 O0 E hp pins s σ H ρ os I B hs hE;have e0:ex G sub (.forr k is li lb) ρ=(evi G sub li ρ).go ρ λ ds=>q0m (exs G sub lb) k is ds ρ:=rfl;rw[e0] at hs hE |-;refine wpAny_For (wpAny_mono (hi pins s σ H ρ _ I B.rel (q5g hs)) (λ v s1 h1=>wpAny_mono h1 (λ itv s2 h2=>?_) (λ e s' z=>hE e s' (q3l B z))) (λ e s' z=>hE e s' (q3l B z))) hfs;obtain⟨ds,e1,it,fp,tn,J,H2,rfl,I2,T,st2,f2,x2,vs,rep,wk⟩:=h2;rw[e1,q0A] at hs hE |-;rw[if_pos rfl] at wk;have B2:=B.mono x2;obtain⟨B2',x02⟩:=B2.refr;have hlen:ds.length=vs.length:=rep.length;generalize hr:q0m (exs G sub lb) k is ds ρ=r at hs hE |-;have stat:∀{H':Hp},(∀b∈fp,H' b=none)->∀b∈fp,FpOk X pins H' b:=λ hn b hb=>⟨hn b hb,(f2 b hb).2⟩
 refine codeAny_forLoop_any (λ n s'=>∃i ρ' σ' os' H',Inv X pins σ' H' s'/\tn i s'.heap/\(∀b∈fp,H' b=none)/\Bd p (fz os.flatten H2) O0 ρ' σ' os' H'/\q0m (exs G sub lb) k is (ds.drop i) ρ'=r/\n=ds.length-i/\i<=ds.length) ?_ ds.length
  ⟨0,ρ,σ,os,H2,I2,st2,λ b hb=>(f2 b hb).1,B2',by simpa using hr,by simp,QK _⟩
 rintro n s3 ⟨i,ρ3,σ3,os3,H3,I3,st3,fr3,B3,w3,rfl,hi3⟩;have xw:Ext (fz (os++[O0]).flatten H2) H3:=B3.kept.trans q0V
 by_cases hlt:i<ds.length
 ·have hd:ds.drop i=ds[i]::ds.drop (i+1):=List.drop_eq_getElem_cons hlt;rw[hd] at w3;have w3':(unp k ds[i]).go ρ3 (λ xs=>(exs G sub lb (q2N is xs ρ3)).turn λ ρ'=>q0m (exs G sub lb) k is (ds.drop (i+1)) ρ')=r:=w3;rcases qEn k ds[i] with hu|⟨xs,hu⟩
  ·rw[hu] at w3';exact absurd w3'.symm hs
  rw[hu,q0A] at w3';refine wpAny_passesOwn hp (wpAny_mono (T.item X rfl rfl rfl hc i pins s3 σ3 H3 E I3 (stat fr3) st3 (wk.go i H3 xw (hlen▸hlt))) (λ r4 s4 ⟨u,hr4,h4⟩=>?_) (λ _ _ z=>z));subst hr4;refine wpAny_passesOwn hp (wpAny_mono h4 (λ _ s5 ⟨x,H5,I5,r5,y5,st5,fr5⟩=>?_) (λ _ _ z=>z));obtain⟨rfl,hx⟩:=wk.yld i H3 x H5 xw (hlen▸hlt) y5;obtain⟨v',hv',rv'⟩:=rep.get (i:=i) (d:=ds[i]) (by simp[hlt]);rw[hx] at hv';cases hv';have I5':=I5.pinned (stat fr5) (T.obj _ _ st5);refine wpAny_passesOwn hp (wpAny_mono (hg E _ O0 _ s5 σ3 H5 ρ3 os3 ds[i] xs x u I5' B3 r5 (rv'.mono B3.kept) hu) (λ _ s6 ⟨σ6,os6,I6,B6⟩=>?_) (λ _ _ z=>z));have ns:exs G sub lb (q2N is xs ρ3) ≠ .stuck:=λ e=>hs (by rw[<-w3',e];rfl);refine wpAny_passesOwn hp (wpAny_mono (hb _ O0 E hp _ s6 σ6 H5 (q2N is xs ρ3) os6 I6 B6 ns (λ e s' z=>hE e s' ?_)) (λ f s7 q7=>?_) (λ _ _ z=>z))
  ·obtain⟨c,ρ',σ',os',H',z1,z2,z3⟩:=z;exact⟨c,ρ',σ',os',H',by rw[<-w3',z1];rfl,z2.back x02,z3.qCQ⟩
  ·obtain⟨ρ7,fl,σ7,os7,H7,e7,B7,I7,r7⟩:=q7;rw[e7] at w3';have again:q0m (exs G sub lb) k is (ds.drop (i+1)) ρ7=r->∃m,m<ds.length-i/\∃i ρ' σ' os' H',Inv X pins σ' H' s7/\tn i s7.heap/\(∀b∈fp,H' b=none)/\Bd p (fz os.flatten H2) O0 ρ' σ' os' H'/\q0m (exs G sub lb) k is (ds.drop i) ρ'=r/\m=ds.length-i/\i<=ds.length:=λ w7=>by refine⟨ds.length-(i+1),by lia,i+1,ρ7,σ7,os7,H7,I7.q16,T.keep _ _ _ st5 λ b hb o e=>(I7.pin (b,o) (Qr _ (Qr _ (q2D hb e)))).1,λ b hb=>?_,B7,w7,rfl,hlt⟩;obtain⟨o,e,d⟩:=T.obj _ _ st5 b hb;exact (I7.pin (b,o) (Qr _ (Qr _ (q2D hb e)))).2.1
   cases fl<;>cases f<;>first|exact r7.elim|skip
   ·exact again w3'
   ·exact⟨ρ7,.nx,σ7,os7,H7,w3'.symm,B7.back x02,I7.q16,trivial⟩
   ·exact again w3'
   ·exact⟨ρ7,_,σ7,os7,H7,w3'.symm,B7.back x02,I7.q16,r7⟩
 ·have ei:i=ds.length:=by lia
  subst ei;refine wpAny_passesOwn hp (wpAny_mono (T.done X rfl rfl rfl hc ds.length pins s3 σ3 H3 E I3 (stat fr3) st3 (hlen▸wk.stop H3 xw)) (λ r4 s4 ⟨hr4,I4⟩=>?_) (λ _ _ z=>z));subst hr4;rw[List.drop_length] at w3;exact wpAny_execs_nil ⟨ρ3,.nx,σ3,os3,H3,w3.symm,B3.back x02,I4,trivial⟩
end
end Snd
namespace Snd
open PySem PySem.Spec PyProof.Rows L2 Ev
noncomputable def cxC (X:Cx) (s2:Shared) (H2:Hp) (sc:Scope) (cl:List (Str×Addr)) (C:Addr) (N':List Str) (fp:List Addr):Cx :=
 {X with N:=N',s₀:=s2,H₀:=H2,env:=compEnvC sc cl C X.env,outer:=X.stack,ex:=fp,fn:=λ x=>sc.names.lookup x==some .cell,pn:=[],xe:=λ _ _=>False}
theorem q5i (scope:Scope) (env:PySem.Env):∀(l:List (Str×NameKind)) (cs:List (Str×Addr)),(∀x∈l,x.2 = .free->∃c,env.cells.lookup x.1=some c)->
  ∃cl,(forIn l cs λ x r=>do
   if (x.2==NameKind.free)=true then do
    let a <-cellOf env x.1
    pure (ForInStep.yield ((x.1,a)::r))
   else pure (ForInStep.yield r):Sem (List (Str×Addr)))=pure cl/\(∀y c,cl.lookup y=some c->cs.lookup y=some c\/env.cells.lookup y=some c)/\(∀x∈l,x.2 = .free->∃c,cl.lookup x.1=some c)/\∀y c,cs.lookup y=some c->∃c',cl.lookup y=some c':=by
 intro l
 induction l with
 |nil=>intro cs _;exact⟨cs,rfl,λ y c h=> .inl h,λ x hx=>absurd hx (by simp),λ y c h=>⟨c,h⟩⟩
 |cons x l ih =>
  intro cs h;obtain⟨n,k⟩:=x
  by_cases hk:k = .free
  ·subst hk;obtain⟨c,hc⟩:=h (n,.free) Qb rfl;have hco:cellOf env n=pure c:=(by unfold cellOf;rw[hc]);obtain⟨cl,e,h1,h2,h3⟩:=ih ((n,c)::cs) (λ x hx=>h x (Qa _ hx));refine⟨cl,?_,λ y c' hy=>?_,λ x hx hf=>?_,λ y c' hy=>?_⟩
   ·rw[List.forIn_cons];simp only[beq_self_eq_true,if_true,hco];exact e
   ·rcases h1 y c' hy with z|z
    ·rw[QF] at z;cases hyn:y==n with
     |true=>rw[hyn] at z;cases z;rw[beq_iff_eq.mp hyn];exact .inr hc
     |false=>rw[hyn] at z;exact .inl z
    ·exact .inr z
   ·rcases Qh.mp hx with rfl|hx
    ·exact h3 n c (by simp[QF])
    ·exact h2 x hx hf
   ·cases hyn:y==n with
    |true=>exact h3 y c (by rw[QF,hyn])
    |false=>exact h3 y c' (by rw[QF,hyn];exact hy)
  ·have hb:(k==NameKind.free)=false:=(by simpa using hk);obtain⟨cl,e,h1,h2,h3⟩:=ih cs (λ x hx=>h x (Qa _ hx));refine⟨cl,?_,h1,λ x hx hf=>?_,h3⟩
   ·rw[List.forIn_cons];simp only[hb,QG,if_false];exact e
   ·rcases Qh.mp hx with rfl|hx
    ·exact absurd hf hk
    ·exact h2 x hx hf
theorem q50 {scope:Scope}{env:PySem.Env}(h:∀x∈scope.names,x.2 = .free->∃c,env.cells.lookup x.1=some c) :
  ∃cl,closureFor scope env=pure cl/\(∀y c,cl.lookup y=some c->env.cells.lookup y=some c)/\∀x∈scope.names,x.2 = .free->∃c,cl.lookup x.1=some c:=by
 obtain⟨cl,e,h1,h2,_⟩:=q5i scope env scope.names [] h;refine⟨cl,?_,λ y c hy=>(h1 y c hy).elim (λ z=>by simp at z) id,h2⟩;unfold closureFor;dsimp only;rw[e];rfl
theorem q0Q (sc:Scope) (env:PySem.Env) (x:Str):(relabel sc env).names.lookup x=(sc.names.lookup x).map λ k=>if (k==NameKind.free&&env.scope.kind == .function&&env.kindOf x==some .cell)=true then NameKind.cell else k:=by
 unfold relabel;dsimp only
 induction sc.names with
 |nil=>rfl
 |cons q r ih =>
  obtain⟨n,k⟩:=q;rw[Qz];cases hx:x==n with
  |true =>
   have e:=beq_iff_eq.mp hx;subst e;dsimp only;split
   ·rename_i h;rw[QF,QF,hx];dsimp only;rw[QT,if_pos h]
   ·rename_i h;rw[QF,QF,hx];dsimp only;rw[QT,if_neg h]
  |false =>
   dsimp only;split
   ·rw[QF,QF,hx];exact ih
   ·rw[QF,QF,hx];exact ih
structure ScOk (X:Cx) (sc:Scope) (ts:List Str):Prop where
 kind:sc.kind = .function
 cell:∀y∈sc.names,y.2 = .cell->y.1∈ts/\sc.names.lookup y.1=some .cell
 free:∀y∈sc.names,y.2 = .free->X.env.kindOf y.1=some .cell\/X.env.kindOf y.1=some .free
 names:∀y∈sc.names,y.2 = .local->sc.names.lookup y.1=some .local
 bang:∀y∈X.N,y∈ts->sc.names.lookup (qAE y)=none
 out:∀y∈X.N,y∉ts->sc.names.lookup y≠some .local
noncomputable def inN (ts N:List Str):List Str:=ts++N.map λ x=>if x∈ts then qAE x else x
structure ClOk (X:Cx) (sc:Scope) (n:Nat) (h:Heap) (cl:List (Str×Addr)):Prop where
 old:∀y c,cl.lookup y=some c->X.env.cells.lookup y=some c\/(n<=c/\c<h.objs.size/\h.IsCell c none)
 free:∀y,sc.names.lookup y=some .free->∃c,cl.lookup y=some c/\X.env.cells.lookup y=some c
 own:∀y,sc.names.lookup y=some .cell->∃c,cl.lookup y=some c/\n<=c
 inj:∀x y c,cl.lookup x=some c->cl.lookup y=some c->x=y
theorem qAY {X:Cx}{pins:List (Addr×Obj)}{σ:L2.St}{H2:Hp}{s2:Shared}{sc:Scope}{ts:List Str}{cl:List (Str×Addr)}{fp:List Addr}(I2:Inv X pins σ H2 s2) (S:ScOk X sc ts) {h':Heap}(co:ClOk X sc (s2.heap.objs.size+2) h' cl)
  (f2:∀b∈fp,FpOk X pins H2 b) (ho:∀b∈fp,∃o,s2.heap.get? b=some o) {tk:Nat}(hns:∃m,h'.Ns (s2.heap.objs.size+1) m)
  (kp:∀b o,s2.heap.get? b=some o->h'.get? b=some o) (hD:h'.get? s2.heap.objs.size=some {cls:= .type "list",data:= .seq ([]:List Value).toArray}) :
  Inv (cxC X s2 H2 sc cl (s2.heap.objs.size+1) (inN ts X.N) fp) [] (Qo ts.length none++σ) (upd H2 s2.heap.objs.size (.lst [])) {s2 with heap:=h',toks:=tk}:=by
 have freeSc:∀x,((relabel sc X.env).names.lookup x=some .cell\/(relabel sc X.env).names.lookup x=some .free)->sc.names.lookup x=some .free\/sc.names.lookup x=some .cell:=λ x hx=>by
  rw[q0Q] at hx;cases e:sc.names.lookup x with
  |none=>rw[e] at hx;rcases hx with hx|hx<;>cases hx
  |some k =>
   cases k with
   |free=>exact .inl rfl
   |cell=>exact .inr rfl
   |_=>rw[e] at hx;rcases hx with hx|hx<;>simp at hx
 have cellAt:∀x c,cl.lookup x=some c->(∃v,h'.IsCell c v)/\upd H2 s2.heap.objs.size (.lst []) c=none:=λ x c h=>by
  rcases co.old x c h with z|⟨z1,z2,z3⟩
  ·obtain⟨v,o,ho',hd⟩:=I2.cell x c z;exact⟨⟨v,o,kp _ _ ho',hd⟩,by rw[q05 (QE (Heap.lt_size ho'))];exact I2.freeC x c z⟩
  ·exact⟨⟨_,z3⟩,by rw[q05 (by lia)];exact I2.hok.fresh (by lia)⟩
 have fr:H2 s2.heap.objs.size=none:=I2.hok.fresh (Qf _);have frC:H2 (s2.heap.objs.size+1)=none:=I2.hok.fresh (Jg _);refine⟨⟨I2.ok.mod,S.kind,I2.ok.glob,I2.ok.blt,Jg _,co.inj,λ x hx=>(freeSc x hx).elim (λ z=>(co.free x z).imp λ _ z=>z.1) λ z=>(co.own x z).imp λ _ z=>z.1,λ x c h g=>?_,I2.ok.hd,I2.ok.frames,.inl rfl,λ b hb=>⟨?_,λ x c h=>?_⟩,
  I2.bs,Qt I2.ok.bsz I2.sz,λ b o e hb=>?_,λ b hb hm=>?_,I2.stack,I2.q7R⟩,rfl,I2.bare,Un.laid kp (Qf _) fr,?_,λ x c h=>(cellAt x c h).1,?_,λ x c h=>(cellAt x c h).2,λ p hp=>absurd (show p∈([]:List (Addr×Obj)) from hp) (by simp),?_,?_⟩
 ·obtain⟨c',e1,e2⟩:=co.own x (beq_iff_eq.mp h);have g:cl.lookup x=some c:=g;rw[e1] at g;cases g;exact Qt (by show s2.heap.objs.size<=_;lia) e2
 ·obtain⟨o,e⟩:=ho b hb;exact QE (Nat.lt_succ_of_lt (Heap.lt_size e))
 ·rcases co.old x c h with z|⟨z,_⟩
  ·exact (f2 b hb).2.2.2.2.1 x c z
  ·obtain⟨o,e⟩:=ho b hb;exact λ y=>by have:=Heap.lt_size e;lia
 ·rcases (f2 b hb).2.2.2.1 with z|z
  ·exact I2.ok.noex b o e z
  ·exact absurd (Qv (Heap.lt_size e) (Qt I2.ok.bsz z)) (Q8 _)
 ·rcases Qh.mp (I2.q2L b hm) with z|z
  ·exact (f2 b hb).2.1 z
  ·exact (f2 b hb).2.2.1 z
 ·obtain⟨m,hm⟩:=hns;obtain⟨m2,hn2,hl2⟩:=I2.loc;refine⟨m,hm,λ i x v e1 e2 e3=>?_⟩;have e3:Vis (relabel sc X.env) x:=e3;have e1:(inN ts X.N)[i]? = some x:=e1;unfold inN at e1;have hi:¬i<ts.length:=λ z=>by rw[Qy (by simpa using z),List.getElem?_replicate,if_pos z] at e2;cases e2
  rw[QL (by lia)] at e1;rw[QL (by rw[List.length_replicate];lia),List.length_replicate] at e2;rw[Qn] at e1;cases ey:X.N[i-ts.length]? with
  |none=>rw[ey] at e1;cases e1
  |some y =>
   rw[ey] at e1;have e1:(if y∈ts then qAE y else y)=x:=(by simpa using e1);have yN:y∈X.N:=Qk ey
   by_cases hy:y∈ts
   ·rw[if_pos hy] at e1;have hb:=S.bang y yN hy;rw[e1] at hb;unfold Vis at e3;rw[q0Q,hb] at e3;rcases e3 with z|z|z<;>cases z
   ·rw[if_neg hy] at e1;subst e1;have hf:sc.names.lookup y=some .free:=by
     rcases e3 with z|z
     ·exfalso;rw[q0Q] at z;cases e:sc.names.lookup y with
      |none=>rw[e] at z;cases z
      |some k =>
       rw[e] at z;cases k with
       |«local»=>exact S.out y yN hy e
       |_=>simp at z<;>(split at z<;>cases z)
     ·exact (freeSc y z).elim id λ z=>absurd (S.cell _ (PySem.mem_of_lookup z) rfl).1 hy
    have hk:=S.free _ (PySem.mem_of_lookup hf) rfl;obtain⟨u,r,l⟩:=hl2 _ y v ey e2 (.inr hk);refine⟨u,r,.inr ⟨?_,?_⟩⟩
    ·rcases e3 with z|z
     ·exfalso;rw[q0Q,hf,QT] at z;have z:=QJ.inj z;split at z<;>cases z
     ·exact z
    ·obtain⟨c,hc,hc1⟩:=co.free y hf;rcases l with ⟨l1,_⟩|⟨_,c',hc',hcell⟩
     ·rcases hk with z|z<;>(rw[l1] at z;cases z)
     ·rw[hc'] at hc1;cases hc1;obtain⟨o,ho',hd⟩:=hcell;exact⟨c,hc,o,kp _ _ ho',hd⟩
 ·show upd H2 s2.heap.objs.size _ (s2.heap.objs.size+1)=none;rw[q05 (Nat.succ_ne_self _)];exact frC
 ·exact I2.hok.laid kp (Qf _) ⟨QK _,[],0,.nil,hD⟩
 ·show _=(inN ts X.N).length;unfold inN;rw[Qj,Qj,List.length_replicate,Qe,I2.len]
theorem q2v:∀(names:List (Str×NameKind)) (n:Nat) (acc:List (Str×Addr)),cellsFrom n names acc=cellsFrom n names []++acc
 |[],_,_=>rfl
 |(x,k)::r,n,acc=>by
  unfold cellsFrom;split
  ·rw[q2v r _ ((x,n)::acc),q2v r _ [(x,n)],QN];rfl
  ·exact q2v r n acc
theorem q3q:∀(names:List (Str×NameKind)) (n:Nat) (acc:List (Str×Addr)) (x:Str),((x,NameKind.cell)∈names\/∃c,(x,c)∈acc)↔∃c,(x,c)∈cellsFrom n names acc
 |[],_,_,_=>⟨λ h=>h.elim (λ z=>nomatch z) id,.inr⟩
 |(y,k)::r,n,acc,x=>by
  unfold cellsFrom;split
  ·rename_i hk;rw[<-q3q r _ _ x];have hk:=beq_iff_eq.mp hk;subst hk;constructor
   ·rintro (h|⟨c,h⟩)
    ·rcases Qh.mp h with e|h
     ·cases e;exact .inr ⟨n,Qb⟩
     ·exact .inl h
    ·exact .inr ⟨c,Qa _ h⟩
   ·rintro (h|⟨c,h⟩)
    ·exact .inl (Qa _ h)
    ·rcases Qh.mp h with e|h
     ·cases e;exact .inl Qb
     ·exact .inr ⟨c,h⟩
  ·rename_i hk;rw[<-q3q r _ _ x];constructor
   ·rintro (h|h)
    ·rcases Qh.mp h with e|h
     ·cases e;exact absurd rfl hk
     ·exact .inl h
    ·exact .inr h
   ·rintro (h|h)
    ·exact .inl (Qa _ h)
    ·exact .inr h
theorem q2w {x:Str}{c:Addr}:∀{l:List (Str×Addr)},(x,c)∈l->∃c',l.lookup x=some c'
 |(y,d)::l,h=>by
  rw[QF];cases e:x==y with
  |true=>exact⟨d,rfl⟩
  |false =>
   rcases Qh.mp h with z|z
   ·cases z;simp at e
   ·exact q2w z
theorem q7h {X:Cx}{pins:List (Addr×Obj)}{σ:L2.St}{H2:Hp}{s2:Shared}{sc:Scope}{ts:List Str}{cl0:List (Str×Addr)}{fp:List Addr}{E:Value->Shared->Prop}{P:Value->PySem.Env->Addr->Shared->Prop}(I2:Inv X pins σ H2 s2) (S:ScOk X sc ts)
  (hcl1:∀y c,cl0.lookup y=some c->X.env.cells.lookup y=some c) (hcl2:∀x∈sc.names,x.2 = .free->∃c,cl0.lookup x.1=some c) (f2:∀b∈fp,FpOk X pins H2 b) (ho:∀b∈fp,∃o,s2.heap.get? b=some o)
  (h:∀cl h1,ClOk X sc (s2.heap.objs.size+2) h1 cl->(∀b o,s2.heap.get? b=some o->h1.get? b=some o)->Inv (cxC X s2 H2 sc cl (s2.heap.objs.size+1) (inN ts X.N) fp) [] (Qo ts.length none++σ) (upd H2 s2.heap.objs.size (.lst [])) {s2 with heap:=h1}->
   P (.ref s2.heap.objs.size) (compEnvC sc cl (s2.heap.objs.size+1) X.env) (s2.heap.objs.size+1) {s2 with heap:=h1}) :
  wpAny (model X.prog X.w) X.A (newList []) (λ acc s3=>wpAny (model X.prog X.w) X.A (newFunctionEnv sc X.env.globals cl0 [] X.env.qual none .none (some X.env)) (λ cenv s4=>P acc {cenv with scope:=relabel sc X.env} cenv.locals s4) E s3) E s2:=by
 refine wpAny_newObj_type ?_;simp only[newFunctionEnv,Option.isSome_some,if_true];refine wpAny_bind (wpAny_alloc (wpAny_bind (wpAny_layCells _ (λ name kind cells=>by cases hkc:kind==NameKind.cell<;>simp[hkc]) _ _ _ _ ?_)));rw[List.forIn_nil];refine wpAny_bind (wpAny_pure (wpAny_pure ?_));generalize hH2:s2.heap.push {cls:= .type "list",dict:=none,data:= .seq ([]:List Value).toArray}=HH;have hC:HH.objs.size=s2.heap.objs.size+1:=by rw[<-hH2,Heap.size_push]
 have hC2:(HH.push {cls:= .type "dict",data:= .dict #[]}).objs.size=s2.heap.objs.size+2:=by rw[Heap.size_push,hC]
 have ok:=cellsFrom_ok sc.names (HH.push {cls:= .type "dict",data:= .dict #[]}) (s2.heap.objs.size+2) [] ⟨λ _ _ hm=>(nomatch hm),List.Pairwise.nil⟩ (by rw[hC2];exact Qf _);rw[hC2] at ok;dsimp only;rw[hC2,hC,q2v];generalize hl1:cellsFrom (s2.heap.objs.size+2) sc.names []=l1 at ok;generalize hh1:pushCells (HH.push {cls:= .type "dict",data:= .dict #[]}) sc.names=h1 at ok;have kpp:∀b o,HH.get? b=some o->h1.get? b=some o:=λ b o e=>by rw[<-hh1];exact pushCells_keeps _ _ b o (Heap.get?_push_of_some _ e)
 have kp:∀b o,s2.heap.get? b=some o->h1.get? b=some o:=λ b o e=>kpp b o (hH2▸Heap.get?_push_of_some _ e);have hD:h1.get? s2.heap.objs.size=some {cls:= .type "list",data:= .seq ([]:List Value).toArray}:=kpp _ _ (hH2▸Heap.get?_push_size _ rfl);have hns:h1.Ns (s2.heap.objs.size+1) λ _=>none:=by rw[<-hh1,<-hC];exact (Heap.Ns.new HH (.type "dict")).keeps (pushCells_keeps _ _)
 have own:∀y c,l1.lookup y=some c->(y,NameKind.cell)∈sc.names/\s2.heap.objs.size+2<=c/\c<h1.objs.size/\h1.IsCell c none:=λ y c e=>by have m:=PySem.mem_of_lookup e;have z:=ok.empty y c m;rw[<-hl1] at m;exact⟨((q3q _ _ [] y).mpr ⟨c,m⟩).resolve_right (λ w=>by obtain⟨_,w⟩:=w;cases w),z.2,z.1.lt,z.1⟩
 have look:∀y,(l1++cl0).lookup y=(l1.lookup y).or (cl0.lookup y):=λ y=>List.lookup_append;have co:ClOk X sc (s2.heap.objs.size+2) h1 (l1++cl0):=by
  refine⟨λ y c e=>?_,λ y e=>?_,λ y e=>?_,λ x y c e1 e2=>?_⟩
  ·rw[look] at e;cases q:l1.lookup y with
   |some c'=>rw[q] at e;cases e;exact .inr (own y _ q).2
   |none=>rw[q] at e;exact .inl (hcl1 y c e)
  ·obtain⟨c,hc⟩:=hcl2 (y,.free) (PySem.mem_of_lookup e) rfl;refine⟨c,?_,hcl1 y c hc⟩;rw[look];cases q:l1.lookup y with
   |some c' =>
    have:=(S.cell _ (own y _ q).1 rfl).2;rw[e] at this;cases this
   |none=>exact hc
  ·obtain⟨c,m⟩:=(q3q sc.names (s2.heap.objs.size+2) [] y).mp (.inl (PySem.mem_of_lookup e));rw[hl1] at m;obtain⟨c',q⟩:=q2w m;exact⟨c',by rw[look,q];rfl,(own y _ q).2.1⟩
  ·rw[look] at e1 e2;have lt:∀z,cl0.lookup z=some c->c<s2.heap.objs.size:=λ z hz=>by obtain⟨v,o,e,_⟩:=I2.cell z c (hcl1 z c hz);exact Heap.lt_size e
   cases q1:l1.lookup x with
   |some c1 =>
    rw[q1] at e1;cases e1;cases q2:l1.lookup y with
    |some c2=>rw[q2] at e2;cases e2;exact PySem.name_of_addr ok.apart (PySem.mem_of_lookup q1) (PySem.mem_of_lookup q2)
    |none =>
     rw[q2] at e2;have:=lt y e2;have:=(own x _ q1).2.1;lia
   |none =>
    rw[q1] at e1;cases q2:l1.lookup y with
    |some c2 =>
     rw[q2] at e2;cases e2;have:=lt x e1;have:=(own y _ q2).2.1;lia
    |none=>rw[q2] at e2;exact I2.ok.inj x y c (hcl1 x c e1) (hcl1 y c e2)
 exact h (l1++cl0) h1 co kp (qAY I2 S co f2 ho (tk:=s2.toks) ⟨_,hns⟩ kp hD)
theorem q3L {p:Pm}{H Hf:Hp}{more:List (List Addr)}:∀{ρ:Ev.Env}{σ:L2.St}{os:List (List Addr)},q0t p H Hf ρ σ os->q0t p H Hf ρ σ (os++more)
 |[],_,_,_=>trivial
 |_::ρ,_,_,h=>by obtain⟨y,σ',as,os',rfl,rfl,h1,h2⟩:=h;exact⟨y,σ',as,os'++more,rfl,rfl,h1,q3L h2⟩
theorem q4M {p:Pm}{H Hf:Hp}{ρ:Ev.Env}{σ:L2.St}{os:List (List Addr)}(h:q0t p H Hf ρ σ os):∀{xs:List D}{vs:List V},RepL p Hf xs vs->q0t p H Hf (vals xs++ρ) (vs.map some++σ) (Qo xs.length []++os)
 |[],vs,r=>by cases (show vs=[] from r);exact h
 |d::xs,vs,r=>by obtain⟨v,r',rfl,h1,h2⟩:=r;exact⟨some v,r'.map some++σ,[],Qo xs.length []++os,rfl,by simp[Jb],⟨rfl,v,rfl,h1⟩,q4M h h2⟩
theorem q3r (n:Nat) (os:List (List Addr)) (D:Addr):(Qo n []++os++[[D]]).flatten=os.flatten++[D]:=by simp
def SGc (X:Cx) (p:Pm) (tg:PySem.Expr) (k m:Nat):Prop :=
 ∀(E:Value->Shared->Prop) (pins:List (Addr×Obj)) (s:Shared) (σt σ:L2.St) (H Hf:Hp) (d:D) (xs:List D) (v:V) (u:Value),Inv X pins (σt++σ) H s->σt.length=m->RelV v u->Ext Hf H->Rep p Hf d v->unp k d = .ok xs->
  wpAny (model X.prog X.w) X.A (assign tg X.env u) (λ _ s'=>∃vs,RepL p Hf xs vs/\vs.length=m/\Inv X pins (vs.map some++σ) H s') E s
section
variable {X:Cx}{p:Pm}{G:Nat->List D->R D}{sub:Nat->Nat->Bool}
theorem qCT {x:Str}{pos:Pos}(hN:X.N.Nodup) (hi:X.N[0]? = some x) (hx:Loc X.env.scope x) (hl:X.fn x=true\/X.env.scope.names.lookup x=some .local):SGc X p (.Name x pos) 0 1:=by
 intro E pins s σt σ H Hf d xs v u I hm rv xt q e;cases e;obtain⟨o,rfl⟩:∃o,σt=[o]:=by
  match σt,hm with
  |[o],_=>exact⟨o,rfl⟩
 exact wpAny_assign_Name (q1K I hN hi hx rv (λ s2 I2=>⟨[v],⟨v,[],rfl,q,rfl⟩,rfl,I2⟩) hl)
theorem qEo {x y:Str}{pos px py:Pos}{k1:Nat}(hK:p.K=X.K) (hc:X.calm=true) (hN:X.N.Nodup) (hi:X.N[0]? = some x) (hx:Loc X.env.scope x) (hl:X.fn x=true\/X.env.scope.names.lookup x=some .local) (hj:X.N[1]? = some y) (hx2:Loc X.env.scope y) (hl2:X.fn y=true\/X.env.scope.names.lookup y=some .local):SGc X p (.Tuple [.Name x px,.Name y py] k1 pos) 2 2:=by
 intro E pins s σt σ H Hf d xs v u I hm rv xt q e;obtain⟨o1,o2,rfl⟩:∃o1 o2,σt=[o1,o2]:=by
  match σt,hm with
  |[o1,o2],_=>exact⟨o1,o2,rfl⟩
 cases d<;>first
  |(exfalso;unfold unp at e;rw[if_neg (by decide)] at e;cases e;done)
  |skip
 rename_i ds;unfold unp at e;rw[if_neg (by decide)] at e;dsimp only at e;split at e
 ·rename_i hl';cases e;obtain⟨a,vs,rfl,s1,z,r1⟩:=q;obtain⟨d1,d2,rfl⟩:∃d1 d2,xs=[d1,d2]:=by
   match xs,hl' with
   |[d1,d2],_=>exact⟨d1,d2,rfl⟩
  obtain⟨v1,r,rfl,q1,h2⟩:=r1;obtain⟨v2,r2,rfl,q2,h4⟩:=h2;cases (show r2=[] from h4);refine wpAny_mono (qDW (X:=X.wish E) (n:=2) hc (q3o (q5N (X:=X.wish E) hN hi hx hl) (q3o (q5N (X:=X.wish E) hN hj hx2 hl2) q9z rfl) rfl) rfl rfl pins s _ H (.ref a) u (λ σ' H'=>H'=H/\σ'=some v1::some v2::σ) (I.wish E) rv
   ⟨a,[v1,v2],rfl,hK▸xt.sqT s1,rfl,v1,[v2],rfl,v2,[],rfl,rfl,rfl,rfl⟩) (λ _ s' h=>?_) (λ _ _ z=>z)
  obtain⟨σ',H',I',rfl,rfl⟩:=h;exact⟨[v1,v2],⟨v1,_,rfl,q1,v2,_,rfl,q2,rfl⟩,rfl,I'.q45⟩
 ·cases e
def STs (X:Cx) (p:Pm) (G:Nat->List D->R D) (sub:Nat->Nat->Bool) (ifs:List PySem.Expr) (lc:List T):Prop:=(ifs=[]/\lc=[])\/∃c l,ifs=[c]/\lc=[l]/\ST X p G sub c l
end
end Snd
namespace Snd
open PySem PySem.Spec PyProof.Rows L2 Ev
variable {a:PySem.Expr}{l:L}{pos:Pos}{pins:List (Addr×Obj)}{σ:L2.St}{H:Hp}{ρ:Ev.Env}{b:Bi}{x:Str}
def Ans (r:R D):Prop:=r = .stuck\/∃d,r = .ok d
theorem q0N (d:D):Ans (.ok d):= .inr ⟨d,rfl⟩
theorem q0G:Ans .stuck:= .inl rfl
theorem q2x {c:Prop}[Decidable c] {r:R D}(h:Ans r):Ans (if c then r else .stuck):=by
 by_cases z:c
 ·rw[if_pos z];exact h
 ·rw[if_neg z];exact q0G
theorem q0S {f:D->R D}(h:∀d,Ans (f d)):∀ds,Ans (oneD f ds)
 |[]=>q0G
 |[d]=>h d
 |_::_::_=>q0G
theorem q2W {f:D->D->R D}(h:∀d e,Ans (f d e)):∀ds,Ans (twoD f ds)
 |[]=>q0G
 |[_]=>q0G
 |[d,e]=>h d e
 |_::_::_::_=>q0G
theorem q2X {f:List D->R D}(h:∀xs,Ans (f xs)) (d:D):Ans (lstD f d):=by cases d<;>first|exact q0G|exact h _
theorem qAZ {f:List D->R D}(h:∀xs,Ans (f xs)) (d:D):Ans (seqD f d):=by cases d<;>first|exact q0G|exact h _
theorem q1h {f:Int->R D}(h:∀i,Ans (f i)) (d:D):Ans (intD f d):=by cases d<;>first|exact q0G|exact h _
theorem qAa {f:Nat->R D}(h:∀i,Ans (f i)) (d:D):Ans (excD f d):=by cases d<;>first|exact q0G|exact h _
theorem q2Y {f:Str->R D}(h:∀i,Ans (f i)) (d:D):Ans (strD f d):=by cases d<;>first|exact q0G|exact h _
theorem q8c {f:Nat->R D}(h:∀i,Ans (f i)) (y:Str):Ans (oneS f y):=by unfold oneS;cases one? y<;>first|exact q0G|exact h _
theorem qAb {f:D->D->D->R D}(h:∀d e g,Ans (f d e g)):∀ds,Ans (qDX f ds)
 |[]=>q0G
 |[_]=>q0G
 |[_,_]=>q0G
 |[d,e,g]=>h d e g
 |_::_::_::_::_=>q0G
theorem qAc (x:D):∀(l:List D) (n:Nat),Ans (idxOf x l n)
 |[],_=>q0G
 |y::l,n=>by
  rw[idxOf]
  by_cases z:eqb y x=true
  ·rw[if_pos z];exact q0N _
  ·rw[if_neg z];exact qAc x l (n+1)
theorem q23 (sub:Nat->Nat->Bool) (b:Bi) (ds:List D):biD sub b ds = .stuck\/∃r,biD sub b ds = .ok r:=by
 have it:∀d,q2M d = .stuck\/∃r,q2M d = .ok r:=λ d=>by
  cases d<;>first
   |exact .inr ⟨_,rfl⟩
   |exact .inl rfl
   |skip
  rename_i ks vs;cases z:(ints? ks).isSome with
  |true=>exact .inr ⟨ks,by rw[q2M,z];rfl⟩
  |false=>exact .inl (by rw[q2M,z];rfl)
 have it2:∀d,q1M d = .stuck\/∃r,q1M d = .ok r:=λ d=>by cases d<;>first|exact .inr ⟨_,rfl⟩|exact .inl rfl
 show Ans (biD sub b ds);cases b with
 |len=>exact q0S (λ d=>by cases d<;>first|exact q0G|exact q0N _) ds
 |sorted=>exact q0S (λ d=>by rcases it d with z|⟨r,z⟩<;>rw[z];exact q0G;exact q2x (q0N _)) ds
 |sortedRev=>exact q0S (λ d=>by rcases it d with z|⟨r,z⟩<;>rw[z];exact q0G;exact q2x (q0N _)) ds
 |sortedSet=>exact q0S (λ d=>by rcases it2 d with z|⟨r,z⟩<;>rw[z];exact q0G;exact q2x (q0N _)) ds
 |tuple=>exact q0S (qAZ λ _=>q0N _) ds
 |list=>exact q0S (qAZ λ _=>q0N _) ds
 |sum=>exact q0S (q2X λ xs=>by unfold sumD;cases ints? xs<;>first|exact q0G|exact q0N _) ds
 |all=>exact q0S (q2X λ xs=>by unfold allD;cases bools? xs<;>first|exact q0G|exact q0N _) ds
 |bits=>exact q0S (q1h λ _=>q2x (q0N _)) ds
 |count=>exact q2W (λ _ _=>q2X (λ _=>q2x (q0N _)) _) ds
 |index=>exact q2W (λ _ _=>q2X (λ _=>q2x (qAc _ _ _)) _) ds
 |min2=>exact q2W (λ x y=>q1h (λ _=>q1h (λ _=>q0N _) y) x) ds
 |max2=>exact q2W (λ x y=>q1h (λ _=>q1h (λ _=>q0N _) y) x) ds
 |any=>exact q0S (q2X λ xs=>by unfold anyD;cases bools? xs<;>first|exact q0G|exact q0N _) ds
 |maxT=>exact q0S (λ d=>by
  cases d<;>first|exact q0G|skip
  rename_i xs;show Ans (maxD xs);unfold maxD;split
  ·exact q0N _
  ·exact q0G) ds
 |strI=>exact q0S (q1h λ a=>by unfold Ev.strI;split<;>first|exact q0N _|exact q0G) ds
 |split=>exact q2W (λ d e=>q2Y (λ x=>q2Y (λ y=>q8c (λ _=>q2x (q0N _)) y) e) d) ds
 |join=>exact q2W (λ d e=>q2Y (λ x=>q2X (λ xs=>by unfold q4n;cases strs? xs<;>first|exact q0G|exact q2x (q0N _)) e) d) ds
 |endsw=>exact q2W (λ d e=>q2Y (λ x=>q2Y (λ y=>q8c (λ _=>q0N _) y) e) d) ds
 |fmt=>exact qAb (λ d e f=>q2Y (λ x=>q1h (λ a=>q2Y (λ y=>by unfold fmtD Ev.strI;split<;>first|exact q0G|(split<;>first|exact q0N _|exact q0G)) f) e) d) ds
 |toInt=>exact q0S (λ d=>by cases d<;>first|exact q0G|exact q0N _|(show Ans (digI _);unfold digI;split<;>first|exact q0G|exact q2x (q0N _))) ds
 |abs=>exact q0S (q1h λ _=>q0N _) ds
 |isTup=>exact q0S (λ d=>by cases d<;>first|exact q0G|exact q0N _) ds
 |isLst=>exact q0S (q2X λ _=>q0N _) ds
 |isInt=>exact q0S (q1h λ _=>q0N _) ds
 |isBool=>exact q0S (λ d=>by cases d<;>first|exact q0G|exact q0N _) ds
 |isVal=>exact q0S (qAa λ _=>q0N _) ds
 |isExc c=>exact q0S (qAa λ _=>q0N _) ds
def BS (X:Cx) (p:Pm) (sub:Nat->Nat->Bool) (b:Bi) (fv:Value):Prop :=
 ∀(E:Value->Shared->Prop) (pins:List (Addr×Obj)) (s:Shared) (σ:L2.St) (H:Hp) (os:List (List Addr)) (d r:D) (v:V) (u:Value),Inv X pins σ H s->Th os.flatten H->RelV v u->RepB p H (fz os.flatten H) d v->biD sub b [d] = .ok r->
  wpAny (model X.prog X.w) X.A (call fv [u]) (EP (X.wish E) pins σ (Fin p os.flatten H r)) E s
section
variable {X:Cx}{p:Pm}{G:Nat->List D->R D}{sub:Nat->Nat->Bool}
theorem q7i (ha:SB X p G sub a l) (hst:starEach [a] X.env=[(false,eval a X.env)]) {s:Shared}{os:List (List Addr)}{E:Value->Shared->Prop}{Q:List Value->Shared->Prop}(I:Inv X pins σ H s) (R:Rel p ρ σ os H) (hs:ev G sub l ρ ≠ .stuck)
  (hq:∀u s1,Gb X p pins σ os H (ev G sub l ρ) u s1->Q [u] s1) (he:∀e s',Er X p pins σ H (ev G sub l ρ) e s'->E e s'):wpAny (model X.prog X.w) X.A (spliced (backTo pos (starEach [a] X.env))) Q E s:=by
 rw[hst];show wpAny _ _ (spliced ((false,eval a X.env)::backTo pos [])) _ _ s;exact Calls.spliced_cons (wpAny_mono (ha pins s σ H ρ os I R hs) (λ u s1 h=>Calls.spliced_nil (hq u s1 h)) he)
theorem q2y {α:Type}{f:D->R α}(l:L) (ρ:Ev.Env) (g:List D->R α) (h:∀d,g [d]=f d):(evs G sub [l] ρ).bind g=(ev G sub l ρ).bind f:=by rw[q0E,q0R];cases ev G sub l ρ<;>first|exact h _|rfl
theorem qAd {s1:Shared}{os:List (List Addr)}{fv u:Value}(hB:BS X p sub b fv) (R:Rel p ρ σ os H) (hs:ev G sub (.bi b [l]) ρ ≠ .stuck) (h:Gb X p pins σ os H (ev G sub l ρ) u s1) :
  wpAny (model X.prog X.w) X.A (call fv [u]) (Gd X p pins σ os H (ev G sub (.bi b [l]) ρ)) (Er X p pins σ H (ev G sub (.bi b [l]) ρ)) s1:=by
 obtain⟨d,v,H1,e1,I1,r1,x1,q1⟩:=h;have e0:ev G sub (.bi b [l]) ρ=biD sub b [d]:=by rw[q0U,q2y (f:=λ d=>biD sub b [d]) l ρ _ (λ _=>rfl),e1];rfl
 rw[e0] at hs |-;rcases q23 sub b [d] with z|⟨r,z⟩
 ·exact absurd z hs
 ·rw[z];exact wpAny_mono (hB (Er X p pins σ H (.ok r)) pins s1 σ H1 os d r v u I1 (R.ext x1).th r1 q1 z) (λ w s2 h2=>q6V x1 rfl h2) λ _ _ z=>z
theorem q8d {e:Value}{s':Shared}(h:Er X p pins σ H (ev G sub l ρ) e s'):Er X p pins σ H (ev G sub (.bi b [l]) ρ) e s':=by rw[q0U,q2y (f:=λ d=>biD sub b [d]) l ρ _ (λ _=>rfl)];exact h.bind
theorem q8e (hs:ev G sub (.bi b [l]) ρ ≠ .stuck):ev G sub l ρ ≠ .stuck:=λ e=>hs (by rw[q0U,q2y (f:=λ d=>biD sub b [d]) l ρ _ (λ _=>rfl),e];rfl)
theorem qDn {id:String}{q:Pos}(hB:BS X p sub b (.builtin id)) (hg:Gl X x) (hm:X.mg x=none) (hv:bootBuiltins x=some (.builtin id)) (ha:SB X p G sub a l)
  (hn:x ≠ "__name__") (hdb:(x==("__debug__":Str))=false) (hst:starEach [a] X.env=[(false,eval a X.env)]):SE X p G sub (.Call (.Name x q) [a] [] pos) (.bi b [l]):=by
 intro pins s σ H ρ os I R hs;refine wpAny_Call_Name_kw (q1r I hg hm hv ?_ hn hdb);exact PyProof.Rows.callWith_builtin1 (q7i ha hst I R (q8e hs) (λ u s1 h=>qAd hB R hs h) (λ _ _=>q8d)) hst rfl
theorem q7j {T:String}{q:Pos}(hB:BS X p sub b (.type T)) (hg:Gl X x) (hm:X.mg x=none) (hv:bootBuiltins x=some (.type T)) (ha:SB X p G sub a l)
  (hn:x ≠ "__name__") (hdb:(x==("__debug__":Str))=false) (hst:starEach [a] X.env=[(false,eval a X.env)]):SE X p G sub (.Call (.Name x q) [a] [] pos) (.bi b [l]):=by
 intro pins s σ H ρ os I R hs;refine wpAny_Call_Name_kw (q1r I hg hm hv ?_ hn hdb);exact PyProof.Rows.callWith_type1 (q7i ha hst I R (q8e hs) (λ u s1 h=>qAd hB R hs h) (λ _ _=>q8d)) hst rfl
theorem qHM (hK:p.K=X.K):BS X p sub .len (.builtin "len"):=by
 intro E pins s σ H os d r v u I t rv q h;cases d<;>first
  |(cases h;done)
  |skip
 ·cases h;obtain⟨rfl,z⟩:=q;exact q6G (X:=X.wish E) pins s σ H _ _ _ (I.wish E) (.cons rv .nil) ⟨_,rfl,Qt z q0W,q0C rfl⟩
 ·cases h;obtain⟨a,vs,rfl,s1,z,r1⟩:=q;refine q3d (X:=X.wish E) pins s σ H _ _ _ (I.wish E) (.cons rv .nil) ⟨a,vs,rfl,.inr (hK▸q0V.sqT s1),?_⟩;rw[<-r1.length];exact q0C rfl
 ·cases h;obtain⟨a,vs,rfl,s1,r1⟩:=q;refine q3d (X:=X.wish E) pins s σ H _ _ _ (I.wish E) (.cons rv .nil) ⟨a,vs,rfl,.inl (hK▸s1),?_⟩;rw[<-r1.length];exact q0C rfl
 ·cases h;obtain⟨a,kvs,rfl,s1,rfl,r1⟩:=q;cases rv;refine qJ0 I s1 λ t s' I'=>⟨.int _,H,I'.wish E,⟨t,rfl⟩,?_⟩
  rw[Qe];exact q0C rfl
theorem qCU (hK:p.K=X.K):BS X p sub .tuple (.type "tuple"):=by
 intro E pins s σ H os d r v u I t rv q h;cases d<;>first
  |(cases h;done)
  |skip
 ·cases h;obtain⟨a,vs,rfl,s1,z,r1⟩:=q;exact q2h (X:=X.wish E) pins s σ H _ _ _ (I.wish E) (.cons rv .nil) ⟨a,vs,rfl,.inr ⟨hK▸q0V.sqT s1,q0C ⟨a,vs,rfl,s1,z,r1⟩⟩⟩
 ·cases h;obtain⟨a,vs,rfl,s1,r1⟩:=q;have s1':SqL X.K H a vs:=hK▸s1;obtain⟨_,_,_,hz⟩:=I.list s1';exact q2h (X:=X.wish E) pins s σ H _ _ _ (I.wish E) (.cons rv .nil) ⟨a,vs,rfl,.inl ⟨s1',λ l hl=>q7d t r1 hz hl⟩⟩
theorem qAe:∀k:Nat,k<1000->(Str.ofString (toString (k:Int))).length<=big:=by decide +kernel
theorem qJc:∀a,a<10->PySem.intText? (mkS [48+a])=some ((a:Nat):Int):=by decide +kernel
theorem qJd:∀a,a<10->∀b,b<10->PySem.intText? (mkS [48+a,48+b])=some ((10*a+b:Nat):Int):=by decide +kernel
theorem qAf {a:Nat}(h:q0f a=true):∃b,b<10/\a=48+b:=by unfold q0f at h;rw[Qg,decide_eq_true_eq,decide_eq_true_eq] at h;exact⟨a-48,by lia,by lia⟩
theorem q3h {l:List Nat}(h:x.cps.toList=l):x=mkS l:=by obtain⟨a⟩:=x;have h:a.toList=l:=h;show Str.mk a=Str.mk l.toArray;rw[<-h]
theorem qAg {r:D}(h:digI x = .ok r):∃n:Int,r = .int n/\x.length<=640/\PySem.intText? x=some n:=by
 unfold digI at h;split at h
 ·rename_i a e;split at h
  ·rename_i c;cases h;obtain⟨b,hb,rfl⟩:=qAf c;rw[q3h e];exact⟨_,rfl,by show 1<=640;decide,by rw[qJc b hb,Ja]⟩
  ·cases h
 ·rename_i a a2 e;split at h
  ·rename_i c;rw[Qg] at c;cases h;obtain⟨b,hb,rfl⟩:=qAf c.1;obtain⟨b2,hb2,rfl⟩:=qAf c.2;rw[q3h e];exact⟨_,rfl,by show 2<=640;decide,by rw[qJd b hb b2 hb2,Ja,Ja]⟩
  ·cases h
 ·cases h
theorem qHN:BS X p sub .strI (.type "str"):=by
 intro E pins s σ H os d r v u I t rv q h;cases d<;>first
  |(cases h;done)
  |skip
 rename_i a;have h:((Ev.strI a).bind λ x=>Ev.R.ok (D.str x)) = .ok r:=h;unfold Ev.strI at h;split at h
 ·rename_i c;cases h;cases (show v=_ from q);refine q68 (X:=X.wish E) pins s σ H _ _ _ (I.wish E) (.cons rv .nil) ⟨a,rfl,?_,q0C ⟨rfl,?_⟩⟩
  ·have:a.natAbs<1000:=by lia
   by_cases z:a.natAbs=0
   ·rw[z];decide
   ·exact Nat.lt_of_le_of_lt (Nat.log2_le_self _) (by lia)
  ·obtain⟨k,rfl⟩:∃k:Nat,a=k:=⟨a.toNat,by lia⟩
   exact qAe k (by lia)
 ·cases h
theorem qHO:BS X p sub .toInt (.type "int"):=by
 intro E pins s σ H os d r v u I t rv q h;cases d<;>first
  |(cases h;done)
  |skip
 ·cases h;cases (show v=_ from q);exact q67 (X:=X.wish E) pins s σ H _ _ _ (I.wish E) (.cons rv .nil) (.inr ⟨_,rfl,q0C rfl⟩)
 ·cases h;cases (show v=_ from q);exact q67 (X:=X.wish E) pins s σ H _ _ _ (I.wish E) (.cons rv .nil) (.inl ⟨_,rfl,q0C rfl⟩)
 ·obtain⟨n,rfl,hl,hn⟩:=qAg h;obtain⟨rfl,_⟩:=(show v=_/\_ from q)
  obtain⟨tk,rfl⟩:=rv;exact PySem.W.KIN.call_text hn hl ⟨.int n,H,(I.wish E).tok _,⟨_,rfl⟩,q0C rfl⟩
theorem qCV {vs:List V}{us:List Value}(r:Vals vs us) {i:Nat}{u:Value}(h:us[i]? = some u):∃v,vs[i]? = some v/\RelV v u:=by
 cases e:vs[i]? with
 |none=>rw[r.none_of e] at h;cases h
 |some v =>
  obtain⟨u',h1,h2⟩:=r.get e;rw[h] at h1;cases h1;exact⟨v,rfl,h2⟩
theorem q6Y {Hf:Hp}:∀{ds:List D}{bs:List Bool}{vs:List V},bools? ds=some bs->RepL p Hf ds vs->vs=bs.map V.bl
 |[],bs,vs,h,r=>by cases h;exact r
 | .bl b::ds,bs,vs,h,r=>by
  obtain⟨v,r',rfl,h1,h2⟩:=r;have h':(bools? ds).map (b::·)=some bs:=h;cases e:bools? ds with
  |none=>rw[e] at h';cases h'
  |some bs' =>
   rw[e] at h';cases h';cases (show v=_ from h1);rw[q6Y e h2];rfl
 | .non::_,_,_,h,_=>by cases h
 | .int _::_,_,_,h,_=>by cases h
 | .str _::_,_,_,h,_=>by cases h
 | .tup _::_,_,_,h,_=>by cases h
 | .lst _::_,_,_,h,_=>by cases h
 | .dct _ _::_,_,_,h,_=>by cases h
 | .exc _::_,_,_,h,_=>by cases h
theorem range_all {α:Type}(f:α->Bool) (d:α):∀(l:List α),(Qp l.length).all (λ i=>f (l.getD i d))=l.all f
 |[]=>rfl
 |a::l=>by rw[Qd,all_succ,List.all_cons];congr 1;exact range_all f d l
theorem qHP (hK:p.K=X.K) (hc:X.calm=true):BS X p sub .all (.builtin "all"):=by
 intro E pins s σ H os d r v u I t rv q h;cases d<;>first
  |(cases h;done)
  |skip
 rename_i xs;replace h:allD _ = .ok r:=h;unfold allD at h;split at h
 ·rename_i bs hb;cases h;obtain⟨a,vs,rfl,s1,r1⟩:=q;have e0:=q6Y hb r1;subst e0;cases rv;obtain⟨its,rv,pt,hz⟩:=I.list (hK▸s1:SqL X.K H a _);have hl:its.length=bs.length:=by rw[<-rv.length];simp
  have hlt:a<s.heap.objs.size:=by obtain⟨_,e,_⟩:=pt.isList;exact Heap.lt_size e
  refine call_all_walk (wpAny_pyIter_list pt.isList ⟨_,_,_,_,_,_,λ i=>bs.getD i false,rfl,Walks.list (A:=X.A.in1) (I.ok.hd hc) s.heap.objs.size a (QE hlt) its.toArray,⟨⟨_,Heap.get?_push_size _ rfl,rfl,rfl⟩,pt.isList.push _⟩,λ i v s Q E hP hQ=>?_,λ h' tk hk=>?_⟩)
  ·have hP':its[i]? = some v:=(by simpa using hP);obtain⟨w,hw,rw'⟩:=qCV rv hP';rw[Qn] at hw;cases eb:bs[i]? with
   |none=>rw[eb] at hw;cases hw
   |some b =>
    rw[eb] at hw;cases hw;cases rw';refine wpAny_truthy_bool ?_;have e2:bs.getD i false=b:=(by simp[Jq,eb]);dsimp only at hQ;rw[e2] at hQ;exact hQ
  ·refine⟨.bl _,H,(I.wish E).kept (t':=tk) (h':=h') λ b o e=>hk b o (by simp;exact QE (Heap.lt_size e)) (Heap.get?_push_of_some _ e),rfl,?_⟩;have:(Qp its.toArray.size).all (λ i=>bs.getD i false)=bs.all id:=by rw[Ql,hl];exact range_all id false bs
   rw[this];exact q0C rfl
 ·cases h
end
end Snd
namespace Srt
open PySem PySem.W PyProof.Rows
variable {p:Array Nat}{m:Nat}
noncomputable def run {α:Type}(c:Nat->Nat->Bool):KasT α->α
 | .ret a=>a
 | .ask i j k=>run c (k (c i j))
theorem run_bind {α β:Type}(c:Nat->Nat->Bool) (f:α->KasT β):∀t:KasT α,run c (t.bind f)=run c (f (run c t))
 | .ret a=>rfl
 | .ask i j k=>run_bind c f (k (c i j))
noncomputable def BndR {α:Type}(c:Nat->Nat->Bool) (n:Nat):KasT α->Prop
 | .ret _=>True
 | .ask i j k=>i<n/\j<n/\BndR c n (k (c i j))
theorem q1i {α β:Type}{c:Nat->Nat->Bool}{n:Nat}{f:α->KasT β}:∀{t:KasT α},BndR c n t->BndR c n (f (run c t))->BndR c n (t.bind f)
 | .ret a,_,h=>h
 | .ask i j k,h1,h=>⟨h1.1,h1.2.1,q1i h1.2.2 h⟩
theorem qHQ {α:Type}{cmp:Nat->Nat->(Bool->Shared->Prop)->Shared->Prop}{c:Nat->Nat->Bool}{n:Nat}{s:Shared}{Q:α->Shared->Prop}(hc:∀i j C,i<n->j<n->C (c i j) s->cmp i j C s):∀(t:KasT α),BndR c n t->Q (run c t) s->t.kasWp cmp Q s
 | .ret a,_,h=>h
 | .ask i j k,b,h=>hc i j _ b.1 b.2.1 (qHQ hc (k (c i j)) b.2.2 h)
section
variable {c:Nat->Nat->Bool}{n:Nat}
structure Ord (c:Nat->Nat->Bool) (n:Nat):Prop where
 irr:∀i,i<n->c i i=false
 tot:∀i j,i<n->j<n->i≠j->c i j=false->c j i=true
 tr:∀i j k,i<n->j<n->k<n->c i j=true->c j k=true->c i k=true
noncomputable def at_ (p:Array Nat) (i:Nat):Nat:=p.getD i 0
structure Pm (p:Array Nat) (n:Nat):Prop where
 sz:p.size=n
 lt:∀i,i<n->at_ p i<n
 inj:∀i j,i<n->j<n->at_ p i=at_ p j->i=j
def Up (c:Nat->Nat->Bool) (p:Array Nat) (m:Nat):Prop:=∀i j,i<j->j<m->c (at_ p i) (at_ p j)=true
def Dn (c:Nat->Nat->Bool) (p:Array Nat) (m:Nat):Prop:=∀i j,i<j->j<m->c (at_ p j) (at_ p i)=true
theorem Ord.asym (o:Ord c n) {i j:Nat}(hi:i<n) (hj:j<n) (h:c i j=true):c j i=false:=by
 cases e:c j i with
 |false=>rfl
 |true=>have:=o.tr i j i hi hj hi h e;rw[o.irr i hi] at this;cases this
theorem Up.succ (o:Ord c n) (P:Pm p n) (h1:1<=m) (hm:m<n) (u:Up c p m) (h:c (at_ p (m-1)) (at_ p m)=true):Up c p (m+1):=λ i j hij hj=>by
 by_cases e:j<m
 ·exact u i j hij e
 ·have e:j=m:=by lia
  subst e
  by_cases e2:i=j-1
  ·rw[e2];exact h
  ·exact o.tr _ (at_ p (j-1)) _ (P.lt _ (by lia)) (P.lt _ (by lia)) (P.lt _ hm) (u i (j-1) (by lia) (by lia)) h
theorem Dn.succ (o:Ord c n) (P:Pm p n) (h1:1<=m) (hm:m<n) (u:Dn c p m) (h:c (at_ p m) (at_ p (m-1))=true):Dn c p (m+1):=λ i j hij hj=>by
 by_cases e:j<m
 ·exact u i j hij e
 ·have e:j=m:=by lia
  subst e
  by_cases e2:i=j-1
  ·rw[e2];exact h
  ·exact o.tr _ (at_ p (j-1)) _ (P.lt _ hm) (P.lt _ (by lia)) (P.lt _ (by lia)) h (u i (j-1) (by lia) (by lia))
theorem q24 {α:Type}(i j:Nat) (k:Bool->KasT α):run c (.ask i j k)=run c (k (c i j)):=rfl
theorem q25 {α:Type}{i j:Nat}{k:Bool->KasT α}(h1:i<n) (h2:j<n) (h:BndR c n (k (c i j))):BndR c n (.ask i j k):=⟨h1,h2,h⟩
theorem qAh (o:Ord c n) {p:Array Nat}(P:Pm p n):∀(f m:Nat),1<=m->m+f=n->Up c p m->BndR c n (kas_asc p f m)/\∃r,run c (kas_asc p f m)=r/\m<=r/\r<=n/\Up c p r/\(r=n\/c (at_ p r) (at_ p (r-1))=true)
 |0,m,h1,hn,u=>⟨trivial,m,rfl,Qf _,by lia,u,.inl (by lia)⟩
 |f+1,m,h1,hn,u=>by
  have hm:m<n:=by lia
  have e0:kas_asc p (f+1) m = .ask (p.getD m 0) (p.getD (m-1) 0) λ c=>if c=true then .ret m else kas_asc p f (m+1):=rfl
  rw[e0];cases e:c (at_ p m) (at_ p (m-1)) with
  |true =>
   have e':c (p.getD m 0) (p.getD (m-1) 0)=true:=e;refine⟨q25 (P.lt m hm) (P.lt (m-1) (by lia)) ?_,m,?_,Qf _,Nat.le_of_lt hm,u,.inr e⟩
   ·rw[e'];trivial
   ·rw[q24,e'];rfl
  |false =>
   have e':c (p.getD m 0) (p.getD (m-1) 0)=false:=e;have up:=u.succ o P h1 hm (o.tot _ _ (P.lt m hm) (P.lt (m-1) (by lia)) (λ z=>by have:=P.inj m (m-1) hm (by lia) z;lia) e);obtain⟨b1,r,b2,b3,b4,b5,b6⟩:=qAh o P f (m+1) (by lia) (by lia) up;refine⟨q25 (P.lt m hm) (P.lt (m-1) (by lia)) ?_,r,?_,by lia,b4,b5,b6⟩
   ·rw[e'];exact b1
   ·rw[q24,e'];exact b2
theorem qAi (o:Ord c n) {p:Array Nat}(P:Pm p n):∀(f m:Nat),1<=m->m+f=n->Dn c p m->BndR c n (kas_desc f p m 0)/\∃r,run c (kas_desc f p m 0)=(p,r,0)/\m<=r/\r<=n/\Dn c p r
 |0,m,h1,hn,u=>⟨trivial,m,rfl,Qf _,by lia,u⟩
 |f+1,m,h1,hn,u=>by
  have hm:m<n:=by lia
  have e0:kas_desc (f+1) p m 0 = .ask (p.getD m 0) (p.getD (m-1) 0) λ c=>if c=true then kas_desc f p (m+1) 0
   else .ask (p.getD (m-1) 0) (p.getD m 0) λ d=>if d=true then .ret (p,m,0) else kas_desc f p (m+1) (0+1):=rfl
  rw[e0];cases e:c (at_ p m) (at_ p (m-1)) with
  |true =>
   have e':c (p.getD m 0) (p.getD (m-1) 0)=true:=e;obtain⟨b1,r,b2,b3,b4,b5⟩:=qAi o P f (m+1) (by lia) (by lia) (u.succ o P h1 hm e);refine⟨q25 (P.lt m hm) (P.lt (m-1) (by lia)) ?_,r,?_,by lia,b4,b5⟩
   ·rw[e'];exact b1
   ·rw[q24,e'];exact b2
  |false =>
   have e':c (p.getD m 0) (p.getD (m-1) 0)=false:=e;have e2:c (at_ p (m-1)) (at_ p m)=true:=o.tot _ _ (P.lt m hm) (P.lt (m-1) (by lia)) (λ z=>by have:=P.inj m (m-1) hm (by lia) z;lia) e;have e2':c (p.getD (m-1) 0) (p.getD m 0)=true:=e2;refine⟨q25 (P.lt m hm) (P.lt (m-1) (by lia)) ?_,m,?_,Qf _,Nat.le_of_lt hm,u⟩
   ·rw[e'];refine q25 (P.lt (m-1) (by lia)) (P.lt m hm) ?_;rw[e2'];trivial
   ·rw[q24,e'];show run c (KasT.ask (p.getD (m-1) 0) (p.getD m 0) λ d=>if d=true then .ret (p,m,0) else kas_desc f p (m+1) (0+1))=_;rw[q24,e2'];rfl
theorem q6Z (hm:m<=p.size) (k:Nat):at_ (kas_rev p 0 m) k=if k<m then at_ p (m-1-k) else at_ p k:=by
 have e:=getElem?_mirror_all (xs:=p) (i:=0) (j:=m) hm k;have g:∀(q:Array Nat) (i:Nat),at_ q i=q[i]?.getD 0:=λ q i=>by unfold at_;simp[Array.getD_eq_getD_getElem?]
 rw[g,show kas_rev p 0 m=mirror p 0 m ((m-0) / 2) from rfl,e]
 by_cases h:k<m
 ·rw[if_pos ⟨QK _,h⟩,if_pos h,g];congr 2;lia
 ·rw[if_neg (λ z=>h z.2),if_neg h,g]
theorem Pm.rev (P:Pm p n) (hm:m<=n):Pm (kas_rev p 0 m) n:=by
 have hs:m<=p.size:=by rw[P.sz];exact hm
 refine⟨by rw[show kas_rev p 0 m=mirror p 0 m ((m-0) / 2) from rfl,mirror_size,P.sz],λ i hi=>?_,λ i j hi hj h=>?_⟩
 ·rw[q6Z hs];split
  ·exact P.lt _ (by lia)
  ·exact P.lt _ hi
 ·rw[q6Z hs,q6Z hs] at h;split at h<;>split at h
  ·have:=P.inj _ _ (by lia) (by lia) h;lia
  ·have:=P.inj _ _ (by lia) (by lia) h;lia
  ·have:=P.inj _ _ (by lia) (by lia) h;lia
  ·exact P.inj _ _ hi hj h
theorem Dn.rev (hm:m<=p.size) (d:Dn c p m):Up c (kas_rev p 0 m) m:=λ i j hij hj=>by rw[q6Z hm,q6Z hm,if_pos (by lia),if_pos hj];exact d _ _ (by lia) (by lia)
theorem qCW (o:Ord c n) (hn:2<=n) (P:Pm p n):BndR c n (kas_count n p)/\∃m q,run c (kas_count n p)=(m,q)/\1<=m/\m<=n/\Pm q n/\Up c q m:=by
 have u1:Up c p 1:=λ i j hij hj=>by lia
 obtain⟨a1,r,hr,a2,a3,a4,a5⟩:=qAh o P (n-1) 1 (Qf _) (by lia) u1;have goal:∀t,t=(if (r==n)=true then KasT.ret (r,p) else if r > 1 then .ask (p.getD 0 0) (p.getD (r-1) 0) λ c=>if c=true then .ret (r,p) else kas_descPart r n (kas_rev p 0 r) else kas_descPart r n p)->BndR c n t/\∃m q,run c t=(m,q)/\1<=m/\m<=n/\Pm q n/\Up c q m:=by
  intro t ht
  by_cases e:r=n
  ·rw[if_pos (by simp[e])] at ht;subst ht;exact⟨trivial,r,p,rfl,a2,a3,P,a4⟩
  ·rw[if_neg (by simpa using e)] at ht
   by_cases e2:r > 1
   ·rw[if_pos e2] at ht;have h0:c (p.getD 0 0) (p.getD (r-1) 0)=true:=a4 0 (r-1) (by lia) (by lia);subst ht;refine⟨q25 (P.lt 0 (by lia)) (P.lt (r-1) (by lia)) ?_,r,p,?_,a2,a3,P,a4⟩
    ·rw[h0];trivial
    ·rw[q24,h0];rfl
   ·rw[if_neg e2] at ht;have er:r=1:=(by lia);subst er;have hlt:c (at_ p 1) (at_ p 0)=true:=by
     rcases a5 with z|z
     ·exact absurd z e
     ·exact z
    have d2:Dn c p 2:=λ i j hij hj=>by have e1:i=0:=(by lia);have e2:j=1:=(by lia);subst e1 e2;exact hlt
    obtain⟨b1,m,b2,b3,b4,b5⟩:=qAi o P (n-2) 2 (by lia) (by lia) d2;have hs:m<=p.size:=(by rw[P.sz];exact b4);obtain⟨k1,k0,k00,k2,k3,k4,k5⟩:=qAh o (P.rev b4) (n-m) m (by lia) (by lia) (b5.rev hs);have t3:BndR c n (kas_tail3 m n p):=q1i k1 trivial;have r3:run c (kas_tail3 m n p)=(k0,kas_rev p 0 m):=by unfold kas_tail3;rw[run_bind,k00];rfl
    have dp:kas_descPart 1 n p=(kas_desc (n-2) p 2 0).bind λ r=>if r.2.2 > 0 then kas_tail3 r.2.1 n (kas_rev r.1 (r.2.1-(r.2.2+1)) r.2.1) else kas_tail3 r.2.1 n r.1:=rfl
    subst ht;rw[dp];refine⟨q1i b1 ?_,_,_,?_,by lia,k3,P.rev b4,k4⟩
    ·rw[b2];dsimp only;rw[if_neg (by simp)];exact t3
    ·rw[run_bind,b2];dsimp only;rw[if_neg (by simp)];exact r3
 obtain⟨g1,g2⟩:=goal _ rfl;refine⟨?_,?_⟩
 ·unfold kas_count;refine q1i a1 ?_;rw[hr];exact g1
 ·unfold kas_count;rw[run_bind,hr];exact g2
theorem q5j (o:Ord c n) {p:Array Nat}(P:Pm p n) {k:Nat}(hk:k<n) (u:Up c p k):∀(f l r:Nat),l<=r->r<=k->r-l<=f->(∀i,i<l->c (at_ p i) (at_ p k)=true)->(∀i,r<=i->i<k->c (at_ p k) (at_ p i)=true)->
  BndR c n (kas_place p k f l r)/\∃m,run c (kas_place p k f l r)=m/\m<=k/\(∀i,i<m->c (at_ p i) (at_ p k)=true)/\∀i,m<=i->i<k->c (at_ p k) (at_ p i)=true
 |0,l,r,hlr,hrk,hf,h1,h2=>⟨trivial,l,rfl,by lia,h1,λ i hi=>h2 i (by lia)⟩
 |f+1,l,r,hlr,hrk,hf,h1,h2=>by
  unfold kas_place
  by_cases e:l≥r
  ·rw[if_pos e];exact⟨trivial,l,rfl,by lia,h1,λ i hi=>h2 i (by lia)⟩
  ·rw[if_neg e];have hmid:(l+r) / 2<r:=(by lia);cases q:c (at_ p k) (at_ p ((l+r) / 2)) with
   |true =>
    have q':c (p.getD k 0) (p.getD ((l+r) / 2) 0)=true:=q;obtain⟨b1,m,b2,b3⟩:=q5j o P hk u f l ((l+r) / 2) (by lia) (by lia) (by lia) h1 (λ i hi hik=>by
     by_cases e3:i=(l+r) / 2
     ·rw[e3];exact q
     ·exact o.tr _ (at_ p ((l+r) / 2)) _ (P.lt _ hk) (P.lt _ (by lia)) (P.lt _ (by lia)) q (u _ _ (by lia) hik))
    refine⟨q25 (P.lt k hk) (P.lt _ (by lia)) ?_,m,?_,b3⟩
    ·rw[q'];exact b1
    ·rw[q24,q'];exact b2
   |false =>
    have q':c (p.getD k 0) (p.getD ((l+r) / 2) 0)=false:=q;have q2:=o.tot _ _ (P.lt k hk) (P.lt ((l+r) / 2) (by lia)) (λ z=>by have:=P.inj k ((l+r) / 2) hk (by lia) z;lia) q;obtain⟨b1,m,b2,b3⟩:=q5j o P hk u f ((l+r) / 2+1) r (by lia) hrk (by lia) (λ i hi=>by
     by_cases e3:i=(l+r) / 2
     ·rw[e3];exact q2
     ·exact o.tr _ (at_ p ((l+r) / 2)) _ (P.lt _ (by lia)) (P.lt _ (by lia)) (P.lt _ hk) (u _ _ (by lia) (by lia)) q2) h2
    refine⟨q25 (P.lt k hk) (P.lt _ (by lia)) ?_,m,?_,b3⟩
    ·rw[q'];exact b1
    ·rw[q24,q'];exact b2
theorem q6a {k:Nat}(hk:k<p.size) (hm:m<=k) (i:Nat):at_ (bubble p k (k-m)) i=if i=m then at_ p k else if m<i/\i<=k then at_ p (i-1) else at_ p i:=by
 have e:=getElem?_bubble (xs:=p) hk (k-m) (by lia) i;have g:∀(q:Array Nat) (i:Nat),at_ q i=q[i]?.getD 0:=λ q i=>by unfold at_;simp[Array.getD_eq_getD_getElem?]
 rw[show k-(k-m)=m by lia] at e;rw[g,e];split
 ·rw[g]
 ·split
  ·rw[g]
  ·rw[g]
theorem qDo (o:Ord c n):∀(f:Nat) (p:Array Nat) (k:Nat),Pm p n->1<=k->k+f=n->Up c p k->BndR c n (kas_bin f p k)/\Pm (run c (kas_bin f p k)) n/\Up c (run c (kas_bin f p k)) n
 |0,p,k,P,h1,hn,u=>⟨trivial,P,show Up c p n from (show k=n by lia)▸u⟩
 |f+1,p,k,P,h1,hn,u=>by
  have hk:k<n:=by lia
  obtain⟨b1,m,hm,b2,b3,b4⟩:=q5j o P hk u k 0 k (QK _) (Qf _) (by lia) (λ i hi=>by lia) (λ i hi hk'=>by lia);have hks:k<p.size:=by rw[P.sz];exact hk
  have P':Pm (bubble p k (k-m)) n:=by
   refine⟨by rw[bubble_size,P.sz],λ i hi=>?_,λ i j hi hj h=>?_⟩
   ·rw[q6a hks b2];split
    ·exact P.lt _ hk
    ·split
     ·exact P.lt _ (by lia)
     ·exact P.lt _ hi
   ·rw[q6a hks b2,q6a hks b2] at h;split at h
    ·split at h
     ·lia
     ·split at h
      ·have:=P.inj _ _ hk (by lia) h;lia
      ·have:=P.inj _ _ hk hj h;lia
    ·split at h
     ·split at h
      ·have:=P.inj _ _ (by lia) hk h;lia
      ·split at h
       ·have:=P.inj _ _ (by lia) (by lia) h;lia
       ·have:=P.inj _ _ (by lia) hj h;lia
     ·split at h
      ·have:=P.inj _ _ hi hk h;lia
      ·split at h
       ·have:=P.inj _ _ hi (by lia) h;lia
       ·exact P.inj _ _ hi hj h
  have u':Up c (bubble p k (k-m)) (k+1):=λ i j hij hj=>by
   rw[q6a hks b2,q6a hks b2]
   by_cases ei:i=m
   ·rw[if_pos ei,if_neg (by lia),if_pos (by lia)];exact b4 _ (by lia) (by lia)
   ·rw[if_neg ei]
    by_cases ej:j=m
    ·rw[if_neg (by lia),if_pos ej];exact b3 _ (by lia)
    ·rw[if_neg ej]
     by_cases ei2:m<i/\i<=k
     ·rw[if_pos ei2,if_pos (by lia)];exact u _ _ (by lia) (by lia)
     ·rw[if_neg ei2]
      by_cases ej2:m<j/\j<=k
      ·rw[if_pos ej2];exact u _ _ (by lia) (by lia)
      ·rw[if_neg ej2];exact u _ _ hij (by lia)
  obtain⟨d1,d2,d3⟩:=qDo o f _ (k+1) P' (by lia) (by lia) u';have e0:kas_bin (f+1) p k=(kas_place p k k 0 k).bind λ l=>kas_bin f (bubble p k (k-l)) (k+1):=rfl;rw[e0];refine⟨q1i b1 (by rw[hm];exact d1),?_,?_⟩
  ·rw[run_bind,hm];exact d2
  ·rw[run_bind,hm];exact d3
theorem q8f:Pm (Jd (Qp n)) n:=by
 have e:∀i,i<n->at_ (Jd (Qp n)) i=i:=λ i hi=>by simp[at_,Array.getD_eq_getD_getElem?,hi]
 refine⟨by simp,λ i hi=>by rw[e i hi];exact hi,λ i j hi hj h=>?_⟩;rw[e i hi,e j hj] at h;exact h
theorem qEp (o:Ord c n) (hn:2<=n):BndR c n (kas_sort n)/\Pm (run c (kas_sort n)) n/\Up c (run c (kas_sort n)) n:=by
 obtain⟨a1,m,q,a2,a3,a4,a5,a6⟩:=qCW o hn (q8f (n:=n));unfold kas_sort
 by_cases e:m<n
 ·obtain⟨b1,b2,b3⟩:=qDo o (n-max m 1) q (max m 1) a5 (by lia) (by lia) (by rw[show max m 1=m by lia];exact a6);refine⟨q1i a1 (by rw[a2];dsimp only;rw[if_pos e];exact b1),?_,?_⟩
  ·rw[run_bind,a2];dsimp only;rw[if_pos e];exact b2
  ·rw[run_bind,a2];dsimp only;rw[if_pos e];exact b3
 ·refine⟨q1i a1 (by rw[a2];dsimp only;rw[if_neg e];trivial),?_,?_⟩
  ·rw[run_bind,a2];dsimp only;rw[if_neg e];exact a5
  ·rw[run_bind,a2];dsimp only;rw[if_neg e];have:m=n:=(by lia);subst this;exact a6
theorem len_sub:∀{a b:List Nat},a.Nodup->(∀x∈a,x∈b)->a.length<=b.length
 |[],_,_,_=>QK _
 |x::a,b,nd,h=>by have hx:=h x Qb;have nd':=QY.mp nd;have:=len_sub (a:=a) (b:=b.erase x) nd'.2 λ y hy=>(List.mem_erase_of_ne (λ (z:y=x)=>nd'.1 (z▸hy))).mpr (h y (Qa _ hy));rw[Jj hx] at this;have:=List.length_pos_of_mem hx;simp only[Qd];lia
theorem Pm.perm (P:Pm p n):p.toList.Perm (Qp n):=by
 have e:p.toList=(Qp n).map (at_ p):=by
  refine List.ext_getElem? λ i=>?_
  by_cases h:i<n
  ·have hs:i<p.size:=(by rw[P.sz];exact h);rw[Qn,Jl h,Array.getElem?_toList];simp[at_,Array.getD_eq_getD_getElem?,hs]
  ·rw[QX (by simp[P.sz];lia),QX (by simp;lia)]
 have nd:p.toList.Nodup:=by
  rw[e];refine List.pairwise_map.mpr (Q5.mpr λ i j hi hj hij h=>?_);have hi':i<n:=by simpa using hi
  have hj':j<n:=by simpa using hj
  have:=P.inj i j hi' hj' (by simpa using h);lia
 refine (List.perm_ext_iff_of_nodup nd List.nodup_range).mpr λ a=>⟨λ h=>?_,λ h=>?_⟩
 ·rw[e] at h;obtain⟨i,hi,rfl⟩:=Qm.mp h;exact QA.mpr (P.lt i (QA.mp hi))
 ·refine Decidable.byContradiction λ hna=>?_;have hsub:∀x∈p.toList,x∈(Qp n).erase a:=λ x hx=>by refine (List.Nodup.mem_erase_iff List.nodup_range).mpr ⟨λ z=>hna (z▸hx),?_⟩;rw[e] at hx;obtain⟨i,hi,rfl⟩:=Qm.mp hx;exact QA.mpr (P.lt i (QA.mp hi))
  have hle:=len_sub nd hsub;rw[Jj h,QW,Array.length_toList,P.sz] at hle;have:=QA.mp h;lia
end
end Srt
namespace Srt
open PySem PySem.W PyProof.Rows
section
variable {prog:Program}{w:World}{A:Around}{E:Value->Shared->Prop}{s:Shared}
noncomputable def pick {α:Type}(p:Array Nat) (xs:List α) (d:α):List α:=p.toList.map λ i=>xs.getD i d
theorem q2z {α:Type}{n:Nat}{p:Array Nat}(P:Pm p n) (xs:List α) (d:α):(pick p xs d).length=n:=by unfold pick;rw[Qe,Array.length_toList,P.sz]
theorem q51 {α:Type}(xs:List α) (d:α):pick (Jd (Qp xs.length)) xs d=xs:=by
 unfold pick;refine List.ext_getElem? λ i=>?_;simp only[List.toList_toArray,Qn]
 by_cases h:i<xs.length
 ·rw[Jl h];simp[h]
 ·rw[QX (by simp;lia),QX (by lia)];rfl
theorem qEq {a:Addr}{vs:List Value}{e0:Nat}{c:Nat->Nat->Bool}{P:PySem.Fin->Shared->Prop}(ho:s.heap.get? a=some (seqObj "list" vs.toArray e0)) (h64:vs.length<64) (o:Ord c vs.length)
  (hk:2<=vs.length->∀h',(∀b x,b≠a->s.heap.get? b=some x->h'.get? b=some x)->wpAny (model prog w) A (keyKind' vs.toArray) (λ κ s'=>s'={s with heap:=h'}/\∀i j C,i<vs.length->j<vs.length->C (c i j) s'->kas_ask prog w A κ vs i j C s') (λ _ _=>False) {s with heap:=h'})
  (fin:∀(p:Array Nat) (h':Heap) (e:Nat),Pm p vs.length->Up c p vs.length->(∀b x,b≠a->s.heap.get? b=some x->h'.get? b=some x)->h'.get? a=some (seqObj "list" (pick p vs Value.none).toArray e)->P (.done (.ret .none)) {s with heap:=h'}) :
  wpAny (model prog w) A (Builtin.«list.sort» ⟨[.ref a],[]⟩) P E s:=by
 have lta:a<s.heap.objs.size:=Heap.lt_size ho;obtain⟨e1,g1⟩:∃e1,(s.heap.update a (Obj.mapSeq λ _=>(#[]:Array Value))).get? a=some (seqObj "list" #[] e1):=⟨_,get?_update_seq ho λ _=>#[]⟩
 generalize hh3:((s.heap.update a (Obj.mapSeq λ _=>(#[]:Array Value))).push (seqObj "tuple" vs.toArray 0)).push (seqObj "list" #[] 0)=h3;have kp:∀b x,b≠a->s.heap.get? b=some x->h3.get? b=some x:=λ b x nb q=>by rw[<-hh3];exact Heap.get?_push_of_some _ (Heap.get?_push_of_some _ ((Heap.get?_update_other _ _ (Ne.symm nb)).trans q))
 have g3:h3.get? a=some (seqObj "list" #[] e1):=by rw[<-hh3];exact Heap.get?_push_of_some _ (Heap.get?_push_of_some _ g1)
 have small:vs.length<=sizeLine:=by rw[sizeLine_eq];lia
 rw[list_sort_plain];refine wpAny_bind (listItems_at ho rfl (wpAny_bind (listUpdate_at ho rfl (wpAny_bind (seqEpoch_at g1 rfl (wpAny_bind (wpAny_newTuple ?_ small)))) (by simpa using small) (QK _))));refine wpAny_bind (wpAny_newList ?_ (QK _));refine wpAny_holding ?_;have hs3:({s with heap:=((s.heap.update a (Obj.mapSeq λ _=>(#[]:Array Value))).push {cls:= .type "tuple",data:= .seq vs.toArray.toList.toArray}).push {cls:= .type "list",data:= .seq ([]:List Value).toArray}}:Shared)={s with heap:=h3}:=by rw[<-hh3]
 rw[hs3];dsimp only
 by_cases h2:vs.toArray.size<2
 ·rw[if_pos h2,if_pos h2];refine wpAny_bind (wpAny_pure ?_);rw[StateT.run_pure];refine wpAny_bind (wpAny_pure ?_);dsimp only;have eo:((vs.toArray.zip vs.toArray).map λ x=>x.2)=vs.toArray:=by apply Array.toList_inj.mp;simp[List.map_snd_zip]
  simp only[eo];refine wpAny_bind (seqEpoch_at g3 rfl (wpAny_bind (listUpdate_at g3 rfl ?_ (QK _) (by simpa using Jh small))));simp only[bne_self_eq_false,QG,if_false];obtain⟨e2,g4⟩:∃e2,(h3.update a (Obj.mapSeq λ _=>vs.toArray)).get? a=some (seqObj "list" vs.toArray e2):=⟨_,get?_update_seq g3 λ _=>vs.toArray⟩
  have hlen:vs.length<2:=by simpa using h2
  refine wpAny_pure (fin (Jd (Qp vs.length)) _ e2 q8f (λ i j hij hj=>by lia) (λ b x nb q=>(Heap.get?_update_other _ _ (Ne.symm nb)).trans (kp b x nb q)) ?_);rw[q51];exact g4
 ·have h2':2<=vs.length:=by have:¬vs.length<2:=(by simpa using h2);lia
  rw[if_neg h2,if_neg h2];obtain⟨so1,so2,so3⟩:=qEp o h2';refine wpAny_bind (wpAny_mono (hk h2' h3 kp) (λ κ s4 h4=>?_) λ _ _ x=>x.elim);obtain⟨rfl,ask⟩:=h4;refine wpAny_bind (wpAny_mono (kat_run (Q:=λ st s5=>s5={s with heap:=h3}/\arrOf st=(run c (kas_sort vs.length)).map (kas_item (vs.toArray.zip vs.toArray))/\failedOf st=none) (G:=λ p s5=>p=run c (kas_sort vs.length)/\s5={s with heap:=h3}) rfl h2' h64 (λ p st s5 a1 a2 a3 a4=>⟨a4.2,by rw[a2,a4.1],a3⟩) (qHQ ask _ so1 ⟨rfl,rfl⟩)) ?_ λ _ _ x=>x);rintro⟨⟨⟩,st⟩ s5 ⟨rfl,har,hf⟩;dsimp only;rw[kat_snds rfl har];have lp:(pick (run c (kas_sort vs.length)) vs Value.none).length=vs.length:=q2z so2 vs _;refine wpAny_bind (seqEpoch_at g3 rfl (wpAny_bind (listUpdate_at g3 rfl ?_ (QK _) (by show (Jd (pick (run c (kas_sort vs.length)) vs Value.none)).size<=_;rw[Ql,lp];exact Jh small))));rw[hf];simp only[bne_self_eq_false,QG,if_false];obtain⟨e2,g4⟩:∃e2,(h3.update a (Obj.mapSeq λ _=>Jd (pick (run c (kas_sort vs.length)) vs Value.none))).get? a=some (seqObj "list" (Jd (pick (run c (kas_sort vs.length)) vs Value.none)) e2):=⟨_,get?_update_seq g3 λ _=>Jd (pick (run c (kas_sort vs.length)) vs Value.none)⟩
  exact wpAny_pure (fin _ _ e2 so2 so3 (λ b x nb q=>(Heap.get?_update_other _ _ (Ne.symm nb)).trans (kp b x nb q)) g4)
theorem qAj {x:Value}{n:Nat}{Gv:List Value->Prop}{c:Nat->Nat->Bool}{Q:Value->Shared->Prop}(h64:n<64) (o:Ord c n) (hlen:∀vs,Gv vs->vs.length=n)
  (hcol:∀(R:List Value->Shared->Prop),(∀vs h' tk,Gv vs->(∀b x,s.heap.get? b=some x->h'.get? b=some x)->R vs {s with heap:=h',toks:=tk})->wpAny (model prog w) A.in1 (collect x) R E s)
  (hk:∀vs,Gv vs->2<=vs.length->∀h' tk,(∀b x,s.heap.get? b=some x->h'.get? b=some x)->wpAny (model prog w) A.in1.in1 (keyKind' vs.toArray) (λ κ s'=>s'={s with heap:=h',toks:=tk}/\∀i j C,i<vs.length->j<vs.length->C (c i j) s'->kas_ask prog w A.in1.in1 κ vs i j C s') (λ _ _=>False) {s with heap:=h',toks:=tk})
  (fin:∀(vs:List Value) (p:Array Nat) (D:Addr) (h':Heap) (tk e:Nat),Gv vs->Pm p n->Up c p n->(∀b x,s.heap.get? b=some x->h'.get? b=some x)->s.heap.get? D=none->h'.get? D=some (seqObj "list" (pick p vs Value.none).toArray e)->Q (.ref D) {s with heap:=h',toks:=tk}) :
  wpAny (model prog w) A (call (.builtin "sorted") [x]) Q E s:=by
 refine Calls.call_function_entry kind_sorted plain_sorted entry_sorted (args_sorted1 _) ?_;unfold Builtin.«sorted»;refine wpAny_bind (m:=checkCount "sorted" 1 1 _) (wpAny_pure (wpAny_bind (hcol _ λ vs h1 tk gv k1=>?_)));have hl:=hlen vs gv;have hle:s.heap.get? h1.objs.size=none:=by
  cases q:s.heap.get? h1.objs.size with
  |none=>rfl
  |some x=>exact absurd (Heap.lt_size (k1 _ _ q)) (Q8 _)
 refine wpAny_bind (wpAny_newList ?_ (by rw[sizeLine_eq];lia));refine wpAny_bind (wpAny_holding (wpAny_call_entry slot_list_sort ⟨_,Heap.get?_push_size _ rfl,rfl⟩ entry_list_sort (qEq (c:=c) (s:={s with heap:=h1.push {cls:= .type "list",data:= .seq vs.toArray},toks:=tk}) (e0:=0) (Heap.get?_push_size _ rfl) (hl▸h64) (hl▸o) (λ h2 h' k=>?_) λ p h' e P U k g=>?_) (args_list_sort _)))
 ·exact hk vs gv h2 h' tk λ b x q=>k b x (QE (Heap.lt_size (k1 b x q))) (Heap.get?_push_of_some _ (k1 b x q))
 ·exact⟨_,rfl,wpAny_pure ⟨_,rfl,fin vs p _ h' tk e gv (hl▸P) (hl▸U) (λ b x q=>k b x (QE (Heap.lt_size (k1 b x q))) (Heap.get?_push_of_some _ (k1 b x q))) hle g⟩⟩
end
end Srt
namespace Snd
open PySem PySem.Spec PyProof.Rows L2 Ev
variable {H:Hp}{h:Heap}{a:Addr}{ds:List D}
theorem q1j {P:Program}{w:World}{o:HO}(x:q1P P w H h a o):∃ob,h.get? a=some ob:=by
 cases o with
 |lst xs=>obtain⟨_,_,_,_,e⟩:=x;exact⟨_,e⟩
 |tup xs=>obtain⟨_,_,_,o,e,_⟩:=x;exact⟨_,e⟩
 |dK kvs=>obtain⟨_,_,_,_,o,_,_,e,_⟩:=x;exact⟨_,e⟩
 |dT kvs=>obtain⟨_,_,_,_,o,_,_,e,_⟩:=x;exact⟨_,e⟩
 |set S n=>obtain⟨o,_,_,_,e,_⟩:=x;exact⟨_,e⟩
 |ins C dx fs=>obtain⟨_,_,_,e,_⟩:=x;exact⟨_,e⟩
 |own y=>obtain⟨_,e⟩:=x;exact⟨_,e⟩
 |xd fs=>obtain⟨_,⟨_,_,_,e,_⟩,_⟩:=x;exact⟨_,e⟩
 |rng lo hi=>obtain⟨_,_,_,e⟩:=x;exact⟨_,e⟩
 |frz ob u=>obtain⟨e,_⟩:=x;exact⟨_,e⟩
 |tbl ps=>exact⟨_,(show h.get? a=some _ from x)⟩
 |met f y=>exact⟨_,(show h.get? a=some _ from x)⟩
 |ext φ=>obtain⟨_,⟨_,e⟩,_⟩:=x;exact⟨_,e⟩
theorem q3s {P:Program}{w:World}(x:HOk P w H h) (n:h.get? a=none):H a=none:=by
 cases q:H a with
 |none=>rfl
 |some o =>
  obtain⟨ob,e⟩:=q1j (x a o q);rw[n] at e;cases e
theorem qEr {X:Cx}{pins:List (Addr×Obj)}{σ:L2.St}{s:Shared}{h':Heap}{o:HO}{t':Nat}(I:Inv X pins σ H s) (k:∀b u,s.heap.get? b=some u->h'.get? b=some u) (hn:s.heap.get? a=none) (new:q1P X.prog X.w (upd H a o) h' a o) :
  Inv X pins σ (upd H a o) {s with heap:=h',toks:=t'}:=by
 have hf:=q3s I.hok hn;have nb:∀b u,s.heap.get? b=some u->b≠a:=λ b u e z=>by rw[z,hn] at e;cases e
 refine I.un ⟨λ b u q _ _ _=>k b u q,λ b u q _ _ _=>⟨u.slots,k b u q⟩,λ b u q n _=>by rw[q05 (nb b u q)];exact n,λ b u q _=>⟨u,k b u q⟩,λ b xs q=>by rw[q05 (q0D q hf)];exact q,λ b u xs q=>by rw[q05 (q0D q hf)];exact q,λ b ps q=>⟨#[],by rw[q05 (q0D q hf),q];simp⟩⟩ λ b u e=>?_
 by_cases hb:b=a
 ·subst hb;rw[q0M] at e;cases e;exact new
 ·rw[q05 hb] at e;exact (I.hok b u e).stay (λ c v _ q=>k c v q) (λ c q=>by rw[q05 (q0D q hf)];exact q) λ c xs q=>by rw[q05 (q0D q hf)];exact q
theorem q5k {h':Heap}(k:∀b o,h.get? b=some o->h'.get? b=some o):(∀d u,Dv h d u->Dv h' d u)/\(∀ds us,DvL h ds us->DvL h' ds us):=by
 refine D.ind (P:=λ d=>∀u,Dv h d u->Dv h' d u) (Q:=λ ds=>∀us,DvL h ds us->DvL h' ds us)
  (λ u r=>r) (λ _ u r=>r) (λ _ u r=>r) (λ _ u r=>r) (λ l ih u r=>?_) (λ l ih u r=>?_) (λ _ _ _ _ u r=>r) (λ _ u r=>r) (λ us r=>r) (λ d ds ih1 ih2 us r=>?_)
 ·obtain⟨a,us,rfl,⟨o,e,c⟩,r1⟩:=r;exact⟨a,us,rfl,⟨o,k _ _ e,c⟩,ih _ r1⟩
 ·obtain⟨a,us,rfl,⟨o,e,c⟩,r1⟩:=r;exact⟨a,us,rfl,⟨o,k _ _ e,c⟩,ih _ r1⟩
 ·obtain⟨u,r',rfl,h1,h2⟩:=r;exact⟨u,r',rfl,ih1 _ h1,ih2 _ h2⟩
theorem q5l:∀l:List D,(dedup l).length<=l.length
 |[]=>Qf _
 |x::l=>by
  unfold dedup;split
  ·exact Jh (q5l l)
  ·exact Nat.succ_le_succ (q5l l)
theorem q52:∀{l:List D},qEK l=true->(∀d∈l,q02 d=true)->l.Pairwise (·≠·)
 |[],_,_=> .nil
 |x::l,h,hh=>by
  have h':(dedup (x::l)).length=(x::l).length:=of_decide_eq_true h;unfold dedup at h';split at h'
  ·have:=q5l l;simp only[Qd] at h';lia
  ·rename_i c;refine QC.mpr ⟨λ y hy z=>c ?_,q52 (decide_eq_true (by simpa using h')) λ d hd=>hh d (Qa _ hd)⟩;refine List.any_eq_true.mpr ⟨y,hy,(q0Z (hh x Qb) (hh y (Qa _ hy))).mpr z⟩
structure SoOk (ds:List D):Prop where
 len:ds.length<64
 hsh:∀d∈ds,q02 d=true
 pln:∀d∈ds,pl d=true
 cmp:∀a∈ds,∀b∈ds,q0e a b=true
 dif:ds.Pairwise (·≠·)
theorem qEs (h:q1t ds=true):SoOk ds/\((∀d∈ds,q47 d=true)\/∀d∈ds,q1X d=true):=by unfold q1t at h;simp only[Qg,Bool.or_eq_true,Qs] at h;obtain⟨⟨⟨⟨⟨h1,h2⟩,h3⟩,h4⟩,h5⟩,h6⟩:=h;have h2':=q0K.mp h2;refine⟨⟨of_decide_eq_true h1,h2',q1R.mp h3,λ a ha b hb=>?_,q52 h5 h2'⟩,h6⟩;unfold q5Q at h4;simp only[Qs] at h4;exact h4 a ha b hb
noncomputable def cOf (ds:List D) (i j:Nat):Bool:=ltb (ds.getD i .non) (ds.getD j .non)
theorem getD_mem {i:Nat}(h:i<ds.length):ds.getD i .non∈ds:=by
 have:ds.getD i .non=ds[i]:=by simp[h]
 rw[this];exact QU h
theorem SoOk.ord (h:SoOk ds):Srt.Ord (cOf ds) ds.length:=by
 refine⟨λ i hi=>q7a (h.hsh _ (getD_mem hi)),λ i j hi hj ne hc=>?_,λ i j k hi hj hk a b=>q49 (h.hsh _ (getD_mem hi)) (h.hsh _ (getD_mem hj)) (h.hsh _ (getD_mem hk)) a b⟩;rcases q7c (h.hsh _ (getD_mem hi)) (h.hsh _ (getD_mem hj)) (h.cmp _ (getD_mem hi) _ (getD_mem hj)) with z|z|z
 ·have hc':ltb (ds.getD i .non) (ds.getD j .non)=false:=hc;rw[z] at hc';cases hc'
 ·exfalso;have ei:ds.getD i .non=ds[i]:=by simp[hi]
  have ej:ds.getD j .non=ds[j]:=by simp[hj]
  rw[ei,ej] at z;rcases Nat.lt_or_gt_of_ne ne with l|l
  ·exact Q5.mp h.dif i j hi hj l z
  ·exact Q5.mp h.dif j i hj hi l z.symm
 ·exact z
theorem qAk (h:SoOk ds) {p:Array Nat}(P:Srt.Pm p ds.length) (U:Srt.Up (cOf ds) p ds.length):Srt.pick p ds .non=q1y ds:=by
 have perm:(Srt.pick p ds .non).Perm ds:=by
  have:=P.perm.map λ i=>ds.getD i .non;have e:(Qp ds.length).map (λ i=>ds.getD i .non)=ds:=by have:=Srt.q51 ds (.non:D);unfold Srt.pick at this;simpa using this
  rw[e] at this;exact this
 have hm:∀d∈Srt.pick p ds .non,d∈ds:=λ d hd=>perm.mem_iff.mp hd;refine q3H (perm.trans (q0v ds).symm) (λ d hd=>h.hsh d (hm d hd)) (λ a ha b hb=>h.cmp a (hm a ha) b (hm b hb)) ?_ (q1z h.hsh);refine Q5.mpr λ i j hi hj hij=>?_;have li:i<ds.length:=by rw[<-Srt.q2z P ds .non];exact hi
 have lj:j<ds.length:=by rw[<-Srt.q2z P ds .non];exact hj
 have at1:∀k (hk:k<(Srt.pick p ds .non).length),(Srt.pick p ds .non)[k]=ds.getD (Srt.at_ p k) .non:=λ k hk=>by
  have lk:k<p.size:=by rw[P.sz,<-Srt.q2z P ds .non];exact hk
  simp[Srt.pick,Srt.at_,Array.getD_eq_getD_getElem?,lk]
 rw[at1 i hi,at1 j hj];have:=U i j hij lj;exact h.ord.asym (P.lt i li) (P.lt j lj) this
end Snd
namespace Snd
open PySem PySem.Spec PySem.W PyProof.Rows L2 Ev
variable {ds:List D}{us:List Value}
section
variable {prog:Program}{w:World}{A:Around}{E:Value->Shared->Prop}{s:Shared}
theorem qDp {k:Nat}(hu:A.units+k<cLine) {b fin:Bool}{Q:Bool->Shared->Prop}:∀{ds es:List D}{us vs:List Value}(i:Nat),1<=i->DvL s.heap ds us->DvL s.heap es vs->(∀d∈ds,plN k d=true)->(∀d∈es,plN k d=true)->(∀d∈ds,q02 d=true)->(∀d∈es,q02 d=true)->
  q0Y ds es=true->fin=decide (ds.length<es.length)->Q (ltbL ds es) s->KatLex prog w A b fin Q (us.zip vs) i s
 |[],es,us,vs,i,hi,x,y,p1,p2,g1,g2,c,hf,q=>by
  cases (show us=[] from x);rw[List.zip_nil_left];refine kat_nil ?_;rw[hf];cases es with
  |nil=>simpa[ltbL] using q
  |cons e es=>simpa[ltbL] using q
 |d::ds,[],us,vs,i,hi,x,y,p1,p2,g1,g2,c,hf,q=>by cases (show vs=[] from y);rw[List.zip_nil_right];refine kat_nil ?_;rw[hf];simpa[ltbL] using q
 |d::ds,e::es,us,vs,i,hi,x,y,p1,p2,g1,g2,c,hf,q=>by
  obtain⟨u,us',rfl,x1,x2⟩:=x;obtain⟨v,vs',rfl,y1,y2⟩:=y;rw[Jn];have pd:=p1 d Qb;have pe:=p2 e Qb;have gd:=g1 d Qb;have ge:=g2 e Qb;rw[ltbL] at q;rw[q0Y] at c;refine kat_cons (q22 k pd pe x1 y1 hu prog w _ _ ?_);cases z:eqb d e with
  |true =>
   rw[z,if_pos rfl] at q c;refine kat_yes (qDp hu (i+1) (by lia) x2 y2 (λ d hd=>p1 d (Qa _ hd)) (λ d hd=>p2 d (Qa _ hd)) (λ d hd=>g1 d (Qa _ hd)) (λ d hd=>g2 d (Qa _ hd)) c ?_ q);rw[hf];simp
  |false =>
   rw[z,if_neg (by simp)] at q c;refine kat_no ?_;have hb:(b&&i==0)=false:=by have:(i==0)=false:=(by simp;lia);rw[this,Bool.and_false]
   rw[hb];exact kat_one _ _ ((q6T k pd pe gd ge c x1 y1 hu).1 prog w _ _ q)
theorem qHR {k:Nat}(hu:A.units+k<cLine) {Q:Bool->Shared->Prop}{d e:D}{u v:Value}(td:q1W d=true) (te:q1W e=true) (x:Dv s.heap d u) (y:Dv s.heap e v) (p1:plN (k+1) d=true) (p2:plN (k+1) e=true) (g1:q02 d=true) (g2:q02 e=true)
  (c:q0e d e=true) (q:Q (ltb d e) s):wpAny (model prog w) A (keyLt' (tuples' true) u v) Q E s:=by
 unfold q1W at td te;split at td
 ·rename_i i ds;split at te
  ·rename_i j es;obtain⟨a,us,rfl,⟨ox,hx,cx,n1,dx⟩,x1⟩:=x;obtain⟨b,vs,rfl,⟨oy,hy,cy,n2,dy⟩,y1⟩:=y;obtain⟨u1,us',rfl,⟨t1,rfl⟩,x2⟩:=x1;obtain⟨v1,vs',rfl,⟨t2,rfl⟩,y2⟩:=y1;rw[q11,Qs] at p1 p2;have g1':q09 (D.int i::ds)=true:=g1;have g2':q09 (D.int j::es)=true:=g2;have g1'':=q0K.mp g1';have g2'':=q0K.mp g2';have c':q0Y (D.int i::ds) (D.int j::es)=true:=c;have q':Q (ltbL (D.int i::ds) (D.int j::es)) s:=q;refine kat_lt hx dx hy dy ?_;show KatLex prog w A true _ Q ((Value.int i t1,Value.int j t2)::us'.zip vs') 0 s;refine kat_cons (SeqAt.EqAt.int_int i t1 j t2 prog w _ _ ?_);rw[ltbL] at q';rw[q0Y] at c';have lx:=x2.length;have ly:=y2.length;have eq1:eqb (D.int i) (D.int j)=(i==j):=by have:eqb (D.int i) (D.int j)=decide (i=j):=(by simp[eqb]);rw[this,QP];simp
   rw[eq1] at q' c';cases z:(i==j) with
   |true =>
    rw[z,if_pos rfl] at q' c';refine kat_yes (qDp hu 1 (Qf _) x2 y2 (λ d hd=>p1 d (Qa _ hd)) (λ d hd=>p2 d (Qa _ hd)) (λ d hd=>g1'' d (Qa _ hd)) (λ d hd=>g2'' d (Qa _ hd)) c' ?_ q');simp[lx,ly]
   |false =>
    rw[z,if_neg (by simp)] at q' c';refine kat_no ?_;have e3:ltb (D.int i) (D.int j)=decide (i<j):=(by simp[ltb]);rw[e3] at q';exact oneLt_int q'
  ·cases te
 ·cases td
theorem q6b {h:Heap}:∀{ds:List D}{us:List Value},DvL h ds us->(∀d∈ds,q1W d=true)->∃fs,KatTups h us fs/\fs.length=ds.length/\∀f∈fs,∃i t,f=Value.int i t
 |[],us,x,_=>by cases (show us=[] from x);exact⟨[],KatTups.nil,rfl,λ f hf=>absurd hf (by simp)⟩
 |d::ds,us,x,t=>by
  obtain⟨u,r,rfl,x1,x2⟩:=x;obtain⟨fs,k1,k2,k3⟩:=q6b x2 λ d hd=>t d (Qa _ hd);have td:=t d Qb;unfold q1W at td;split at td
  ·rename_i i0 tl0;obtain⟨a,us,rfl,⟨ox,hx,cx,n1,dx⟩,y1⟩:=x1;obtain⟨u1,us',rfl,⟨t1,rfl⟩,y2⟩:=y1;refine⟨Value.int i0 t1::fs,KatTups.cons hx cx dx (by simp) k1,by simp[k2],λ f hf=>?_⟩;rcases Qh.mp hf with rfl|hf
   ·exact⟨_,_,rfl⟩
   ·exact k3 f hf
  ·cases td
theorem q3M {h:Heap}(x:DvL h ds us) {i:Nat}(hi:i<ds.length):Dv h (ds.getD i .non) (us.getD i Value.none):=by
 obtain⟨u,e1,e2⟩:=x.get (i:=i) (d:=ds[i]) (by simp[hi]);have e3:ds.getD i .non=ds[i]:=by simp[hi]
 have e4:us.getD i Value.none=u:=by simp[Jq,e1]
 rw[e3,e4];exact e2
theorem qAl (hu:A.units+8<cLine) (so:SoOk ds) (hI:∀d∈ds,q1W d=true) (x:DvL s.heap ds us) (h2:2<=us.length) :
  wpAny (model prog w) A (keyKind' us.toArray) (λ κ s'=>s'=s/\∀i j C,i<us.length->j<us.length->C (cOf ds i j) s'->kas_ask prog w A κ us i j C s') (λ _ _=>False) s:=by
 have hl:=x.length;obtain⟨fs,k1,k2,k3⟩:=q6b x hI;refine kat_kind (T:= .type "int") k1 (by lia) (λ v hv=>?_) (by decide) ⟨rfl,λ i j C hi hj hC=>?_⟩
 ·obtain⟨i,t,rfl⟩:=k3 v hv;exact Looks.of_pure rfl
 ·have mi:=getD_mem (ds:=ds) (i:=i) (by lia);have mj:=getD_mem (ds:=ds) (i:=j) (by lia);exact qHR (k:=7) (by lia) (hI _ mi) (hI _ mj) (q3M x (by lia)) (q3M x (by lia)) (so.pln _ mi) (so.pln _ mj) (so.hsh _ mi) (so.hsh _ mj) (so.cmp _ mi _ mj) hC
theorem q8g:∀{ds:List D}{us:List Value}{Q:List (Option Value)->Shared->Prop},DvL s.heap ds us->(∀d∈ds,q1X d=true)->(∀fs:List (Option Value),fs.length=ds.length->(∀i:Nat,i<ds.length->((fs.getD i none).isSome=true↔q1W (ds.getD i .non)=true))->Q fs s)->wpAny (model prog w) A (us.mapM firstOfTuple') Q E s
 |[],us,Q,x,_,h=>by cases (show us=[] from x);rw[List.mapM_nil];exact wpAny_pure (h [] rfl λ i hi=>absurd hi (by simp))
 |d::ds,us,Q,x,t,h=>by
  obtain⟨u,r,rfl,x1,x2⟩:=x;have td:=t d Qb;have rest:∀f:Option Value,(f.isSome=true↔q1W d=true)->wpAny (model prog w) A (r.mapM firstOfTuple') (λ bs s'=>wpAny (model prog w) A (pure (f::bs)) Q E s') E s:=λ f hf =>
   q8g x2 (λ d hd=>t d (Qa _ hd)) λ fs l1 l2=>wpAny_pure (h (f::fs) (by simp[l1]) λ i hi=>by
    cases i with
    |zero=>exact hf
    |succ i=>exact l2 i (by simpa using hi))
  rw[List.mapM_cons];refine wpAny_bind ?_;rw[kas_first_eq];have go:∀(a:Addr) (vs:List Value),u = .ref a->IsTup s.heap a vs.toArray->(vs[0]?.isSome=true↔q1W d=true)->wpAny (model prog w) A (do
    if (<-typeOf u) != .type "tuple" then return none
    return (<-Builtin.List.listItems u)[0]?) (λ f s'=>wpAny (model prog w) A (r.mapM firstOfTuple' >>= λ bs=>pure (f::bs)) Q E s') E s:=λ a vs hu0 ht hf=>by
   subst hu0;obtain⟨o,ho,hc,n,hd⟩:=ht;refine wpAny_bind (Looks.here (show Looks (model prog w) s.heap (typeOf (.ref a)) o.cls from (Looks.ld ho).andThen .now) ?_);rw[hc,if_neg (by first|decide|simp)];refine wpAny_bind (listItems_at ho hd (wpAny_pure ?_));have e:vs.toArray[0]? = vs[0]?:=(by simp);rw[e];exact wpAny_bind (rest _ hf)
  unfold q1X at td;split at td
  ·obtain⟨a,vs,rfl,z,y1⟩:=x1;cases (show vs=[] from y1);exact go a [] rfl z (by simp[q1W])
  ·obtain⟨a,vs,rfl,z,y1⟩:=x1;obtain⟨u1,us',rfl,_,_⟩:=y1;exact go a _ rfl z (by simp[q1W])
  ·cases td
theorem qAm {k:Nat}(hu:A.units+(k+1)<cLine) {Q:Bool->Shared->Prop}{d e:D}{u v:Value}(td:q1X d=true) (te:q1X e=true) (x:Dv s.heap d u) (y:Dv s.heap e v) (p1:plN (k+1) d=true) (p2:plN (k+1) e=true) (g1:q02 d=true) (g2:q02 e=true)
  (c:q0e d e=true) (q:Q (ltb d e) s) (b:Bool):wpAny (model prog w) A (oneLt' b u v) Q E s:=by
 cases b with
 |false=>exact kat_one _ _ ((q6T (k+1) p1 p2 g1 g2 c x y hu).1 prog w _ _ q)
 |true =>
  obtain⟨ds,rfl⟩:∃ds,d = .tup ds:=by unfold q1X at td;split at td<;>first|exact⟨_,rfl⟩|cases td
  obtain⟨es,rfl⟩:∃es,e = .tup es:=by unfold q1X at te;split at te<;>first|exact⟨_,rfl⟩|cases te
  obtain⟨a,us,rfl,x1,x2⟩:=x;obtain⟨b,vs,rfl,y1,y2⟩:=y;rw[q11] at p1 p2;have c':q0Y ds es=true:=by simpa[q0e] using c
  have h1':q09 ds=true:=by simpa[q02] using g1
  have h2':q09 es=true:=by simpa[q02] using g2
  obtain⟨⟨cls,dd,data,sl⟩,ho,hc,n,hd⟩:=id x1;obtain⟨⟨cls2,dd2,data2,sl2⟩,ho2,hc2,n2,hd2⟩:=id y1;simp only at hc hd hc2 hd2;subst hc hd hc2 hd2;have e1:ltb (.tup ds) (.tup es)=ltbL ds es:=by simp[ltb]
  rw[e1] at q;rw[oneLt'_eq];simp only[if_true];refine wpAny_bind (wpAny_cRoomFor (by lia) ?_);refine wpAny_bind (wpAny_callSpecialIfBound?_slot ⟨_,ho,rfl⟩ PySem.F.slot_tuple_lt (call_meets PySem.F.slot_tuple_lt ⟨_,ho,rfl⟩ PySem.F.entry_tuple_lt (PySem.F.args_tuple_lt_2 _ _) (q6S a b us vs n n2 dd dd2 sl sl2 ds es c') ⟨ho,ho2,x2,y2,λ d hd e he u v x y=>?_,?_⟩))
  ·have hu':A.in1.units+k<cLine:=(by rw[Around.in1_units];lia);have q1:=Qs.mp p1 d hd;have q2:=Qs.mp p2 e he;exact⟨q22 k q1 q2 x y hu',λ c=>(q6T k q1 q2 (q0K.mp h1' d hd) (q0K.mp h2' e he) c x y hu').1⟩
  ·exact wpAny_truthy_bool q
theorem qAn (hu:A.units+8<cLine) (so:SoOk ds) (hk:∀d∈ds,q1X d=true) (hI:¬∀d∈ds,q1W d=true) (x:DvL s.heap ds us) (h2:2<=us.length) :
  wpAny (model prog w) A (keyKind' us.toArray) (λ κ s'=>s'=s/\∀i j C,i<us.length->j<us.length->C (cOf ds i j) s'->kas_ask prog w A κ us i j C s') (λ _ _=>False) s:=by
 have hl:=x.length;have lt:∀(b:Bool) (i j:Nat) (C:Bool->Shared->Prop),i<us.length->j<us.length->C (cOf ds i j) s->wpAny (model prog w) A (oneLt' b (us.getD i Value.none) (us.getD j Value.none)) C (λ _ _=>False) s:=λ b i j C hi hj hC=>by have mi:=getD_mem (ds:=ds) (i:=i) (by lia);have mj:=getD_mem (ds:=ds) (i:=j) (by lia);exact qAm (k:=7) (by lia) (hk _ mi) (hk _ mj) (q3M x (by lia)) (q3M x (by lia)) (so.pln _ mi) (so.pln _ mj) (so.hsh _ mi) (so.hsh _ mj) (so.cmp _ mi _ mj) hC b
 rw[keyKind'_eq,List.mapM_toArray,map_eq_pure_bind];refine wpAny_bind (wpAny_bind (q8g x hk λ fs l1 l2=>wpAny_pure ?_));have hna:¬(fs.toArray.all (·.isSome))=true:=λ h=>hI λ d hd=>by
  obtain⟨i,hi,rfl⟩:=List.mem_iff_getElem.mp hd;have h':fs.all (·.isSome)=true:=by simpa using h
  have:=Qs.mp h' (fs[i]'(by lia)) (QU _);have z:=(l2 i hi).mp (by simpa[Jq,show i<fs.length by lia] using this);simpa[Jq,hi] using z
 rw[if_neg hna]
 by_cases h0:(fs.toArray[0]?.bind id).isSome=true
 ·rw[if_pos h0];exact wpAny_pure ⟨rfl,λ i j C hi hj hC=>lt false i j C hi hj hC⟩
 ·rw[if_neg h0];have ty:∀v∈us,Looks (model prog w) s.heap (typeOf v) (.type "tuple"):=λ v hv=>by
   obtain⟨d,hd,dv⟩:=x.mem hv;have:=hk d hd;obtain⟨es,rfl⟩:∃es,d = .tup es:=by unfold q1X at this;split at this<;>first|exact⟨_,rfl⟩|cases this
   obtain⟨a,vs,rfl,⟨o,ho,hc,n,hdd⟩,_⟩:=dv;exact hc▸(show Looks (model prog w) s.heap (typeOf (.ref a)) o.cls from (Looks.ld ho).andThen .now)
  rw[oneTypeOnly'_eq,List.mapM_toArray,map_eq_pure_bind];refine wpAny_bind (wpAny_bind (wpAny_bind (kas_mapM (r:=Value.type "tuple") _ (λ v hv Q' hq=>(ty v hv).here hq) (wpAny_pure ?_))));obtain⟨u0,ur,rfl⟩:∃u0 ur,us=u0::ur:=by
   match us,h2 with
   |u0::ur,_=>exact⟨u0,ur,rfl⟩
  have hall:((List.map (λ _=>Value.type "tuple") (u0::ur)).toArray.all λ x=>x==Value.type "tuple")=true:=by simp only[List.all_toArray,List.all_map,Qs];intro _ _;rfl
  have h00:(List.map (λ _=>Value.type "tuple") (u0::ur)).toArray[0]? = some (Value.type "tuple"):=by simp
  rw[h00];simp only[hall,if_true];exact wpAny_pure (wpAny_pure ⟨rfl,λ i j C hi hj hC=>lt true i j C hi hj hC⟩)
theorem qEt (hu:A.units+8<cLine) (so:SoOk ds) (hk:(∀d∈ds,q47 d=true)\/∀d∈ds,q1X d=true) (x:DvL s.heap ds us) (h2:2<=us.length) :
  wpAny (model prog w) A (keyKind' us.toArray) (λ κ s'=>s'=s/\∀i j C,i<us.length->j<us.length->C (cOf ds i j) s'->kas_ask prog w A κ us i j C s') (λ _ _=>False) s:=by
 have hl:=x.length;rcases hk with hk|hk
 ·have allI:∀u∈us,∃i t,u=Value.int i t:=λ u hu=>by
   obtain⟨d,hd,dv⟩:=x.mem hu;have:=hk d hd;unfold q47 at this;split at this
   ·obtain⟨t,e⟩:=dv;exact⟨_,t,e⟩
   ·cases this
  refine kas_kind (T:= .type "int") h2 (λ v hv=>?_) (by decide) (by decide) ⟨rfl,λ i j C hi hj hC=>?_⟩
  ·obtain⟨i,t,rfl⟩:=allI v hv;exact Looks.of_pure rfl
  ·have di:=q3M x (i:=i) (by lia);have dj:=q3M x (i:=j) (by lia);have ki:=hk _ (getD_mem (ds:=ds) (i:=i) (by lia));have kj:=hk _ (getD_mem (ds:=ds) (i:=j) (by lia));unfold cOf at hC;unfold kas_ask;unfold q47 at ki kj;split at ki
   ·rename_i m e1;split at kj
    ·rename_i n e2;rw[e1] at di hC;rw[e2] at dj hC;obtain⟨t1,f1⟩:=di;obtain⟨t2,f2⟩:=dj;rw[f1,f2];refine kat_lt_int ?_;have e3:ltb (D.int m) (D.int n)=decide (m<n):=(by simp[ltb]);rw[e3] at hC;exact hC
    ·cases kj
   ·cases ki
 ·by_cases hI:∀d∈ds,q1W d=true
  ·exact qAl hu so hI x h2
  ·exact qAn hu so hk hI x h2
end
section
variable {X:Cx}{p:Pm}{G:Nat->List D->R D}{sub:Nat->Nat->Bool}
theorem q8h {Hf:Hp}{ds:List D}{vs:List V}(r:RepL p Hf ds vs):∀{l:List Nat},(∀i∈l,i<ds.length)->RepL p Hf (l.map λ i=>ds.getD i .non) (l.map λ i=>vs.getD i .non)
 |[],_=>rfl
 |i::l,h=>by
  have hi:=h i Qb;obtain⟨v,e1,e2⟩:=r.get (i:=i) (d:=ds[i]) (by simp[hi]);refine⟨vs.getD i .non,_,rfl,?_,q8h r λ i hi=>h i (Qa _ hi)⟩;have e3:ds.getD i .non=ds[i]:=by simp[hi]
  have e4:vs.getD i .non=v:=by simp[Jq,e1]
  dsimp only;rw[e3,e4];exact e2
theorem q6c {vs:List V}{us:List Value}(r:Vals vs us):∀{l:List Nat},(∀i∈l,i<vs.length)->Vals (l.map λ i=>vs.getD i .non) (l.map λ i=>us.getD i Value.none)
 |[],_=> .nil
 |i::l,h=>by
  have hi:=h i Qb;obtain⟨u,e1,e2⟩:=r.get (i:=i) (x:=vs[i]) (by simp[hi]);have e3:vs.getD i .non=vs[i]:=by simp[hi]
  have e4:us.getD i Value.none=u:=by simp[Jq,e1]
  refine .cons ?_ (q6c r λ i hi=>h i (Qa _ hi));dsimp only;rw[e3,e4];exact e2
theorem q7k {E:Value->Shared->Prop}{pins:List (Addr×Obj)}{s:Shared}{σ:L2.St}{H:Hp}{O:List Addr}{vs:List V}{q:Array Nat}{Dd:Addr}{h':Heap}{tk e n:Nat}(I:Inv X pins σ H s) (t:Th O H) (r1:RepL p (fz O H) ds vs) (rv:Vals vs us) (hz:vs.length<=sizeLine)
  (P:Srt.Pm q n) (hn:n=ds.length) (k:∀b x,s.heap.get? b=some x->h'.get? b=some x) (nD:s.heap.get? Dd=none) (g:h'.get? Dd=some (seqObj "list" (Srt.pick q us Value.none).toArray e)) :
  EP (X.wish E) pins σ (Fin p O H (.lst (Srt.pick q ds .non))) (.ref Dd) {s with heap:=h',toks:=tk}:=by
 have hl:=r1.length;have lt:∀i∈q.toList,i<ds.length:=λ i hi=>by have:=P.perm.mem_iff.mp hi;rw[<-hn];exact QA.mp this
 have lt2:∀i∈q.toList,i<vs.length:=λ i hi=>hl▸lt i hi;have hf:=q3s I.hok nD;refine⟨.ref Dd,upd H Dd (.lst (Srt.pick q vs .non)),(qEr (o:= .lst (Srt.pick q vs .non)) I k nD ⟨?_,_,_,q6c rv lt2,g⟩).wish E,rfl,Ext.upd hf,Dd,_,rfl,SqL.of (qAW t hf),(q8h r1 lt).mono (q1E (Ext.upd hf))⟩;rw[Srt.q2z P,hn,hl];exact hz
end
end Snd
namespace Snd
open PySem PySem.Spec PyProof.Rows L2 Ev
variable {h:Heap}{pins:List (Addr×Obj)}{σ:L2.St}{H:Hp}{b:Addr}{c:Nat}
section
variable {K:PySem.W.Frag}{M:Model}{A:Around}{E:Value->Shared->Prop}{s:Shared}{B:Heap}{l outer:List PySem.Env}{env:PySem.Env}{e L:Addr}{cls a0 fl:Value}{Q:Unit->Shared->Prop}
theorem q6d {o:Option Addr}(h:TrW K B l e cls a0 fl s.heap) (hQ:∀h',TrW K B l e cls a0 (o.elim Value.none λ f=>rawInt f) h'->s.heap.UpToSlots h'->Q () {s with heap:=h'}):wpAny M A (setFlight (.ref e) o) Q E s:=by
 obtain⟨k1,k2,k3,oe,vs,T,oT,ts,g1,g2,g3,g4,g5,g6,g7,g8,g9⟩:=h;have sz:3<ts.size:=(Array.getElem?_eq_some_iff.mp g9.1).1;generalize hv:(o.elim Value.none λ f=>rawInt f)=fv at hQ;have oth:∀b,b≠T->(s.heap.update T (Obj.mapFields λ x=>x.setIfInBounds 3 fv)).get? b=s.heap.get? b:=λ b nb=>Heap.get?_update_other _ _ (Ne.symm nb);have nrec:∀b x,s.heap.get? b=some x->(∀vs,x.data ≠ .fields vs)->b≠T:=λ b x q nf z=>by rw[z,g7] at q;cases q;exact nf ts g8
 unfold setFlight;refine wpAny_bind (wpAny_field g1 g3 g4 ?_);have ht:(Value.ref T != Value.none)=true:=by simp
 rw[if_pos ht,hv];refine wpAny_setField g7 g8 sz (hQ _ ⟨λ b x q=>(oth b λ z=>by rw[z,g5] at q;cases q).trans (k1 b x q),k2,k3.of_keeps λ b x q nf=>⟨x,(oth b (nrec b x q nf)).trans q,rfl⟩,?_⟩ λ b x q nf=>⟨x.slots,(oth b (nrec b x q nf)).trans q⟩);exact⟨oe,vs,T,_,_,(oth e (Ne.symm g6)).trans g1,g2,g3,g4,g5,g6,Heap.get?_update_self _ g7 (Obj.isFreed_of_fields (Obj.data_mapFields g8 _)),Obj.data_mapFields g8 _,by simp[sz],g9.2⟩
theorem qAo {oe:Obj}{vs:Array Value}{head x:Value}{hadNext:Bool}(hfr:A.frames=some (env::outer)) (hl:s.heap.FunFrames B (env::outer)) (hf:env.frame=some L) (he:s.heap.get? e=some oe) (hkb:B.StaysIn s.heap) (hen:B.get? e=none) (hd:oe.data = .fields vs) (hsz:1<vs.size) (h0:vs[0]? = some a0) (h2:vs[2]? = some x) (hx:x = .none\/PySem.W.nsIn K mainGlobals "BadText" = some (some oe.cls))
  (h:∀h',TrW K B (env::outer) e oe.cls a0 (rawInt L) h'->s.heap.UpToSlots h'->Q () {s with heap:=h'}) :
  wpAny M A (do let a <-PySem.frameOf env;let pl <-entryPlaceOf L hadNext;let b <-EntryCells.newEntry head a .none (rawInt L) .none pl;setField (.ref e) 1 b) Q E s:=by
 have ne:e∉(env::outer).filterMap (·.frame):=λ hm=>by obtain⟨_,o,ho,hn⟩:=hl.mem hm;rw[he] at ho;cases ho;exact hn vs hd
 refine wpAny_bind (wpAny_frameOf_fun hfr hl hf λ h1 s1=>?_);refine wpAny_bind (wpAny_entryPlaceOf λ pl hpl=>?_);unfold EntryCells.newEntry newFields;refine wpAny_bind (wpAny_newObj_type ?_ (hpl.sizeOk5 _ _ _ _ _));have e1:h1.get? e=some oe:=(s1.2.1 e ne).trans he;have k1:B.StaysIn h1:=λ b o q=>(s1.2.1 b λ hm=>by rw[(hl.mem hm).1] at q;cases q).trans (hkb b o q);generalize hob:({cls:= .type "traceback",dict:=none,data:= .fields ([head,.ref L,.none,rawInt L,.none]++(if pl.isEmpty then Qo 6 Value.none else pl)).toArray}:Obj)=ob;have dob:ob.data = .fields ([head,.ref L,.none,rawInt L,.none]++(if pl.isEmpty then Qo 6 Value.none else pl)).toArray:=by rw[<-hob]
 have e2:=Heap.get?_push_of_some (h:=h1) ob e1;refine wpAny_setField e2 hd hsz ?_;have nTe:h1.objs.size≠e:=Nat.ne_of_gt (Heap.lt_size e1);have d3:=Obj.data_mapFields hd (·.setIfInBounds 1 (Value.ref h1.objs.size));have e3:=Heap.get?_update_self (Obj.mapFields (·.setIfInBounds 1 (Value.ref h1.objs.size))) e2 (Obj.isFreed_of_fields d3);have keep:∀b o,b≠e->h1.get? b=some o->((h1.push ob).update e (Obj.mapFields (·.setIfInBounds 1 (Value.ref h1.objs.size)))).get? b=some o:=λ b o hb q=>by rw[Heap.get?_update_other _ _ (Ne.symm hb)];exact Heap.get?_push_of_some _ q
 have nrec:∀b o,s.heap.get? b=some o->(∀vs,o.data ≠ .fields vs)->b≠e:=λ b o q hn z=>by rw[z,he] at q;cases q;exact hn vs hd
 have t3:((h1.push ob).update e (Obj.mapFields (·.setIfInBounds 1 (Value.ref h1.objs.size)))).get? h1.objs.size=some ob:=by rw[Heap.get?_update_other _ _ (Ne.symm nTe)];exact Heap.get?_push_size h1 (by rw[<-hob];rfl)
 refine h _ ⟨λ b o q=>keep b o (λ z=>by rw[z,hen] at q;cases q) (k1 b o q),hen,hl.of_keeps λ b o q hn=>?_,?_⟩ λ b o q hn=>?_
 ·obtain⟨sl,hs⟩:=s1.2.2 b o q;exact⟨_,keep b _ (nrec b o q hn) hs,rfl⟩
 ·refine⟨_,_,h1.objs.size,_,_,e3,⟨Obj.cls_mapFields _ _,by rw[Array.getElem?_setIfInBounds_ne (by decide)];exact h0⟩,d3,by simp[hsz],k1.fresh,nTe,t3,dob,?_,x,by rw[Array.getElem?_setIfInBounds_ne (by decide)];exact h2,hx⟩
  first|(simp;done)|(rcases hpl with rfl|⟨_,_,_,_,_,_,_,rfl⟩<;>simp)
 ·obtain⟨sl,hs⟩:=s1.2.2 b o q;exact⟨sl,keep b _ (nrec b o q hn) hs⟩
theorem qHS (hfr:A.frames=some (env::outer)) (hf:env.frame=some L) (hh:TrW K B (env::outer) e cls a0 .none s.heap) (hQ:∀h',TrW K B (env::outer) e cls a0 (rawInt L) h'->s.heap.UpToSlots h'->Q () {s with heap:=h'}):wpAny M A (noteFrame (.ref e) env) Q E s:=by
 obtain⟨f1,f2,f3,oe,vs,T,oT,ts,g1,⟨rfl,g2⟩,g3,g4,g5,g6,g7,g8,g9,x,g10,g11⟩:=hh;unfold noteFrame;simp only[hf];refine wpAny_bind (wpAny_field g1 g3 g4 ?_);have ht:(Value.ref T != Value.none)=true:=by simp
 rw[if_pos ht];refine wpAny_bind (wpAny_field g7 g8 g9 ?_);have hn:¬((Value.none==rawInt L)=true):=by simp[rawInt]
 rw[if_neg hn];refine wpAny_bind (wpAny_setField g7 g8 (Array.getElem?_eq_some_iff.mp g9).1 ?_);have oth:∀b,b≠T->(s.heap.update T (Obj.mapFields (·.setIfInBounds 3 Value.none))).get? b=s.heap.get? b:=λ b hb=>Heap.get?_update_other _ _ (Ne.symm hb);have nrec:∀b o,s.heap.get? b=some o->(∀vs,o.data ≠ .fields vs)->b≠T:=λ b o q hf z=>by rw[z,g7] at q;cases q;exact hf ts g8
 refine qAo hfr (f3.of_keeps λ b o q hf=>⟨o,(oth b (nrec b o q hf)).trans q,rfl⟩) hf ((oth e (Ne.symm g6)).trans g1) (λ b o q=>(oth b λ z=>by rw[z,g5] at q;cases q).trans (f1 b o q)) f2 g3 (Array.getElem?_eq_some_iff.mp g4).1 g2 g10 g11 λ h' tr up=>?_;exact hQ h' tr λ b o q hf=>up b o ((oth b (nrec b o q hf)).trans q) hf
theorem qHT (hf:env.frame=some L) (ht:TrcX K s.heap B e cls a0 (rawInt L)) (h:Q () s):wpAny M A (noteFrame (.ref e) env) Q E s:=by
 obtain⟨oe,vs,T,oT,ts,g1,g2,g3,g4,g5,g6,g7,g8,g9,_⟩:=ht;unfold noteFrame;simp only[hf];refine wpAny_bind (wpAny_field g1 g3 g4 ?_);have ht:(Value.ref T != Value.none)=true:=by simp
 rw[if_pos ht];refine wpAny_bind (wpAny_field g7 g8 g9 ?_);have hy:(rawInt L==rawInt L)=true:=by simp
 rw[if_pos hy];exact wpAny_pure h
theorem qDq (hfr:A.frames=some (env::outer)) (hf:env.frame=some L) (h:TrW K B (env::outer) e cls a0 fl s.heap) (hfl:fl = .none\/fl=rawInt L) (hQ:∀h',TrW K B (env::outer) e cls a0 (rawInt L) h'->s.heap.UpToSlots h'->Q () {s with heap:=h'}) :
  wpAny M A (noteFrame (.ref e) env) Q E s:=by
 rcases hfl with rfl|rfl
 ·exact qHS hfr hf h hQ
 ·exact qHT hf h.2.2.2 (hQ s.heap h (Heap.UpToSlots.refl _))
theorem qCX {args:List Value}(hfr:A.frames=some (env::outer)) (hf:env.frame=some L) (hkb:B.StaysIn h) (hl:h.FunFrames B (env::outer)) (hx:Heap.MadeExcOf h s.heap e cls args)
  (hQ:∀h' t,TrW K B (env::outer) e cls (.ref t) (rawInt L) h'->s.heap.UpToSlots h'->Q () {s with heap:=h'}):wpAny M A (noteFrame (.ref e) env) Q E s:=by
 obtain⟨t,g1,g2,g3⟩:=hx.there;have ne:B.get? e=none:=by
  cases q:B.get? e with
  |none=>rfl
  |some o=>have:=hkb e o q;rw[hx.new] at this;cases this
 have kb:B.StaysIn s.heap:=λ b o q=>hx.keeps b o (hkb b o q);unfold noteFrame;simp only[hf];refine wpAny_bind (wpAny_field g1 rfl (x:= .none) rfl ?_);have hn:¬((Value.none != Value.none)=true):=by decide
 rw[if_neg hn];exact qAo (K:=K) (a0:= .ref t) (x:= .none) hfr (hl.of_keeps λ b o q _=>⟨o,hx.keeps b o q,rfl⟩) hf g1 kb ne rfl (by simp) rfl rfl (.inl rfl) λ h' tr up=>hQ h' t tr up
end
section
variable {X:Cx}{p:Pm}
theorem q3t (ok:X.Ok):∀b∈X.fs,b∈frs X.stack:=λ b hb=>by
 rcases ok.stk with e|⟨e,hf⟩
 ·rw[e];exact hb
 ·rw[e];unfold frs;rw[QI,hf];exact Qa _ hb
theorem q0a {s:Shared}{B h':Heap}(I:Inv X pins σ H s) (b:BOk X pins H B) (st:B.StaysIn h') (up:s.heap.UpToSlots h'):Inv X pins σ H {s with heap:=h'}:=by
 have nst:∀c o,X.s₀.heap.get? c=some o->c∉X.fs->c∉frs X.stack:=λ c o e hc hm=>by
  rcases Qh.mp (I.q2L c hm) with z|z
  ·exact absurd (Qv (Heap.lt_size e) I.ok.above) (by rw[z];exact Q8 _)
  ·exact hc z
 have hok:HOk X.prog X.w H h':=b.hok.kept st;have slot:∀c o,X.s₀.heap.get? c=some o->X.H₀ c=none->c∈X.fs->c∉X.ex->∃sl,h'.get? c=some {o with slots:=sl}:=λ c o e n hc hx=>by obtain⟨sl,e1⟩:=I.base.slot c o e n hc hx;obtain⟨_,o',ho',hd'⟩:=I.ok.funs.mem hc;rw[e] at ho';cases ho';obtain⟨sl',e2⟩:=up c _ e1 hd';exact⟨sl',e2⟩
 have cellK:∀c v,s.heap.IsCell c v->h'.IsCell c v:=λ c v ⟨o,e,d⟩=>by
  obtain⟨sl,e2⟩:=up c o e λ vs z=>by rw[d] at z;cases z
  exact⟨_,e2,d⟩
 refine⟨I.ok,I.os,I.bare,⟨λ c o e n hc hx=>?_,slot,I.base.free,λ c o e hx=>?_,I.base.tups,I.base.frzs,I.base.tbls⟩,?_,λ x c e=>?_,I.free,I.freeC,λ q hq=>?_,hok,I.len⟩
 ·exact st _ _ (b.keep c o e n (nst c o e hc) hx)
 ·by_cases hc:c∈X.fs
  ·obtain⟨sl,e2⟩:=slot c o e (I.ok.frf c hc) hc hx;exact⟨_,e2⟩
  ·obtain⟨o',e2⟩:=b.there c o e (nst c o e hc) hx;exact⟨_,st _ _ e2⟩
 ·obtain⟨m,hn,hl⟩:=I.loc;refine⟨m,up.ns hn,λ i x v e1 e2 e3=>?_⟩;obtain⟨u,r,l⟩:=hl i x v e1 e2 e3;refine⟨u,r,?_⟩;rcases l with l|⟨k,c,e,z⟩
  ·exact .inl l
  ·exact .inr ⟨k,c,e,cellK c _ z⟩
 ·obtain⟨v,z⟩:=I.cell x c e;exact⟨v,cellK c v z⟩
 ·obtain⟨_,n,ne,nf,d⟩:=I.pin q hq;exact⟨st _ _ (b.pin q hq),n,ne,nf,d⟩
noncomputable def hidF (X:Cx) (h:Heap):Heap:=PySem.W.hideAll h (frs X.stack)
theorem q3u {o:Obj}(e:h.get? b=some o) (n:b∉frs X.stack):(hidF X h).get? b=some o:=PySem.W.hideAll_get _ e n
theorem q7l {o:Obj}(e:(hidF X h).get? b=some o):h.get? b=some o:=PySem.W.of_hideAll _ e
theorem qAp (hb:b∈frs X.stack):(hidF X h).get? b=none:=PySem.W.hideAll_none _ hb
theorem q3v {s:Shared}(I:Inv X pins σ H s):BOk X pins H (hidF X s.heap):=by
 have nfr:∀b o,H b=some o->b∉frs X.stack:=λ b o e hm=>by rw[I.q7R b hm] at e;cases e
 refine⟨λ a o e=>?_,λ b o e n hb hx=>?_,λ b o e hb hx=>?_,λ q hq=>?_⟩
 ·refine (I.hok a o e).stay (λ c v hc q=>q3u q ?_) (λ _ q=>q) λ _ _ q=>q;rcases hc with rfl|hc
  ·exact nfr _ _ e
  ·exact nfr _ _ hc
 ·exact q3u (I.base.keep b o e n (λ z=>hb (q3t I.ok b z)) hx) hb
 ·obtain⟨o',e'⟩:=I.base.there b o e hx;exact⟨o',q3u e' hb⟩
 ·obtain⟨e,n,ne,nf,d⟩:=I.pin q hq;refine q3u e λ z=>?_;rcases Qh.mp (I.q2L _ z) with z|z
  ·exact ne z
  ·exact nf z
theorem q4N {s:Shared}(I:Inv X pins σ H s):s.heap.FunFrames (hidF X s.heap) X.stack:=by
 have all:∀l:List PySem.Env,(∀b∈frs l,b∈frs X.stack)->s.heap.FunFrames X.base l->s.heap.FunFrames (hidF X s.heap) l:=by
  intro l
  induction l with
  |nil=>intro _ _;trivial
  |cons env r ih =>
   intro hs hl;obtain⟨hk,⟨L,o,hf,hn,ho,hd⟩,hr⟩:=hl;have hL:L∈frs X.stack:=hs L (by unfold frs;rw[QI,hf];exact Qb);exact⟨hk,⟨L,o,hf,qAp hL,ho,hd⟩,ih (λ b hb=>hs b (by unfold frs;rw[QI,hf];exact Qa _ hb)) hr⟩
 exact all X.stack (λ _ hb=>hb) I.stack
structure Top (X:Cx):Prop where
 stk:X.stack=X.env::X.outer
 frame:X.env.frame=some X.env.locals
theorem Top.frames (T:Top X) (ok:X.Ok):X.A.frames=some (X.env::X.outer):=by rw[ok.frames,T.stk]
structure TopF (X:Cx) (L:Addr):Prop where
 frame:X.env.frame=some L
 top:∃e0 o0,X.stack=e0::o0/\e0.frame=some L
theorem Top.f (T:Top X):TopF X X.env.locals:=⟨T.frame,_,_,T.stk,T.frame⟩
theorem q6e {x:Value}{e1 e2:PySem.Env}(h:e1.frame=e2.frame):noteFrame x e1=noteFrame x e2:=by unfold noteFrame PySem.frameOf;rw[h]
def Mid1 (X:Cx) (p:Pm) (pins:List (Addr×Obj)) (σ:L2.St) (H:Hp) (c:Nat) (e:Value) (s':Shared):Prop :=
 ∃a C,e = .ref a/\p.cls[c]? = some C/\
  ((∃s1 vs,Inv X pins σ H s1/\Heap.MadeExcOf s1.heap s'.heap a (.ref C) vs/\s'={s1 with heap:=s'.heap})\/
   (∃B t,Inv X pins σ H s'/\BOk X pins H B/\TrW X.K B X.stack a (.ref C) (.ref t) .none s'.heap)\/
   (∃B t L,X.env.frame=some L/\Inv X pins σ H s'/\BOk X pins H B/\TrW X.K B X.stack a (.ref C) (.ref t) (rawInt L) s'.heap))
theorem qHU {E:Value->Shared->Prop}{Q:Unit->Shared->Prop}{H':Hp}{e:Value}{s:Shared}{L:Addr}(T:TopF X L) (m:Mid1 X p pins σ H' c e s)
  (hQ:∀a C B t h',e = .ref a->p.cls[c]? = some C->Inv X pins σ H' {s with heap:=h'}->BOk X pins H' B->TrW X.K B X.stack a (.ref C) (.ref t) (rawInt L) h'->s.heap.UpToSlots h'->Q () {s with heap:=h'}):wpAny (model X.prog X.w) X.A (noteFrame e X.env) Q E s:=by
 obtain⟨hf,e0,o0,hk,hf0⟩:=T;rw[q6e (e2:=e0) (hf.trans hf0.symm)];obtain⟨a,C,rfl,h2,h4⟩:=m;have fr:∀{s':Shared},Inv X pins σ H' s'->X.A.frames=some (e0::o0):=λ I=>by rw[I.ok.frames,hk]
 rcases h4 with ⟨s1,vs,I,mk,es⟩|⟨B,t,I,b,f⟩|⟨B,t,L',hL,I,b,f⟩
 ·have kb:(hidF X s1.heap).StaysIn s1.heap:=λ b o e=>q7l e;refine qCX (K:=X.K) (B:=hidF X s1.heap) (fr I) hf0 kb (hk▸q4N I) mk λ h' t tr up=>?_;have hs:({s with heap:=h'}:Shared)={s1 with heap:=h'}:=by rw[es]
  refine hQ a C _ t h' rfl h2 ?_ (q3v I) (hk▸tr) up;rw[hs];exact q0a I (q3v I) tr.1 ((Heap.UpToSlots.of_keeps mk.keeps).trans up)
 ·refine qDq (fl:= .none) (fr I) hf0 (hk▸f) (.inl rfl) λ h' tr up=>?_;exact hQ a C B t h' rfl h2 (q0a I b tr.1 up) b (hk▸tr) up
 ·rw[hf] at hL;cases hL;refine qDq (fl:=rawInt L) (fr I) hf0 (hk▸f) (.inr rfl) λ h' tr up=>?_;exact hQ a C B t h' rfl h2 (q0a I b tr.1 up) b (hk▸tr) up
theorem q3w {E:Value->Shared->Prop}{Q:Unit->Shared->Prop}{e:Value}{s:Shared}(T:Top X) (m:Mid X p pins σ H c e s)
  (hQ:∀H' a C B t h',e = .ref a->p.cls[c]? = some C->Ext H H'->Inv X pins σ H' {s with heap:=h'}->BOk X pins H' B->TrW X.K B X.stack a (.ref C) (.ref t) (rawInt X.env.locals) h'->Q () {s with heap:=h'}):wpAny (model X.prog X.w) X.A (noteFrame e X.env) Q E s:=by
 obtain⟨H',a,C,h1,h2,h3,h4⟩:=m;exact qHU T.f ⟨a,C,h1,h2,h4⟩ λ a C B t h' g1 g2 g3 g4 g5 _=>hQ H' a C B t h' g1 g2 h3 g3 g4 g5
theorem q9Y {e:Value}{s:Shared}{P:Value->Shared->Prop}(T:Top X) (m:Mid X p pins σ H c e s) (hP:∀s',Mid X p pins σ H c e s'->P e s'):notedBy (model X.prog X.w) X.A X.env (cameBackBy (model X.prog X.w) X.A X.env P) e s:=by
 refine q3w T m λ H' a C B t h' e1 e2 e3 I b tr=>?_;subst e1;obtain⟨_,_,_,oe,vs,T',oT,ts,g1,g2,g3,g4,_⟩:=id tr;unfold cameBackBy;refine wpAny_bind (wpAny_field g1 g3 g4 ?_);have hn:¬((Value.ref T'==Value.none)=true):=by simp
 rw[if_neg hn,T.frame];refine q6d tr λ h2 tr2 up2=>?_;exact hP _ ⟨H',a,C,rfl,e2,e3,.inr (.inr ⟨B,t,_,T.frame,q0a (s:={s with heap:=h'}) I b tr2.1 up2,b,tr2⟩)⟩
theorem q4O {H0:Hp}{O0:List Addr}{r:RS}(T:Top X):PassesOwn (model X.prog X.w) X.A X.env (Es X p H0 O0 pins r):=λ e s h=>by obtain⟨c,ρ',σ',os',H',h1,h2,m⟩:=h;exact q9Y T m λ s' m'=>⟨c,ρ',σ',os',H',h1,h2,m'⟩
noncomputable def CXs (P:Program) (w:World) (K:PySem.W.Frag):CXT:=λ outer H s E e s'=>∃H' a C B t,e = .ref a/\E e (some C) H'/\Ext H H'/\s'.os=s.os/\AllBare s'.gens/\HOk P w H' B/\(∀b o,s.heap.get? b=some o->H b=none->b∉frs outer->B.get? b=some o)/\
 (∀b o,s.heap.get? b=some o->H b=none->H' b=none)/\(∀b o,s.heap.get? b=some o->H b=none->b∈frs outer->∃sl,s'.heap.get? b=some {o with slots:=sl})/\TrW K B outer a (.ref C) (.ref t) .none s'.heap
theorem q9Z {e:Value}{s:Shared}{Ex:XK}{Q:Unit->Shared->Prop}{E:Value->Shared->Prop}(T:Top X) (hex:X.ex=[]) (m:Mid X p pins σ H c e s) (x0:Ext X.H₀ H)
  (hE:∀C H',p.cls[c]? = some C->Ext X.H₀ H'->Ex e (some C) H') (hQ:∀s',CXs X.prog X.w X.K X.outer X.H₀ X.s₀ Ex e s'->Q () s'):wpAny (model X.prog X.w) X.A (leaving X.env e) Q E s:=by
 unfold leaving;refine wpAny_bind (q3w T m λ H' a C B t h' e1 e2 e3 I b tr=>?_);subst e1;refine q6d tr λ h2 tr2 up2=>hQ _ ?_;have I2:=q0a (s:={s with heap:=h'}) I b tr2.1 up2;have nx:∀b,b∉X.ex:=λ b=>by rw[hex];simp
 have tr3:TrW X.K B (X.env::X.outer) a (.ref C) (.ref t) .none h2:=T.stk▸tr2;obtain⟨k1,k2,⟨_,_,k3⟩,k4⟩:=tr3;refine⟨H',a,C,B,t,rfl,hE C H' e2 (x0.trans e3),x0.trans e3,I2.os,I2.bare,b.hok,λ c o q n hc=>?_,λ c o q n=>I2.base.free c o q n (nx c),λ c o q n hc=>I2.base.slot c o q n hc (nx c),k1,k2,k3,k4⟩;refine b.keep c o q n (λ hm=>?_) (nx c);rcases Qh.mp (I2.q2L c hm) with z|z
 ·exact absurd (Qv (Heap.lt_size q) I2.ok.above) (by rw[z];exact Q8 _)
 ·exact hc z
theorem qAq {e:Value}{s s':Shared}{Ex:XK}(I:Inv X pins σ H s) (h:CXs X.prog X.w X.K X.stack H s Ex e s') (hE:∀C H',Ex e (some C) H'->p.cls[c]? = some C):Mid X p pins σ H c e s':=by
 obtain⟨H',a,C,B,t,rfl,h1,h2,h3,h4,h5,h6,h7,h8,h9⟩:=h;have hok:HOk X.prog X.w H' s'.heap:=h5.kept h9.1;have un:Un (frs X.stack) [] H H' s.heap s'.heap:=by
  refine⟨λ b o q n hb _=>h9.1 _ _ (h6 b o q n hb),λ b o q n hb _=>h8 b o q n hb,λ b o q n _=>h7 b o q n,λ b o q _=>?_,λ b xs q=>h2 _ _ q,λ b o u q=>h2 _ _ q,λ b ps q=>⟨#[],by rw[h2 _ _ q];simp⟩⟩;cases n:H b with
  |some u=>exact q1j (hok b u (h2 _ _ n))
  |none =>
   by_cases hb:b∈frs X.stack
   ·obtain⟨sl,e⟩:=h8 b o q n hb;exact⟨_,e⟩
   ·exact⟨_,h9.1 _ _ (h6 b o q n hb)⟩
 have I':Inv X pins σ H' s':=I.qE9 (ch:=[]) h3 un hok h4 (λ b z=>absurd z (by simp));refine⟨H',a,C,rfl,hE C H' h1,h2,.inr (.inl ⟨B,t,I',⟨h5,λ b o q n hb hx=>?_,λ b o q hb hx=>?_,λ q hq=>?_⟩,h9⟩)⟩
 ·exact h6 b o (I.base.keep b o q n (λ z=>hb (q3t I.ok b z)) hx) (I.base.free b o q n hx) hb
 ·obtain⟨o',q'⟩:=I.base.there b o q hx;cases n:H b with
  |some u=>exact q1j (h5 b u (h2 _ _ n))
  |none=>exact⟨_,h6 b o' q' n hb⟩
 ·obtain⟨q1,n,ne,nf,d⟩:=I.pin q hq;refine h6 _ _ q1 n λ z=>?_;rcases Qh.mp (I.q2L _ z) with z|z
  ·exact ne z
  ·exact nf z
end
end Snd
namespace Snd
open PySem PySem.Spec PyProof.Rows L2 Ev
variable {sc:Scope}{pos:Pos}{cl:List (Str×Addr)}{elt iter tg:PySem.Expr}{ifs:List PySem.Expr}{k:Nat}{pins:List (Addr×Obj)}{σ:L2.St}{H2:Hp}{s2:Shared}{fp:List Addr}{LL:Addr}{ts:List Str}{le:L}{lc:List T}{fr:Bool}
def postC (M:Model) (A:Around) (E:Value->Shared->Prop) (use:Option (Value->Sem Unit)) (Q:Value->Shared->Prop) (acc:Value) (C:Addr) (fr:Option Addr) (r:Result) (s':Shared):Prop :=
 match r with
 | .ok f=>compPost M A E use Q acc C (.ok f) s'
 | .error x=>∃m,s'.heap.Ns C m/\∀h',Heap.SameBut C s'.heap h'->∀env:PySem.Env,env.locals=C->env.frame=fr->wpAny M A (passOn "comprehension.variables-let-go" x env:Sem Value) (λ _ _=>False) E {s' with heap:=h'}
section
variable {M:Model}{A:Around}{E:Value->Shared->Prop}{s:Shared}{env:PySem.Env}
theorem q6f {e:PySem.Expr}{pos:Pos}{na fi:Sem Value}{g:Comprehension}{gs:List Comprehension}{use:Option (Value->Sem Unit)}{Q:Value->Shared->Prop}
  (hcl:clausesOf e=g::gs) (hs:∀x,foldedSetIterable g.iter env x=pure x) (hcs:closureFor sc env=pure cl) (hk:sc.kind = .function) (hn:∀x∈sc.names,x.2 = .local->sc.names.lookup x.1=some .local)
  (h:wpAny M A fi (λ x s1=>wpAny M A (pyIter x) (λ it s2=>wpAny M A na (λ acc s3=>wpAny M A (newFunctionEnv sc env.globals cl [] env.qual none .none (some env)) (λ ce s4 =>
    codeAny M A (.compStart e 0 it acc {ce with scope:=relabel sc env}) (postC M A E use Q acc ce.locals ce.frame) s4) E s3) E s2) E s1) E s) :
  wpAny M A (comprehension e sc env pos na false fi use) Q E s:=by
 unfold comprehension;rw[hcs,hcl];refine wpAny_bind (wpAny_mono h (λ x s1 h1=>?_) λ _ _ z=>z);refine wpAny_bind (wpAny_standAt (wpAny_bind (wpAny_of_eq (hs x) (wpAny_bind (wpAny_holding (wpAny_mono h1 (λ it s2 h2=>?_) λ _ _ z=>z))))));refine wpAny_standIf (wpAny_bind (wpAny_mono h2 (λ acc s3 h3=>?_) λ _ _ z=>z));refine wpAny_bind (wpAny_pure (wpAny_bind (wpAny_mono h3 (λ ce s4 h4=>?_) λ _ _ z=>z)));dsimp only;have v1:∀x∈(sc.names.filter λ x=>(x.2 == .local || x.2 == .cell)&&x.1 != (".0":Str)).reverse,x.2 = .local->Env.kindOf {ce with scope:=relabel sc env} x.1=some .local :=
  λ x hx hl=>lookup_relabel_local (hn x (List.mem_filter.mp (List.mem_reverse.mp hx)).1 hl)
 refine wpAny_holding (wpAny_bind (wpAny_attempt (wpAny_holding (wpAny_run (codeAny_mono h4 λ r s' hr=>?_)))));cases r with
 |ok f =>
  cases use with
  |none =>
   obtain⟨m,g1,g2⟩:=hr;exact wpAny_bind (wpAny_holding (wpAny_comp_letGo (cenv:={ce with scope:=relabel sc env}) hk _ s' m v1 g1 λ h' m' _ g3=>wpAny_pure (g2 h' g3)))
  |some u =>
   have hr:wpAny M A (u acc) (λ _ s''=>∃m,s''.heap.Ns ce.locals m/\∀h',Heap.SameBut ce.locals s''.heap h'->Q .none {s'' with heap:=h'}) E s':=hr;refine wpAny_bind (wpAny_rule (wpAny_bind (wpAny_holding (wpAny_mono hr (λ _ s'' g0=>?_) λ _ _ z=>z))));obtain⟨m,g1,g2⟩:=g0;refine wpAny_bind (wpAny_comp_letGo (cenv:={ce with scope:=relabel sc env}) hk _ s'' m (λ x hx hl=>?_) g1 λ h' m' _ g3=>wpAny_pure (g2 h' g3));rcases Qq.mp hx with z|z
   ·exact v1 x (List.mem_of_mem_drop z) hl
   ·exact v1 x (List.mem_of_mem_take z) hl
 |error x =>
  obtain⟨m,g1,g2⟩:=hr;exact wpAny_bind (wpAny_holding (wpAny_comp_letGo (cenv:={ce with scope:=relabel sc env}) hk _ s' m v1 g1 λ h' m' _ g3=>wpAny_mono (g2 h' g3 {ce with scope:=relabel sc env} rfl rfl) (λ _ _ z=>z.elim) λ _ _ z=>z))
end
section
variable {prog:Program}{w:World}{A:Around}{R:Result->Shared->Prop}{s:Shared}
theorem q6g {target:PySem.Expr}{scope:Scope}{it acc:Value}{env:PySem.Env}(I:Nat->Shared->Prop)
  (turn:∀n s,I n s->wpAny (model prog w) A (pyNext it) (λ r s₁=>match r with
   |none=>R (.ok .next) s₁
   |some v=>wpAny (model prog w) A (letOwnedTupleGo target it v) (λ _ s₁'=>wpAny (model prog w) A (assign target env v) (λ _ s₂ =>
     wpAny (model prog w) A (forIn ifs true λ c r=>if r=true then do let ok <-isTrue c env (eval c env);pure (ForInStep.yield ok) else pure (ForInStep.yield r)) (λ ok s₃ =>
      if ok=true then wpAny (model prog w) A (eval elt env) (λ x s₄ =>
       wpAny (model prog w) A (call (.builtin "list.append") [acc,x]) (λ _ s₅=>∃m,m<n/\I m s₅) (λ _ _=>False) s₄) (notedBy (model prog w) A env λ e s'=>R (.error e) s') s₃
      else ∃m,m<n/\I m s₃) (notedBy (model prog w) A env λ e s'=>R (.error e) s') s₂) (λ _ _=>False) s₁') (λ _ _=>False) s₁) (λ _ _=>False) s)
  (n:Nat) (h:I n s):codeAny (model prog w) A (.compLoop (.ListComp elt [⟨target,iter,ifs,0⟩] scope pos) 0 it acc env) R s:=by
 refine codeAny_loop rfl I (λ n s hI=>?_) n h;show wpAny _ A ((compTurn (.ListComp elt [⟨target,iter,ifs,0⟩] scope pos) 0 it acc env).onRaise (λ x=>do noteFrame x env;theTreesLotGoes x)) _ _ s;refine wpAny_noted ?_;rw[compTurn_list];refine wpAny_bind (wpAny_standAt (wpAny_bind (wpAny_mono (turn n s hI) (λ r s₁ h₁=>?_) λ _ _ h'=>h'.elim)));cases r with
 |none=>exact wpAny_pure h₁
 |some v =>
  refine wpAny_bind (wpAny_mono h₁ (λ _ s₁' h₁'=>?_) λ _ _ h'=>h'.elim);refine wpAny_bind (wpAny_mono h₁' (λ _ s₂ h₂=>wpAny_bind (wpAny_mono h₂ (λ ok s₃ h₃=>?_) λ _ _ z=>z)) λ _ _ h'=>h'.elim);cases ok with
  |false=>exact wpAny_pure ⟨rfl,h₃⟩
  |true =>
   exact wpAny_bind (wpAny_bind (wpAny_mono h₃ (λ x s₄ h₄=>wpAny_bind (wpAny_mono h₄ (λ _ s₅ h₅=>wpAny_pure (wpAny_pure ⟨rfl,h₅⟩)) λ _ _ h'=>h'.elim)) λ _ _ z=>z))
end
noncomputable def preR (es0:List D) (r:R (List D)):R (List D):=r.bind λ l=> .ok (es0++l)
theorem qCY (r:R (List D)):preR [] r=r:=by cases r<;>rfl
theorem qCZ (a b:List D) (r:R (List D)):preR a (preR b r)=preR (a++b) r:=by
 cases r with
 |ok l=>show R.ok (a++(b++l))=R.ok (a++b++l);rw[QN]
 |err c=>rfl
 |stuck=>rfl
theorem q5m {elt:Ev.Env->R D}{cond:Ev.Env->R Bool}{ρ:Ev.Env}{d:D}{ds:List D}(h:q0H elt cond k ρ (d::ds) ≠ .stuck) :
  ∃xs,unp k d = .ok xs/\cond (vals xs++ρ) ≠ .stuck/\(∀c,cond (vals xs++ρ) = .err c->q0H elt cond k ρ (d::ds) = .err c)/\(cond (vals xs++ρ) = .ok false->q0H elt cond k ρ (d::ds)=q0H elt cond k ρ ds)/\
   (cond (vals xs++ρ) = .ok true->elt (vals xs++ρ) ≠ .stuck/\(∀c,elt (vals xs++ρ) = .err c->q0H elt cond k ρ (d::ds) = .err c)/\∀e,elt (vals xs++ρ) = .ok e->q0H elt cond k ρ (d::ds)=preR [e] (q0H elt cond k ρ ds)):=by
 rw[q0H] at h |-;have hu:∀c,unp k d ≠ .err c:=λ c=>by
  unfold unp;split
  ·nofun
  ·split
   ·split<;>nofun
   ·nofun
 cases h1:unp k d with
 |err c=>exact absurd h1 (hu c)
 |stuck=>rw[h1] at h;exact absurd rfl h
 |ok xs =>
  rw[h1,q00] at h;refine⟨xs,rfl,?_⟩;rw[q00];cases h2:cond (vals xs++ρ) with
  |stuck=>rw[h2] at h;exact absurd rfl h
  |err c=>exact⟨nofun,λ c' e=>by cases e;rfl,nofun,nofun⟩
  |ok b =>
   rw[h2,q00] at h;refine⟨nofun,nofun,λ e=>by cases e;rfl,λ e=>?_⟩;cases e;rw[if_pos rfl] at h;rw[q00,if_pos rfl];cases h3:elt (vals xs++ρ) with
   |stuck=>rw[h3] at h;exact absurd rfl h
   |err c=>exact⟨nofun,λ c' e=>by cases e;rfl,nofun⟩
   |ok e'=>exact⟨nofun,nofun,λ e'' z=>by cases z;rfl⟩
section
variable {X:Cx}{p:Pm}{G:Nat->List D->R D}{sub:Nat->Nat->Bool}
theorem qAr {pins':List (Addr×Obj)}{H':Hp}{C:Addr}{N':List Str}{B:Heap}(I2:Inv X pins σ H2 s2) (f2:∀b∈fp,FpOk X pins H2 b) (b:BOk (cxC X s2 H2 sc cl C N' fp) pins' H' B):BOk X pins H' B:=by
 have nfs:∀b,b∉frs X.stack->b∉X.fs:=λ b h z=>h (q3t I2.ok b z);have nfp:∀b o,X.s₀.heap.get? b=some o->b∉X.ex->b∉fp:=λ b o e hx hm=>by
  rcases (f2 b hm).2.2.2.1 with z|z
  ·exact hx z
  ·exact absurd (Heap.lt_size e) (Nat.not_lt.mpr z)
 refine⟨b.hok,λ a o e n hs hx=>?_,λ a o e hs hx=>?_,λ q hq=>?_⟩
 ·exact b.keep a o (I2.base.keep a o e n (nfs a hs) hx) (I2.base.free a o e n hx) hs (nfp a o e hx)
 ·obtain⟨o',e'⟩:=I2.base.there a o e hx;exact b.there a o' e' hs (nfp a o e hx)
 ·obtain⟨e,n,ne,nf,d⟩:=I2.pin q hq;refine b.keep q.1 q.2 e n (λ z=>?_) λ z=>(f2 q.1 z).2.2.2.2.2 q hq rfl;rcases Qh.mp (I2.q2L _ z) with z|z
  ·exact ne z
  ·exact nf z
theorem qEu {pins':List (Addr×Obj)}{σ':L2.St}{H9:Hp}{s':Shared}{N':List Str}{c:Nat}{e:Value}(I2:Inv X pins σ H2 s2) (f2:∀b∈fp,FpOk X pins H2 b) (x9:Ext H2 H9)
  (m:Mid (cxC X s2 H2 sc cl (s2.heap.objs.size+1) N' fp) p pins' σ' H9 c e s'):∃H',Ext H2 H'/\FpOk X pins H' (s2.heap.objs.size+1)/\(∃m,s'.heap.Ns (s2.heap.objs.size+1) m)/\Mid1 X p pins σ H' c e s':=by
 obtain⟨H',a,Cc,rfl,h2,h3,h4⟩:=m;have out:∀{s5:Shared},Inv (cxC X s2 H2 sc cl (s2.heap.objs.size+1) N' fp) pins' σ' H' s5->Inv X pins σ H' s5:=λ I6 =>
  I2.qE9 (ch:=fp) I6.os I6.base I6.hok I6.bare λ b hb=>⟨(f2 b hb).2.2.2.1,(f2 b hb).2.1,(f2 b hb).2.2.2.2.1,(f2 b hb).2.2.2.2.2⟩
 rcases h4 with ⟨s1,vs,I,mk,es⟩|⟨B,t,I,b,f⟩|⟨B,t,L,hL,I,b,f⟩
 ·obtain⟨m,hm,_⟩:=I.loc;exact⟨H',x9.trans h3,I2.fpOk (Jg _) I.free,⟨m,(Heap.UpToSlots.of_keeps mk.keeps).ns hm⟩,a,Cc,rfl,h2,.inl ⟨s1,vs,out I,mk,es⟩⟩
 ·obtain⟨m,hm,_⟩:=I.loc;exact⟨H',x9.trans h3,I2.fpOk (Jg _) I.free,⟨m,hm⟩,a,Cc,rfl,h2,.inr (.inl ⟨B,t,out I,qAr I2 f2 b,f⟩)⟩
 ·obtain⟨m,hm,_⟩:=I.loc;exact⟨H',x9.trans h3,I2.fpOk (Jg _) I.free,⟨m,hm⟩,a,Cc,rfl,h2,.inr (.inr ⟨B,t,L,hL,out I,qAr I2 f2 b,f⟩)⟩
theorem qAs {M:Model}{E:Value->Shared->Prop}{H H':Hp}{C a Cc t L:Addr}{B h':Heap}{s:Shared}{c:Nat}{env:PySem.Env}(I:Inv X pins σ H' s) (bo:BOk X pins H' B) (tr:TrW X.K B X.stack a (.ref Cc) (.ref t) (rawInt L) s.heap) (hc:p.cls[c]? = some Cc) (x:Ext H H') (fC:FpOk X pins H' C)
  (hns:∃m,s.heap.Ns C m) (sb:Heap.SameBut C s.heap h') (hfr:X.env.frame=some L) (hf:env.frame=some L) (hE:∀s',Mid X p pins σ H c (.ref a) s'->E (.ref a) s') :
  wpAny M X.A (passOn "comprehension.variables-let-go" (.ref a) env:Sem Value) (λ _ _=>False) E {s with heap:=h'}:=by
 obtain⟨f0,f1,f2,f3,f4,f5⟩:=fC;have I1:Inv X pins σ H' {s with heap:=h'}:=I.turned (t':=s.toks) (λ b o hb e=>sb.extBut b o hb e) f0 f1 f3 f4 f5;obtain⟨m,oC,esC,epC,hoC,hdC,hrC⟩:=hns;have Cst:C∉frs X.stack:=λ z=>by
  rcases Qh.mp (I.q2L _ z) with z|z
  ·exact f1 z
  ·exact f2 z
 obtain⟨k1,k2,k3,oe,vs,T,oT,ts,g1,g2,g3,g4,g5,g6,g7,g8,g9⟩:=tr;have aC:a≠C:=λ z=>by rw[z,hoC] at g1;cases g1;rw[hdC] at g3;cases g3
 have TC:T≠C:=λ z=>by rw[z,hoC] at g7;cases g7;rw[hdC] at g8;cases g8
 have keep:∀b,b≠C->h'.get? b=s.heap.get? b:=λ b hb=>sb.2 b hb;have B1:BOk X pins H' (PySem.W.hideAll B [C]):=by
  refine⟨λ b o e=>?_,λ b o e n hs hx=>?_,λ b o e hs hx=>?_,λ q hq=>?_⟩
  ·refine (bo.hok b o e).stay (λ c v hc q=>PySem.W.hideAll_get _ q ?_) (λ _ q=>q) λ _ _ q=>q;intro z;rw[Qu] at z;subst z;rcases hc with rfl|hc
   ·rw[f0] at e;cases e
   ·rw[f0] at hc;cases hc
  ·refine PySem.W.hideAll_get _ (bo.keep b o e n hs hx) λ z=>?_;rw[Qu] at z;rcases f3 with w|w
   ·exact hx (z▸w)
   ·exact absurd (Heap.lt_size e) (by rw[z];exact Nat.not_lt.mpr w)
  ·obtain⟨o',e'⟩:=bo.there b o e hs hx;refine⟨o',PySem.W.hideAll_get _ e' λ z=>?_⟩;rw[Qu] at z;rcases f3 with w|w
   ·exact hx (z▸w)
   ·exact absurd (Heap.lt_size e) (by rw[z];exact Nat.not_lt.mpr w)
  ·exact PySem.W.hideAll_get _ (bo.pin q hq) λ z=>f5 q hq (Qu.mp z)
 have hid:∀b,B.get? b=none->(PySem.W.hideAll B [C]).get? b=none:=λ b h=>by
  cases q:(PySem.W.hideAll B [C]).get? b with
  |none=>rfl
  |some o=>rw[PySem.W.of_hideAll _ q] at h;cases h
 have frm:∀l:List PySem.Env,(∀b∈frs l,b∈frs X.stack)->s.heap.FunFrames B l->h'.FunFrames (PySem.W.hideAll B [C]) l:=by
  intro l
  induction l with
  |nil=>intro _ _;trivial
  |cons env r ih =>
   intro hs hl;obtain⟨hk,⟨L,o,hf,hn,ho,hd⟩,hr⟩:=hl;have hL:L∈frs X.stack:=hs L (by unfold frs;rw[QI,hf];exact Qb);refine⟨hk,⟨L,o,hf,hid L hn,(keep L λ z=>Cst (z▸hL)).trans ho,hd⟩,ih (λ b hb=>hs b (by unfold frs;rw[QI,hf];exact Qa _ hb)) hr⟩
 have tr1:TrW X.K (PySem.W.hideAll B [C]) X.stack a (.ref Cc) (.ref t) (rawInt L) h':=by
  refine⟨λ b o q=>?_,hid a k2,frm X.stack (λ _ h=>h) k3,oe,vs,T,oT,ts,(keep a aC).trans g1,g2,g3,g4,hid T g5,g6,(keep T TC).trans g7,g8,g9⟩;have hb:b≠C:=λ z=>by rw[z,PySem.W.hideAll_none _ (Qu.mpr rfl)] at q;cases q
  exact (keep b hb).trans (k1 b o (PySem.W.of_hideAll _ q))
 unfold PySem.passOn;refine wpAny_bind (wpAny_field ((keep a aC).trans g1) g3 g4 ?_);have hn:¬((Value.ref T==Value.none)=true):=by simp
 rw[if_neg hn];refine wpAny_bind ?_;rw[hf];refine q6d (s:={s with heap:=h'}) tr1 λ h2 tr2 up2=>?_;exact wpAny_throw (hE _ ⟨H',a,Cc,rfl,hc,x,.inr (.inr ⟨_,t,L,hfr,q0a (s:={s with heap:=h'}) I1 B1 tr2.1 up2,B1,tr2⟩)⟩)
theorem q8i {rr:R (List D)}{it:Addr}{tn:Nat->Heap->Prop}{J:It}{ρ:Ev.Env}{os:List (List Addr)}
  {ds:List D}{vs:List V}{cl0:List (Str×Addr)}{E:Value->Shared->Prop}{RR:Value->Addr->Option Addr->Result->Shared->Prop}(TF:TopF X LL) (hc:X.calm=true) (S:ScOk X sc ts) (hcl1:∀y c,cl0.lookup y=some c->X.env.cells.lookup y=some c)
  (hcl2:∀x∈sc.names,x.2 = .free->∃c,cl0.lookup x.1=some c) (hE:∀s2 H2 cl C fp,SE (cxC X s2 H2 sc cl C (inN ts X.N) fp) p G sub elt le) (hT:∀s2 H2 cl C fp,STs (cxC X s2 H2 sc cl C (inN ts X.N) fp) p G sub ifs lc)
  (hG:∀s2 H2 cl C fp,SGc (cxC X s2 H2 sc cl C (inN ts X.N) fp) p tg k ts.length)
  (I2:Inv X pins σ H2 s2) (R2:Rel p ρ σ os H2) (T:Turn X.prog X.w X.K tg J fp it tn) (st2:tn 0 s2.heap) (f2:∀b∈fp,FpOk X pins H2 b) (rep:RepL p (fz os.flatten H2) ds vs) (wk:Wk J H2 vs)
  (hgo:q0H (ev G sub le) (tsts G sub lc) k ρ ds=rr) (hrs:rr ≠ .stuck)
  (hRR:∀es D C s' H',rr = .ok es->Inv X pins σ H' s'->Ext H2 H'->Rep p (fz os.flatten H') (.lst es) (.ref D)->(∃m,s'.heap.Ns C m)->FpOk X pins H' C->H2 D=none->RR (.ref D) C X.env.frame (.ok .next) s')
  (hRE:∀c D C a Cc B t s' H',rr = .err c->p.cls[c]? = some Cc->Inv X pins σ H' s'->Ext H2 H'->BOk X pins H' B->TrW X.K B X.stack a (.ref Cc) (.ref t) (rawInt LL) s'.heap->(∃m,s'.heap.Ns C m)->FpOk X pins H' C->RR D C X.env.frame (.error (.ref a)) s') :
  wpAny (model X.prog X.w) X.A (newList []) (λ acc s3=>wpAny (model X.prog X.w) X.A (newFunctionEnv sc X.env.globals cl0 [] X.env.qual none .none (some X.env)) (λ cenv s4 =>
   codeAny (model X.prog X.w) X.A (.compStart (.ListComp elt [⟨tg,iter,ifs,0⟩] sc pos) 0 (.ref it) acc {cenv with scope:=relabel sc X.env}) (RR acc cenv.locals cenv.frame) s4) E s3) E s2:=by
 have ho:∀b∈fp,∃o,s2.heap.get? b=some o:=λ b hb=>let ⟨o,e,_⟩:=T.obj 0 _ st2 b hb;⟨o,e⟩;refine q7h (P:=λ acc cenv C s4=>codeAny (model X.prog X.w) X.A (.compStart (.ListComp elt [⟨tg,iter,ifs,0⟩] sc pos) 0 (.ref it) acc cenv) (RR acc C cenv.frame) s4) I2 S hcl1 hcl2 f2 ho λ cl h1 co kp I4=>?_;generalize hs4:({s2 with heap:=h1}:Shared)=s4 at I4 |-;have st4:tn 0 s4.heap:=T.keep _ _ _ st2 λ b hb o e=>by rw[<-hs4];exact kp b o e
 have fr:H2 s2.heap.objs.size=none:=I2.hok.fresh (Qf _);have frC:H2 (s2.heap.objs.size+1)=none:=I2.hok.fresh (Jg _);have stat:∀{H':Hp},(∀b∈fp,H' b=none)->∀b∈fp,FpOk (cxC X s2 H2 sc cl (s2.heap.objs.size+1) (inN ts X.N) fp) [] H' b:=λ {H'} hn b hb=>by
  refine⟨hn b hb,?_,λ hm=>?_,.inl hb,λ x c h=>?_,λ p hp=>absurd (show p∈([]:List (Addr×Obj)) from hp) (by simp)⟩
  ·obtain⟨o,e⟩:=ho b hb;exact QE (Nat.lt_succ_of_lt (Heap.lt_size e))
  ·rcases Qh.mp (I2.q2L b hm) with z|z
   ·exact (f2 b hb).2.1 z
   ·exact (f2 b hb).2.2.1 z
  ·rcases co.old x c h with z|⟨z,_⟩
   ·exact (f2 b hb).2.2.2.2.1 x c z
   ·obtain⟨o,e⟩:=ho b hb;exact λ y=>by have:=Heap.lt_size e;lia
 have hlen:ds.length=vs.length:=rep.length;have loop:codeAny (model X.prog X.w) X.A (.compLoop (.ListComp elt [⟨tg,iter,ifs,0⟩] sc pos) 0 (.ref it) (.ref s2.heap.objs.size) (compEnvC sc cl (s2.heap.objs.size+1) X.env)) (RR (.ref s2.heap.objs.size) (s2.heap.objs.size+1) X.env.frame) s4:=by
  refine q6g (λ n s'=>∃i σt H' ys es0,Inv (cxC X s2 H2 sc cl (s2.heap.objs.size+1) (inN ts X.N) fp) [] (σt++σ) H' s'/\σt.length=ts.length/\tn i s'.heap/\(∀b∈fp,H' b=none)/\Ext H2 H'/\H' s2.heap.objs.size=some (.lst ys)/\
   RepL p (fz (os.flatten++[s2.heap.objs.size]) H') es0 ys/\preR es0 (q0H (ev G sub le) (tsts G sub lc) k ρ (ds.drop i))=rr/\es0.length<=i/\n=ds.length-i/\i<=ds.length) ?_ ds.length
   ⟨0,Qo ts.length none,upd H2 s2.heap.objs.size (.lst []),[],[],I4,by simp,st4,λ b hb=>?_,Ext.upd fr,q0M,rfl,by rw[qCY];exact hgo,Qf _,by simp,QK _⟩
  ·rintro n s5 ⟨i,σt,H5,ys,es0,I5,hσ,st5,fr5,x5,hDs,rp5,go5,hei,rfl,hi5⟩
   by_cases hlt:i<ds.length
   ·have hd:ds.drop i=ds[i]::ds.drop (i+1):=List.drop_eq_getElem_cons hlt;rw[hd] at go5;have hns:q0H (ev G sub le) (tsts G sub lc) k ρ (ds[i]::ds.drop (i+1)) ≠ .stuck:=λ z=>hrs (by rw[<-go5,z];rfl);obtain⟨xs,hu,hc0,hc1,hneg,hpos⟩:=q5m hns;have errs:∀{pins':List (Addr×Obj)}{σ':L2.St}{H9:Hp}{c:Nat}{e:Value}{s':Shared},q0H (ev G sub le) (tsts G sub lc) k ρ (ds[i]::ds.drop (i+1)) = .err c->Ext H2 H9->Mid (cxC X s2 H2 sc cl (s2.heap.objs.size+1) (inN ts X.N) fp) p pins' σ' H9 c e s'->
      notedBy (model X.prog X.w) X.A (compEnvC sc cl (s2.heap.objs.size+1) X.env) (λ e s'=>RR (.ref s2.heap.objs.size) (s2.heap.objs.size+1) X.env.frame (.error e) s') e s':=λ {pins' σ' H9 c e s'} hce x9 m=>by
     obtain⟨H',x',fC,⟨m0,hm0⟩,m1⟩:=qEu I2 f2 x9 m;unfold notedBy;rw[q6e (e1:=compEnvC sc cl (s2.heap.objs.size+1) X.env) (e2:=X.env) rfl];refine qHU TF m1 λ a Cc B t h' ea ec Ie be te up=>?_;subst ea;exact hRE c _ _ a Cc B t _ H' (by rw[<-go5,hce];rfl) ec Ie x' be te ⟨m0,up.ns hm0⟩ fC
    refine wpAny_mono (T.item (cxC X s2 H2 sc cl (s2.heap.objs.size+1) (inN ts X.N) fp) rfl rfl rfl hc i [] s5 _ H5 (λ _ _=>False) I5 (stat fr5) st5 (wk.go i H5 x5 (hlen▸hlt))) (λ r s6 ⟨u,hr,h6⟩=>?_) (λ _ _ z=>z);subst hr;refine wpAny_mono h6 (λ _ s7 ⟨x,H7,I7,r7,y7,st7,fr7⟩=>?_) (λ _ _ z=>z);obtain⟨rfl,hx⟩:=wk.yld i H5 x H7 x5 (hlen▸hlt) y7;obtain⟨v',hv',rv'⟩:=rep.get (i:=i) (d:=ds[i]) (by simp[hlt]);rw[hx] at hv';cases hv';have I7':=I7.pinned (stat fr7) (T.obj _ _ st7);have xf:Ext (fz os.flatten H2) (fz (os.flatten++[s2.heap.objs.size]) H7):=λ a o e=>by
     unfold fz at e;split at e
     ·cases e
     ·rename_i n;refine q1N (x5 a o e) λ m=>?_;rcases Qq.mp m with m|m
      ·exact n m
      ·rw[Qu.mp m,fr] at e;cases e
    refine wpAny_mono (hG s2 H2 cl (s2.heap.objs.size+1) fp (λ _ _=>False) _ s7 σt σ H7 (fz (os.flatten++[s2.heap.objs.size]) H7) ds[i] xs x u I7' hσ r7 q0V (rv'.mono xf) hu) (λ _ s8 ⟨vs8,rp8,hl8,I8⟩=>?_) (λ _ _ z=>z);have RL:Rel p (vals xs++ρ) (vs8.map some++σ) (Qo xs.length []++os++[[s2.heap.objs.size]]) H7:=by
     refine⟨?_,λ a ha=>?_,?_⟩
     ·rw[q3r];refine QD.mpr ⟨R2.nd,by simp,λ a ha b hb e=>?_⟩;rw[Qu.mp hb] at e;obtain⟨o,q⟩:=R2.there a ha;rw[e,fr] at q;cases q
     ·rw[q3r] at ha;rcases Qq.mp ha with m|m
      ·obtain⟨o,q⟩:=R2.there a m;exact⟨o,x5 _ _ q⟩
      ·rw[Qu.mp m];exact⟨_,hDs⟩
     ·rw[q3r];exact q3L (q4M (q1F x5 xf R2.slots) rp8)
    have test:wpAny (model X.prog X.w) X.A (forIn ifs true λ c r=>if r=true then do let ok <-isTrue c (compEnvC sc cl (s2.heap.objs.size+1) X.env) (eval c (compEnvC sc cl (s2.heap.objs.size+1) X.env));pure (ForInStep.yield ok) else pure (ForInStep.yield r))
      (λ ok s9=>tsts G sub lc (vals xs++ρ) = .ok ok/\∃H9,Inv (cxC X s2 H2 sc cl (s2.heap.objs.size+1) (inN ts X.N) fp) ([]++q66 fp s7.heap) (vs8.map some++σ) H9 s9/\Ext H7 H9) (notedBy (model X.prog X.w) X.A (compEnvC sc cl (s2.heap.objs.size+1) X.env) λ e s'=>RR (.ref s2.heap.objs.size) (s2.heap.objs.size+1) X.env.frame (.error e) s') s8:=by
     rcases hT s2 H2 cl (s2.heap.objs.size+1) fp with ⟨rfl,rfl⟩|⟨c,l,rfl,rfl,hst⟩
     ·exact wpAny_tests_nil ⟨rfl,H7,I8,Ext.refl _⟩
     ·have e1:tsts G sub [l] (vals xs++ρ)=tst G sub l (vals xs++ρ):=by
       rw[q4A];cases tst G sub l (vals xs++ρ) with
       |ok t=>cases t<;>rfl
       |err c=>rfl
       |stuck=>rfl
      rw[e1] at hc0 hc1 |-;refine wpAny_tests_one (wpAny_mono (hst _ _ s8 _ H7 (vals xs++ρ) _ (.inl rfl) I8 RL hc0) (λ t s9 ⟨H9,e9,I9,x9⟩=>?_) (λ e s' ⟨c,z,m⟩=>errs (hc1 c z) x5 m));exact⟨e9,H9,I9,x9⟩
    refine wpAny_mono test (λ ok s9 ⟨hok,H9,I9,x9⟩=>?_) (λ _ _ z=>z);have keepT:∀{s':Shared}{σ':L2.St}{H':Hp},Inv (cxC X s2 H2 sc cl (s2.heap.objs.size+1) (inN ts X.N) fp) ([]++q66 fp s7.heap) σ' H' s'->tn (i+1) s'.heap/\∀b∈fp,H' b=none:=λ {s' σ' H'} I' =>
     ⟨T.keep _ _ _ st7 λ b hb o e=>(I'.pin (b,o) (Qr _ (Qr _ (q2D hb e)))).1,λ b hb=>by obtain⟨o,e,d⟩:=T.obj _ _ st7 b hb;exact (I'.pin (b,o) (Qr _ (Qr _ (q2D hb e)))).2.1⟩
    cases ok with
    |false =>
     rw[if_neg (by simp)];obtain⟨k1,k2⟩:=keepT I9;exact⟨ds.length-(i+1),by lia,i+1,vs8.map some,H9,ys,es0,I9.q16,by simpa using hl8,k1,k2,x5.trans x9,x9 _ _ hDs,rp5.mono (q1E x9),by rw[<-hneg hok];exact go5,Jh hei,rfl,hlt⟩
    |true =>
     rw[if_pos rfl];obtain⟨he0,he1,he2⟩:=hpos hok;refine wpAny_mono (hE s2 H2 cl (s2.heap.objs.size+1) fp _ s9 _ H9 (vals xs++ρ) _ I9 (RL.ext x9) he0) (λ y s10 h10=>?_) (λ e s' ⟨c,z,m⟩=>errs (he1 c z) (x5.trans x9) m);obtain⟨e',v10,H10,hev,I10,r10,x10,q10⟩:=h10;have go6:preR (es0++[e']) (q0H (ev G sub le) (tsts G sub lc) k ρ (ds.drop (i+1)))=rr:=(by rw[<-qCZ,<-he2 e' hev];exact go5);rw[q3r] at q10;have hz:es0.length=ys.length:=rp5.length;have hzb:ys.length<sizeLine:=by have:=wk.sz;lia
     refine wpAny_mono (q6H (X:=cxC X s2 H2 sc cl (s2.heap.objs.size+1) (inN ts X.N) fp) _ s10 _ H10 (.ref s2.heap.objs.size) [v10] (.ref s2.heap.objs.size) [y] (λ z H'=>H'=upd H10 s2.heap.objs.size (.lst (ys++[v10]))) I10 rfl (.cons r10 .nil)
      ⟨_,ys,v10,rfl,rfl,x10 _ _ (x9 _ _ hDs),hzb,rfl⟩) (λ _ s11 h11=>?_) (λ _ _ z=>z)
     obtain⟨_,H11,I11,_,rfl⟩:=h11;obtain⟨k1,k2⟩:=keepT I11;refine⟨ds.length-(i+1),by lia,i+1,vs8.map some,_,ys++[v10],es0++[e'],I11.q16,by simpa using hl8,k1,k2,λ a o e=>?_,q0M,?_,go6,by rw[Qj,Qx];lia,rfl,hlt⟩
     ·rw[q05 (q0D e fr)];exact x10 _ _ (x9 _ _ (x5 _ _ e))
     ·rw[q4z (by simp)];exact (rp5.mono (q1E (x9.trans x10))).snoc q10
   ·have ei:i=ds.length:=(by lia);subst ei;refine wpAny_mono (T.done (cxC X s2 H2 sc cl (s2.heap.objs.size+1) (inN ts X.N) fp) rfl rfl rfl hc ds.length [] s5 _ H5 (λ _ _=>False) I5 (stat fr5) st5 (hlen▸wk.stop H5 x5)) (λ r s6 ⟨hr,I6⟩=>?_) (λ _ _ z=>z);subst hr;rw[List.drop_length] at go5;have go5:R.ok (es0++[])=rr:=go5;rw[QB] at go5;obtain⟨m,hm,_⟩:=I6.loc;have fC:FpOk X pins H5 (s2.heap.objs.size+1):=I2.fpOk (Jg _) I6.free;refine hRR es0 _ _ s6 H5 go5.symm ?_ x5 ⟨_,ys,rfl,SqL.of (q1N hDs λ m=>?_),rp5.mono (q2u λ a ha=>QM _ ha)⟩ ⟨m,hm⟩ fC fr
    ·exact I2.qE9 (ch:=fp) I6.os I6.base I6.hok I6.bare λ b hb=>⟨(f2 b hb).2.2.2.1,(f2 b hb).2.1,(f2 b hb).2.2.2.2.1,(f2 b hb).2.2.2.2.2⟩
    ·obtain⟨o,q⟩:=R2.there _ m;rw[fr] at q;cases q
  ·obtain⟨o,e⟩:=ho b hb;rw[q05 (QE (Heap.lt_size e))];exact (f2 b hb).1
 exact codeAny_compStart_list loop (T.self _ 0 _ _ _ st4 loop)
theorem qDr {J:It}{H:Hp}{os:List (List Addr)}{vs:List V}(w:Wk J (if fr then fz os.flatten H else H) vs):Wk J H vs:=by
 cases fr
 ·exact w
 ·exact w.mono q0V
theorem q53 (ok:X.Ok) (S:ScOk X sc ts):∀x∈sc.names,x.2 = .free->∃c,X.env.cells.lookup x.1=some c:=λ x hx hf=>ok.has x.1 (S.free x hx hf)
theorem qEv (TF:TopF X LL) {li:I}(hc:X.calm=true) (S:ScOk X sc ts) (hi:SI X p G sub fr tg iter li)
  (hE:∀s2 H2 cl C fp,SE (cxC X s2 H2 sc cl C (inN ts X.N) fp) p G sub elt le) (hT:∀s2 H2 cl C fp,STs (cxC X s2 H2 sc cl C (inN ts X.N) fp) p G sub ifs lc)
  (hG:∀s2 H2 cl C fp,SGc (cxC X s2 H2 sc cl C (inN ts X.N) fp) p tg k ts.length) (hfs:∀x,foldedSetIterable iter X.env x=pure x) :
  SE X p G sub (.ListComp elt [⟨tg,iter,ifs,0⟩] sc pos) (.comp k le li lc):=by
 intro pins s σ H ρ os I R hs;rw[q20] at hs |-;obtain⟨cl,hcl,hcl1,hcl2⟩:=q50 (q53 I.ok S);rw[eval_ListComp];refine q6f (use:=none) rfl hfs hcl S.kind S.names (wpAny_mono (hi pins s σ H ρ os I R (q07 hs)) (λ v s1 h1=>wpAny_mono h1 (λ itv s2 h2=>?_) (λ e s' z=>z.bind)) (λ e s' z=>z.bind));obtain⟨ds,e1,it,fp,tn,J,H2,rfl,I2,T,st2,f2,x2,vs,rep,wk⟩:=h2;rw[e1,q00] at hs |-;generalize hrr:q0H (ev G sub le) (tsts G sub lc) k ρ ds=rr at hs |-;have nsr:rr ≠ .stuck:=λ z=>hs (by rw[z];rfl);refine q8i TF (rr:=rr) (RR:=λ acc C fr=>postC (model X.prog X.w) X.A _ none _ acc C fr) hc S hcl1 hcl2 hE hT hG I2 (R.ext x2) T st2 f2 rep (qDr wk) hrr nsr (λ es D C s' H' e I' x' q' hns fC _=>?_) λ c D C a Cc B t s' H' e ec I' x' bo tr hns fC=>?_
 ·obtain⟨m,hm⟩:=hns;subst e;have z:es.length<=big:=by
   by_cases z:es.length<=big
   ·exact z
   ·exact absurd (show (if es.length<=big then Ev.R.ok (Ev.D.lst es) else .stuck) = .stuck from if_neg z) hs
  refine⟨m,hm,λ h' hs'=>⟨.lst es,.ref D,H',(show (if es.length<=big then Ev.R.ok (Ev.D.lst es) else .stuck)=_ from if_pos z),?_,rfl,x2.trans x',q'⟩⟩;obtain⟨f0,f1,f2,f3,f4,f5⟩:=fC;exact I'.turned (t':=s'.toks) (λ b o hb e=>hs'.extBut b o hb e) f0 f1 f3 f4 f5
 ·obtain⟨m,hm⟩:=hns;subst e;exact⟨m,hm,λ h' hs' env e1 e2=>qAs (p:=p) I' bo tr ec (x2.trans x') fC ⟨m,hm⟩ hs' TF.frame (e2.trans TF.frame) λ s'' md=>⟨c,rfl,md⟩⟩
theorem qEw (TF:TopF X LL) {i:Nat}{x:Str}{pos' spos:Pos}{li:I}(hc:X.calm=true) (S:ScOk X sc ts) (hi:SI X p G sub fr tg iter li)
  (hE:∀s2 H2 cl C fp,SE (cxC X s2 H2 sc cl C (inN ts X.N) fp) p G sub elt le) (hT:∀s2 H2 cl C fp,STs (cxC X s2 H2 sc cl C (inN ts X.N) fp) p G sub ifs lc)
  (hG:∀s2 H2 cl C fp,SGc (cxC X s2 H2 sc cl C (inN ts X.N) fp) p tg k ts.length) (hfs:∀x,foldedSetIterable iter X.env x=pure x)
  (hN:X.N.Nodup) (hiN:X.N[i]? = some x) (hx:Loc X.env.scope x) (hf:X.fn x=true\/X.env.scope.names.lookup x=some .local)
  (hsw:swapsWith (.ListComp elt [⟨tg,iter,ifs,0⟩] sc pos) (some (.Name x pos')) spos.line X.env=pure true) :
  SS X p G sub (.Assign [.Name x pos'] (.ListComp elt [⟨tg,iter,ifs,0⟩] sc pos) spos) (.set i (.comp k le li lc)):=by
 intro H0 O0 E hp pins s σ H ρ os I B hs hE';have e0:ex G sub (.set i (.comp k le li lc)) ρ=(ev G sub (.comp k le li lc) ρ).go ρ λ d=> .ok (ρ.set i (some (.val d))) .nx:=rfl;rw[e0] at hs hE' |-;rw[q20] at hs hE' |-;obtain⟨cl,hcl,hcl1,hcl2⟩:=q50 (q53 I.ok S);have lt:i < ρ.length:=by rw[<-B.slen,I.len];exact (Qc.mp hiN).1
 rw[exec_Assign_Name_used _ _ _ _ hsw];refine wpAny_bind (wpAny_standAt (wpAny_bind ?_));show wpAny _ X.A (do let _ <-comprehension (.ListComp elt [⟨tg,iter,ifs,0⟩] sc pos) sc X.env _ (newList []) false (eval iter X.env) (some (assign (.Name x pos') X.env))) _ _ s;refine wpAny_bind (wpAny_mono (q6f (use:=some (assign (.Name x pos') X.env)) (Q:=λ _ s'=>Gs X p H0 O0 pins (((evi G sub li ρ).bind λ ds=>(q0H (ev G sub le) (tsts G sub lc) k ρ ds).q5R.bind λ es=>if es.length<=big then .ok (.lst es) else .stuck).go ρ λ d=> .ok (ρ.set i (some (.val d))) .nx) .next s') rfl hfs hcl S.kind S.names
  (wpAny_mono (hi pins s σ H ρ _ I B.rel (q07 (q5g hs))) (λ v s1 h1=>wpAny_mono h1 (λ itv s2 h2=>?_) (λ e s' z=>hE' e s' (q3l B z.bind))) (λ e s' z=>hE' e s' (q3l B z.bind)))) (λ _ s' hq=>wpAny_pure (wpAny_pure hq)) λ _ _ e=>e)
 obtain⟨ds,e1,it,fp,tn,J,H2,rfl,I2,T,st2,f2,x2,vs,rep,wk⟩:=h2;have e1':=e1;rw[e1,q00] at hs |-;generalize hrr:q0H (ev G sub le) (tsts G sub lc) k ρ ds=rr at hs hE' |-;have nsr:rr ≠ .stuck:=λ z=>hs (by rw[z];rfl);refine q8i TF (rr:=rr) (RR:=λ acc C fr=>postC (model X.prog X.w) X.A _ (some (assign (.Name x pos') X.env)) _ acc C fr) hc S hcl1 hcl2 hE hT hG I2 (B.rel.ext x2) T st2 f2 rep (qDr wk) hrr nsr (λ es D C s' H' e I' x' q' hns fC _=>?_) λ c D C a Cc Bh t s' H' e ec I' x' bo tr hns fC=>?_
 ·obtain⟨m,hm⟩:=hns;subst e;have z:es.length<=big:=by
   by_cases z:es.length<=big
   ·exact z
   ·exact absurd (show (if es.length<=big then Ev.R.ok (Ev.D.lst es) else .stuck).go ρ _ = .stuck by rw[if_neg z];rfl) hs
  have ez:((R.ok es).q5R.bind λ es=>if es.length<=big then Ev.R.ok (Ev.D.lst es) else .stuck).go ρ (λ d=>RS.ok (ρ.set i (some (.val d))) .nx)=RS.ok (ρ.set i (some (.val (.lst es)))) .nx:=by rw[q2E,q00,if_pos z,q0A]
  rw[ez];obtain⟨f0,f1,f2',f3,f4,f5⟩:=fC;obtain⟨oC,esC,epC,hoC,hdC,hrC⟩:=id hm;have IP:Inv X (pins++[(C,oC)]) σ H' s':=I'.q44 λ q hq=>(Qq.mp hq).elim (λ z=>I'.pin q (Qr _ z)) λ z=>by cases Qu.mp z;exact⟨hoC,f0,f1,f2',λ v z=>by rw[hdC] at z;cases z⟩
  refine wpAny_assign_Name (q1K IP hN hiN hx (v:= .ref D) rfl (λ s3 I3=>?_) hf);have hC3:=(I3.pin (C,oC) (Qr _ (Qr _ (Qu.mpr rfl)))).1;refine⟨m,⟨oC,esC,epC,hC3,hdC,hrC⟩,λ h' hs'=>⟨_,.nx,_,_,H',rfl,(B.mono (x2.trans x')).setV lt q',?_,trivial⟩⟩;exact I3.q16.turned (t':=s3.toks) (λ b o hb e=>hs'.extBut b o hb e) f0 f1 f3 f4 f5
 ·obtain⟨m,hm⟩:=hns;subst e;exact⟨m,hm,λ h' hs' env e1 e2=>qAs (p:=p) I' bo tr ec (x2.trans x') fC ⟨m,hm⟩ hs' TF.frame (e2.trans TF.frame) λ s'' md=>hE' _ _ (q3l B ⟨c,by rw[e1',q00,hrr];rfl,md⟩)⟩
end
end Snd
namespace Snd
open PySem PySem.Spec PyProof.Rows L2 Ev
noncomputable def spG (p:Pm) (G:Nat->List D->R D) (f n:Nat):Sp:=λ vs H Q E=>∃ds O,vs.length=n/\O.Nodup/\Th O H/\RepL p (fz O H) ds vs/\G f ds ≠ .stuck/\
 (∀r v H',G f ds = .ok r->Ext H H'->Rep p (fz O H') r v->Q v H')/\(∀c C H' e,G f ds = .err c->p.cls[c]? = some C->Ext H H'->E e (some C) H')
section
variable {X:Cx}{p:Pm}{G:Nat->List D->R D}{sub:Nat->Nat->Bool}
theorem qCa {k j:Nat}{f:Addr}{fd:FuncData}{ps:List Str}{pins:List (Addr×Obj)}{σ:L2.St}{H:Hp}{s:Shared}{O:List Addr}{ds:List D}{vs:List V}{us:List Value}(F:FnOk X.prog X.w X.K X.mg X.base (CXs X.prog X.w X.K) k f fd ps (spG p G j ps.length))
  (hr:Room k X.A) (hb:Binds X.K fd ps []) (I:Inv X pins σ H s) (r:Vals vs us) (nd:O.Nodup) (t:Th O H) (q:RepL p (fz O H) ds vs) (hl:ds.length=ps.length) (hs:G j ds ≠ .stuck) :
  wpAny (model X.prog X.w) X.A (call (.ref f) us) (λ u s'=>∃d v H',G j ds = .ok d/\Inv X pins σ H' s'/\RelV v u/\Ext H H'/\Rep p (fz O H') d v) (Er X p pins σ H (G j ds)) s:=by
 have hlv:vs.length=ps.length:=by rw[<-q.length];exact hl
 have hlu:(us++[]).length=ps.length:=by rw[QB,<-r.length];exact hlv
 have sp0:spG p G j ps.length vs H (λ v H'=>∃d,G j ds = .ok d/\Ext H H'/\Rep p (fz O H') d v) (λ e C H'=>∃c C',G j ds = .err c/\C=some C'/\p.cls[c]? = some C') :=
  ⟨ds,O,hlv,nd,t,q,hs,λ r v H' e x w=>⟨r,e,x,w⟩,λ c C H' e h1 h2 _=>⟨c,C,h1,rfl,h2⟩⟩
 have hb':=hb s us I.kIn hlu;rw[QB] at hb';refine wpAny_call (codeAny_mono (F.run X.A X.stack s H ⟨us,[]⟩ us vs _ _ hr I.env0 hb' r sp0) λ rr s' hq=>?_);cases rr with
 |error e =>
  have hq:CXs X.prog X.w X.K X.stack H s (λ e C H'=>∃c C',G j ds = .err c/\C=some C'/\p.cls[c]? = some C') e s':=hq;obtain⟨H',a,C,B,tt,h0,⟨c,C',h1,h2,h3⟩,hrest⟩:=id hq;exact⟨c,h1,qAq I hq λ C2 H2 ⟨c2,C3,g1,g2,g3⟩=>by rw[h1] at g1;cases g1;cases g2;exact g3⟩
 |ok fl =>
  cases fl with
  |ret u =>
   obtain⟨v,H',I',rv,d,e,x,w⟩:=I.after hq;exact⟨d,v,H',e,I',rv,x,w⟩
  |next=>exact False.elim hq
  |brk=>exact False.elim hq
  |cont=>exact False.elim hq
theorem q54 {H Hf:Hp}:∀(n:Nat),q0t p H Hf (Qo n none) (Qo n none) (Qo n [])
 |0=>trivial
 |n+1=>⟨none,Qo n none,[],Qo n [],rfl,rfl,rfl,q54 n⟩
theorem qCb (n:Nat) (O:List Addr):(Qo n []++[O]).flatten=O:=by simp
theorem qCc {N:List Str}{H:Hp}{O:List Addr}{ds:List D}{vs:List V}(nd:O.Nodup) (t:Th O H) (q:RepL p (fz O H) ds vs) (hl:vs.length<=N.length) :
  Bd p H O (vals ds++Qo (N.length-ds.length) none) (L2.start N vs) (Qo N.length []) H:=by
 have e:=q.length;have f:(Qo N.length []++[O]).flatten=O:=qCb _ _;refine⟨⟨by rw[f];exact nd,by rw[f];exact t,?_⟩,?_,?_,Ext.refl _,λ a ha=>absurd ha (by simp)⟩
 ·rw[f];have h:=q3L (more:=[O]) (q4M (p:=p) (H:=H) (Hf:=fz O H) (q54 (N.length-ds.length)) q);have e2:Qo ds.length ([]:List Addr)++Qo (N.length-ds.length) []=Qo N.length []:=by rw[List.replicate_append_replicate];congr 1;lia
  rw[e2] at h;unfold L2.start;rw[<-e];exact h
 ·simp[vals];lia
 ·simp[vals,L2.start];lia
theorem qHV {P:Program}{w:World}{K:PySem.W.Frag}{mg:Str->Option Value}{base:Heap}{k j:Nat}{f:Addr}{name qual:Str}{params:Arguments}{body:List Stmt}{scope:Scope}{dV kV doc pm cdv ct oc:Value}{an od:Option Addr}
  {osl:Array (Option Value)}{N ps:List Str}{G':Nat->List D->R D}{l:List S}(lk:K.lookup f=some ⟨oc,od,.func (PySem.W.fnOf name qual params body scope dV kV doc pm an cdv ct),osl⟩) (hcd:PySem.W.codeIn K cdv qual=true) (S:FnScope N ps scope)
  (hG:∀ds,G j ds ≠ .stuck->ds.length=ps.length->G j ds=Ev.run G' sub N.length l ds)
  (hbody:∀(A:Around) (outer:List PySem.Env) (s:Shared) (H:Hp) (E:XK),Room k (A.deeper (envOfC qual scope s.heap.objs.size f cdv))->Env0 P w K mg base A outer s H->SSs (cxOf (CXs P w K) P w K mg base N qual scope f cdv A outer s H E) p G' sub body l) :
  FnOk P w K mg base (CXs P w K) (k+1) f (PySem.W.fnOf name qual params body scope dV kV doc pm an cdv ct) ps (spG p G j ps.length):=by
 refine⟨λ vs H Q E h=>h.choose_spec.choose_spec.1,λ A outer s H args us vs Q E hr e0 hb r hsp=>?_⟩;obtain⟨ds,O,hl,nd,t,q,ns,q1,q2⟩:=hsp;have KX:K.In s.heap:=e0.mod.kin.keeps λ b o e=>(e0.bs b o e).1;have lim:s.heap.NoLimit:=e0.mod.nolimit.keeps λ b o e=>(e0.bs b o e).1;have hkind:∀y∈ps.zip us,scope.names.lookup y.1=some .local\/(scope.names.lookup y.1=some .cell/\((cellsFrom (s.heap.objs.size+1) scope.names []).lookup y.1).isSome=true):=λ⟨n,v⟩ hy=>by
  rcases S.par n (List.of_mem_zip hy).1 with q|q
  ·exact .inl q
  ·exact .inr ⟨q,PySem.W.cellsFrom_some _ _ _ (.inl q)⟩
 refine codeAny_call_function hr.depth (KX _ _ lk) rfl S.co S.gen rfl (PySem.W.codeRec_of KX hcd) (hb _ _ _ _ ?_);refine wpAny_newFunctionEnv_cells S.kind hkind λ env he s1 x=>?_;subst he;refine⟨lim.keeps x.toInCall.keep,codeAny_func ?_⟩;have I:Inv (cxOf (CXs P w K) P w K mg base N qual scope f cdv A outer s H E) [] (L2.start N vs) H s1:=qA5 S hr.hd e0 hl r x;have hpl:ps.length<=N.length:=by have:=congrArg List.length S.pre;rw[Je] at this;lia
 have B:=qCc (N:=N) nd t q (by lia);have hrun:=hG ds ns (by rw[q.length];exact hl);rw[hrun] at ns q1 q2;unfold Ev.run at ns q1 q2;have T:Top (cxOf (CXs P w K) P w K mg base N qual scope f cdv A outer s H E):=⟨rfl,rfl⟩
 generalize hr0:exs G' sub l (vals ds++Qo (N.length-ds.length) none)=r0 at ns q1 q2;have ns':r0 ≠ .stuck:=λ e=>ns (by rw[e]);refine wpAny_mono (hbody A outer s H E (hr.deeper _) e0 H O _ (q4O (p:=p) (H0:=H) (O0:=O) (pins:=[]) (r:=r0) T) [] s1 _ H _ _ I B (by rw[hr0];exact ns') (λ e s' z=>by rw[hr0] at z;exact z)) (λ fl s' hs=>?_) λ e s' hs=>?_
 ·rw[hr0] at hs;obtain⟨ρ',fl',σ',os',H',e1,B',I',r'⟩:=hs;subst e1;cases fl'<;>cases fl<;>first|exact r'.elim|skip
  ·exact⟨.non,H',I'.os,I'.bare,I'.base,I'.hok,rfl,q1 .non .non H' rfl B'.ext rfl⟩
  ·exact absurd rfl ns
  ·exact absurd rfl ns
  ·obtain⟨v,rv,w'⟩:=r';exact⟨v,H',I'.os,I'.bare,I'.base,I'.hok,rv,q1 _ v H' rfl B'.ext w'⟩
 ·obtain⟨c,ρ',σ',os',H',e1,B',m⟩:=hs;subst e1;exact q9Z T rfl m B'.ext (λ C H2 h1 h2=>q2 c C H2 e rfl h1 h2) λ s2 h2=>h2
end
end Snd
namespace Snd
open PySem PySem.Spec PyProof.Rows L2 Ev
variable {x y:Str}{pos:Pos}{a:PySem.Expr}
section
variable {X:Cx}{p:Pm}{G:Nat->List D->R D}{sub:Nat->Nat->Bool}
def JP (X:Cx) (e:PySem.Expr) (y:Str):Prop:=∀(E:Value->Shared->Prop) (pins:List (Addr×Obj)) (σ:L2.St) (H:Hp) (s:Shared),Inv X pins σ H s->
 wpAny (model X.prog X.w) X.A (eval e X.env) (λ u s'=>(∃t,u = .str y t)/\Inv X pins σ H s') E s
def SM (X:Cx) (e:PySem.Expr):Prop:=∀(E:Value->Shared->Prop) (pins:List (Addr×Obj)) (σ:L2.St) (H:Hp) (s:Shared),Inv X pins σ H s->
 wpAny (model X.prog X.w) X.A (eval e X.env) (λ u s'=>Inv X pins σ H s') E s
theorem qDs {j:Nat}:JP X (.Constant (.str x) j pos) x:=λ E pins σ H s I =>
 Calls.Constant_str ⟨⟨_,rfl⟩,I.tok _⟩
theorem qHW {a:Int}{t:Tok}{q:Pos}(hg:Gl X x) (hm:X.mg x=some (.int a t)) (hd:(x==("__debug__":Str))=false) (hl:a.natAbs.log2<1920):JP X (.FormattedValue (.Name x q) (-1) none pos) (toString a):=λ E pins σ H s I =>
 PyProof.Rows.FormattedValue_plain (q1w I hg hm (PyProof.Rows.formatField_int_small hl ⟨⟨_,rfl⟩,I.tok _⟩) hd)
theorem qHX {j:Nat}:SM X (.Constant (.str x) j pos):=λ E pins σ H s I=>wpAny_mono (qDs E pins σ H s I) (λ _ _ h=>h.2) λ _ _ z=>z
theorem q4P {rest:List (Sem Value)}{out:Str}{e:PySem.Expr}{E:Value->Shared->Prop}{pins:List (Addr×Obj)}{σ:L2.St}{H:Hp}{s:Shared}{Q:Value->Shared->Prop}(he:JP X e y) (I:Inv X pins σ H s) (hz:(out++y).length<=sizeLine)
  (h:∀s',Inv X pins σ H s'->wpAny (model X.prog X.w) X.A (joinParts (out++y) rest) Q E s'):wpAny (model X.prog X.w) X.A (joinParts out (eval e X.env::rest)) Q E s :=
 PyProof.Rows.joinParts_cons (wpAny_mono (he E pins σ H s I) (λ u s' ⟨⟨t,e⟩,I'⟩=>by subst e;exact⟨hz,h s' I'⟩) λ _ _ z=>z)
theorem qHY {b:PySem.Expr}(ha:JP X a x) (hb:JP X b y) (h1:(Str.empty++x).length<=sizeLine) (h2:(Str.empty++x++y).length<=sizeLine):SM X (.JoinedStr [a,b] pos):=λ E pins σ H s I =>
 PyProof.Rows.JoinedStr_many (q4P ha I h1 λ s1 I1=>q4P hb I1 h2 λ s2 I2=>PyProof.Rows.joinParts_nil (I2.tok _) h2)
theorem qCd {b c:PySem.Expr}{z:Str}(ha:JP X a x) (hb:JP X b y) (hc:JP X c z) (h1:(Str.empty++x).length<=sizeLine) (h2:(Str.empty++x++y).length<=sizeLine) (h3:(Str.empty++x++y++z).length<=sizeLine):SM X (.JoinedStr [a,b,c] pos):=λ E pins σ H s I =>
 PyProof.Rows.JoinedStr_many (q4P ha I h1 λ s1 I1=>q4P hb I1 h2 λ s2 I2=>q4P hc I2 h3 λ s3 I3=>PyProof.Rows.joinParts_nil (I3.tok _) h3)
theorem qCe {c:Nat}{C:Addr}{bm:List Value}{newId initId B:String}{np cpos:Pos}(hc:X.calm=true) (hg:Gl X x) (O:OwnCls x C bm newId X.mg X.base) (FB:ExcBaseFacts B newId initId bm) (hcl:p.cls[c]? = some C) (ha:SM X a)
  (hd:(x==("__debug__":Str))=false) (hst:starEach [a] X.env=[(false,eval a X.env)]):SS X p G sub (.Raise (some (.Call (.Name x np) [a] [] cpos)) none pos) (.raise c):=by
 intro H0 O0 E hp pins s σ H ρ os I B hs hE;have e0:ex G sub (.raise c) ρ = .err c ρ:=rfl;rw[e0] at hE |-;obtain⟨tl,N,nm,q,bs,hdct,sn,sb,ab,col,dd,k0,k1,k2,k3,k5,mN,hC,hN,hni,T⟩:=O.obj;refine wpAny_Raise_call_subT (C:=C) (nm:=nm) (q:=q) (N:=N) (bs:=bs) (bm:=tl) (hdct:=hdct) (sn:=sn) (sub:=sb) (ab:=ab) (col:=col) (dd:=dd) (k0:=k0) (k1:=k1) (k2:=k2) (k3:=k3) (k5:=k5)
  FB (mN:=mN) (T.hasType FB.hasBase) (I.ok.hd hc) (by rw[hst];rfl) hni (q1w I hg O.bound ⟨rfl,?_⟩ hd)
 rw[hst];refine Calls.evalArgs_plain ?_;show wpAny _ _ (spliced ((false,eval a X.env)::backTo cpos [])) _ _ s;refine Calls.spliced_cons (wpAny_mono (ha E pins σ H s I) (λ u s1 I1=>?_) λ _ _ z=>z);refine Calls.spliced_nil ⟨rfl,show 1<=sizeLine by rw[sizeLine_eq];decide,I1.bk _ _ hC,hN.keeps I1.bk,T.keeps I1.bk,λ h' e mk=>?_⟩;exact hE _ _ ⟨c,ρ,σ,os,H,rfl,B,H,e,C,rfl,hcl,Ext.refl _,.inl ⟨s1,_,I1,mk,rfl⟩⟩
end
end Snd
namespace Snd
open PySem PySem.Spec PyProof.Rows L2 Ev
variable {pins:List (Addr×Obj)}{σ:L2.St}{H:Hp}{s:Shared}
section
variable {X:Cx}{p:Pm}{G:Nat->List D->R D}{sub:Nat->Nat->Bool}
noncomputable def mk (X:Cx) (e:Addr):Cx:={X with A:=X.A.mark (some (.ref e)),calm:=false}
theorem q6h {e:Addr}(I:Inv X pins σ H s):Inv (mk X e) pins σ H s :=
 ⟨⟨I.ok.mod,I.ok.kind,I.ok.glob,I.ok.blt,I.ok.above,I.ok.inj,I.ok.has,I.ok.cab,λ z=>(nomatch z),I.ok.frames,I.ok.stk,I.ok.exf,I.ok.bs,I.ok.bsz,I.ok.noex,I.ok.exfs,I.ok.funs,I.ok.frf⟩,I.os,I.bare,I.base,I.loc,I.cell,I.free,I.freeC,I.pin,I.hok,I.len⟩
theorem qCf {e:Addr}(ok:X.Ok) (I:Inv (mk X e) pins σ H s):Inv X pins σ H s :=
 ⟨ok,I.os,I.bare,I.base,I.loc,I.cell,I.free,I.freeC,I.pin,I.hok,I.len⟩
theorem q6i {B:Heap}{a C:Addr}{a0 fl:Value}(I:Inv X pins σ H s) (b:BOk X pins H B) (tr:TrW X.K B X.stack a (.ref C) a0 fl s.heap) :
  H a=none/\Inv X pins σ (upd H a (.ext (q2p a C))) s:=by
 obtain⟨k1,k2,k3,oe,vs,T,oT,ts,g1,g2,g3,_⟩:=tr;have hn:H a=none:=q3s b.hok k2;have nst:a∉frs X.stack:=λ hm=>by obtain⟨_,o,ho,hd⟩:=k3.mem hm;rw[g1] at ho;cases ho;exact hd _ g3
 have n0:∀o,X.s₀.heap.get? a=some o->a∉X.ex->False:=λ o e hx=>by obtain⟨o',e'⟩:=b.there a o e nst hx;rw[k2] at e';cases e'
 have hok:HOk X.prog X.w (upd H a (.ext (q2p a C))) s.heap:=λ c u e=>by
  by_cases hc:c=a
  ·subst hc;rw[q0M] at e;cases e;exact⟨⟨oe,g1,g2.1⟩,⟨oe,g1⟩,λ h1 h2 ⟨o,e1,e2⟩ k=>⟨o,k o e1,e2⟩⟩
  ·rw[q05 hc] at e;exact (I.hok c u e).stay (λ _ _ _ q=>q) (λ d q=>by rw[q05 (q0D q hn)];exact q) λ d xs q=>by rw[q05 (q0D q hn)];exact q
 refine⟨hn,I.ok,I.os,I.bare,⟨I.base.keep,I.base.slot,λ c o e n hx=>?_,I.base.there,λ c xs e=>?_,λ c o u e=>?_,λ c ps e=>?_⟩,I.loc,I.cell,?_,λ x c e=>?_,λ q hq=>?_,hok,I.len⟩
 ·rw[q05 λ z=>by rw[z] at e hx;exact n0 o e hx];exact I.base.free c o e n hx
 ·have:=I.base.tups c xs e;rw[q05 (q0D this hn)];exact this
 ·have:=I.base.frzs c o u e;rw[q05 (q0D this hn)];exact this
 ·obtain⟨more,this⟩:=I.base.tbls c ps e;exact⟨more,by rw[q05 (q0D this hn)];exact this⟩
 ·rw[q05 λ z=>?_]
  ·exact I.free
  ·obtain⟨m,⟨o,es,ep,ho,hd,_⟩,_⟩:=I.loc;rw[z,g1] at ho;cases ho;rw[g3] at hd;cases hd
 ·rw[q05 λ z=>?_]
  ·exact I.freeC x c e
  ·obtain⟨v,o,ho,hd⟩:=I.cell x c e;rw[z,g1] at ho;cases ho;rw[g3] at hd;cases hd
 ·obtain⟨e,n,ne,nf,d⟩:=I.pin q hq;refine⟨e,?_,ne,nf,d⟩;rw[q05 λ z=>?_]
  ·exact n
  ·have:=b.pin q hq;rw[z,k2] at this;cases this
theorem name_goes {E:Value->Shared->Prop}{Q:Unit->Shared->Prop}{i:Nat}{x:Str}{pos:Pos}(I:Inv X pins σ H s) (hN:X.N.Nodup) (hi:X.N[i]? = some x) (hl:X.env.scope.names.lookup x=some .local)
  (h:∀s',Inv X pins (σ.set i none) H s'->Q () s'):wpAny (model X.prog X.w) X.A (do bindName X.env x .none;unbindBehindTheSuite X.env x pos) Q E s:=by
 obtain⟨m,hn,hlo⟩:=id I.loc;have hcls:(X.env.scope.kind == .class || (X.env.scope.kind == .module&&X.env.locals != X.env.globals))=false:=by rw[I.ok.kind];rfl
 have hiσ:i < σ.length:=by rw[I.len];exact (Qc.mp hi).1
 have cne:=I.cne;refine wpAny_nameGoes_keeps hl hn hcls λ h' v hn' hs=>?_;obtain⟨oL,_,_,hoL,_⟩:=id hn;have hok:HOk X.prog X.w H h':=λ b ob e=>by
  refine (I.hok b ob e).stay (λ c w' hc q=>(hs.2 c ?_).trans q) (λ _ q=>q) λ _ _ q=>q;rintro rfl;rcases hc with rfl|hc
  ·rw[I.free] at e;cases e
  ·rw[I.free] at hc;cases hc
 have low:∀b o,X.s₀.heap.get? b=some o->b≠X.env.locals:=λ b o e=>QE (Qv (Heap.lt_size e) I.ok.above);refine h _ ⟨I.ok,I.os,I.bare,⟨λ b o e n hb hx=>?_,λ b o e n hb hx=>?_,I.base.free,λ b o e hx=>?_,I.base.tups,I.base.frzs,I.base.tbls⟩,⟨_,hn',λ j y v' e1 e2 e3=>?_⟩,λ y c e=>?_,I.free,I.freeC,λ q hq=>?_,hok,by simpa using I.len⟩
 ·exact (hs.2 b (low b o e)).trans (I.base.keep b o e n hb hx)
 ·obtain⟨sl,e1⟩:=I.base.slot b o e n hb hx;exact⟨sl,(hs.2 b (low b o e)).trans e1⟩
 ·obtain⟨o',e1⟩:=I.base.there b o e hx;exact⟨o',(hs.2 b (low b o e)).trans e1⟩
 ·by_cases hj:j=i
  ·subst hj;rw[Jc hiσ] at e2;cases e2
  ·rw[List.getElem?_set_ne (Ne.symm hj)] at e2;obtain⟨u',r',q⟩:=hlo j y v' e1 e2 e3;refine⟨u',r',?_⟩;rcases q with ⟨k,e⟩|⟨k,c,e,z⟩
   ·refine .inl ⟨k,?_⟩;have:y≠x:=λ e=>hj (q5M hN e1 (e▸hi));simp[this,e]
   ·exact .inr ⟨k,c,e,z.sameBut hs (cne y c e)⟩
 ·obtain⟨w',z⟩:=I.cell y c e;exact⟨w',z.sameBut hs (cne y c e)⟩
 ·obtain⟨e,n,ne,nf,d⟩:=I.pin q hq;exact⟨(hs.2 q.1 ne).trans e,n,ne,nf,d⟩
theorem qCg {α:Type}(l:List α) (i j:Nat) (a b c:α) (h:i≠j):((l.set i a).set j b).set i c=(l.set j b).set i c:=by rw[List.set_comm _ _ h,List.set_set]
theorem qHZ {c i j:Nat}{body:List Stmt}{lb:List S}{x y cn:Str}{Cc:Addr}{q q2 q3 q4 pos' pos:Pos}(T:Top X) (hN:X.N.Nodup) (hi:X.N[i]? = some x) (hl:X.env.scope.names.lookup x=some .local) (hj:X.N[j]? = some y) (hy:Loc X.env.scope y) (hfy:X.fn y=true\/X.env.scope.names.lookup y=some .local)
  (hxy:x≠y) (hg:Gl X cn) (hm:X.mg cn=some (.ref Cc)) (hsub:∀e Ce,p.cls[e]? = some Ce->PySem.W.exmOne X.K (.ref Ce) (.ref Cc)=some (sub e c)) (hdc:(cn==("__debug__":Str))=false) (hd:(x==("__debug__":Str))=false) (hcd:(x==("__classdict__":Str))=false)
  (hb:SSs X p G sub body lb):SS X p G sub (.Try body [.ExceptHandler (some (.Name cn q)) (some x) [.Assign [.Name y q2] (.Name x q3) q4] pos'] [] [] pos) (.tryE lb c i j):=by
 intro H0 O0 E hp pins s σ H ρ os I B hs hE;have e0:ex G sub (.tryE lb c i j) ρ=match exs G sub lb ρ with
   | .err e ρ'=>if sub e c then .ok ((ρ'.set j (some (.val (.exc e)))).set i none) .nx else .stuck
   |r=>r:=rfl
 rw[e0] at hs hE |-;generalize hr:exs G sub lb ρ=r0 at hs hE |-;have ns:r0 ≠ .stuck:=λ e=>hs (by rw[e]);have hij:i≠j:=λ e=>hxy (by rw[e,hj] at hi;exact (QJ.inj hi).symm);refine wpAny_Try_except (wpAny_mono (hb H0 O0 _ (q4O (p:=p) (H0:=H0) (O0:=O0) (pins:=pins) (r:=r0) T) pins s σ H ρ os I B (by rw[hr];exact ns) (λ e s' z=>by rw[hr] at z;exact z)) (λ f s1 qq=>?_) (λ e s1 qq=>?_))
 ·rw[hr] at qq;obtain⟨ρ1,fl,σ1,os1,H1,e1,B1,I1,r1⟩:=qq;subst e1;cases fl<;>cases f<;>first|exact r1.elim|skip
  ·exact wpAny_execs_nil ⟨ρ1,.nx,σ1,os1,H1,rfl,B1,I1,trivial⟩
  ·exact⟨ρ1,.brk,σ1,os1,H1,rfl,B1,I1,trivial⟩
  ·exact⟨ρ1,.cont,σ1,os1,H1,rfl,B1,I1,trivial⟩
  ·exact⟨ρ1,_,σ1,os1,H1,rfl,B1,I1,r1⟩
 ·obtain⟨c',ρ',σ',os',H',e1,B',m⟩:=qq;subst e1;have hsb:sub c' c=true:=by
   cases h:sub c' c with
   |true=>rfl
   |false=>exact absurd (by simp[h]) hs
  refine q3w T m λ H2 a C Bh t h2 ea ecl x2 I2 bo tr=>?_;subst ea;refine q6d (s:={s1 with heap:=h2}) (o:=none) tr λ h3 tr3 up3=>?_;have I3:=q0a (s:={s1 with heap:=h2}) I2 bo tr3.1 up3;refine wpAny_handleBy_cons (codeAny_handlers_test ?_) (by intro q;cases q);refine q1w (X:=mk X a) (q6h I3) hg hm ?_ hdc;have LT:PySem.W.Looks (model X.prog X.w) h3 (typeOf (.ref a)) (.ref C):=by obtain⟨ob,g1,g2⟩:=tr3.2.2.2.there;exact g2▸(PySem.W.Looks.ld g1).andThen .now
  refine PySem.W.Looks.here (s:={s1 with heap:=h3}) (PySem.W.exm_one I3.kIn LT (hsub c' C ecl)) ?_;rw[hsb,if_pos rfl];refine codeAny_handlers_suite_as ?_;refine q6d (s:={s1 with heap:=h3}) (o:=none) tr3 λ h4 tr4 up4=>?_;have I4:=q0a (s:={s1 with heap:=h3}) I3 bo tr4.1 up4;obtain⟨hn,I5⟩:=q6i I4 bo tr4;have B5:Bd p H0 O0 ρ' σ' os' (upd H2 a (.ext (q2p a C))):=B'.mono (x2.trans (Ext.upd hn));have lt:i < ρ'.length:=by rw[<-B'.slen,I2.len];exact (Qc.mp hi).1
  have lt2:j < ρ'.length:=by rw[<-B'.slen,I2.len];exact (Qc.mp hj).1
  have notin:a∉(os'++[O0]).flatten:=λ z=>by obtain⟨o,e⟩:=B'.rel.there a z;rw[x2 _ _ e] at hn;cases hn
  have rep:Rep p (fz (os'++[O0]).flatten (upd H2 a (.ext (q2p a C)))) (.exc c') (.ref a):=⟨a,C,rfl,ecl,q1N q0M notin⟩
  have B6:=B5.setV lt rep;have sub6:∀b∈(os'.set i []++[O0]).flatten,b∈(os'++[O0]).flatten:=λ b hb=>by rw[<-q0X (by rw[B'.len];exact lt)] at hb;exact (q0F hb).elim id λ z=>absurd z (by simp)
  have B7:=B6.setV (i:=j) (by simpa using lt2) (rep.mono (q2u sub6));have B8:=B7.setN (i:=i) (y:=none) (by simpa using lt);refine q1K (v:= .ref a) I5 hN hi (.inl hl) rfl (λ s6 I6=>?_) (.inr hl);refine wpAny_execs_cons (wpAny_Assign_Name (q4L (X:=mk X a) (v:= .ref a) (q6h I6) hi (.inl hl) ?_ hd hcd λ u r=>?_) rfl)
  ·rw[Jc (by rw[B'.slen];exact lt)]
  refine q1K (v:= .ref a) I6 hN hj hy r (λ s7 I7=>?_) hfy;refine wpAny_execs_nil ?_;refine name_goes I7 hN hi hl λ s8 I8=>?_;refine⟨_,.nx,_,_,_,?_,B8,I8,trivial⟩;show (if sub c' c=true then _ else _)=_;rw[if_pos hsb,qCg _ _ _ _ _ _ hij]
end
end Snd
namespace Snd
open PySem PySem.Spec PyProof.Rows L2 Ev
theorem q5n:entryFor table "proto.unchain" = some Builtin.«proto.unchain»:=entryFor_of_tree (by kernel_rfl)
section
variable {prog:Program}{w:World}{A:Around}{E:Value->Shared->Prop}{s:Shared}
theorem q9a {id:String}{args:Args}{b:Builtin}{R:Result->Shared->Prop}(hb:entryFor table id=some b)
  (h:wpAny (model prog w) (A.under (.builtin id args)) (b args) (λ fin s'=>match fin with | .done f=>R (.ok f) s' | .again c'=>c'.quiet=true/\codeAny (model prog w) A c' R s') (λ e s'=>R (.error e) s') s):codeAny (model prog w) A (.builtin id args) R s:=by
 refine codeAny_of_tree ?_;show wpAny _ _ (match entryFor table id with|some b=>b args|none=>unsupported ((withoutEnding? id "#data").getD id)) _ _ s;rw[hb];exact h
theorem qAt {α:Type}{a e:Addr}{oa oe:Obj}{vs ws:Array Value}{Q:α->Shared->Prop}(hh:A.handled=some (.ref a)) (hne:a≠e) (ha:s.heap.get? a=some oa) (da:oa.data = .fields vs) (va:vs[2]? = some .none) (he:s.heap.get? e=some oe) (de:oe.data = .fields ws) (hw:2<ws.size)
  (h:E (.ref e) {s with heap:=s.heap.update e (Obj.mapFields (·.setIfInBounds 2 (.ref a)))}):wpAny (model prog w) A (raiseNew (.ref e):Sem α) Q E s:=by
 unfold raiseNew;refine wpAny_bind (wpAny_handled ?_);rw[hh];dsimp only;have hn:(Value.ref a != Value.ref e)=true:=by simpa using hne
 rw[if_pos hn];refine wpAny_bind (wpAny_holding (wpAny_runValue (q9a q5n ?_)));unfold Builtin.«proto.unchain»;dsimp only;refine wpAny_bind (wpAny_field ha da va ?_);have hq:(Value.none==Value.none)=true:=rfl;rw[if_pos hq];refine wpAny_pure ?_;show wpAny _ _ (do updateField e 2 (.ref a);throw (.ref e)) _ _ s;unfold updateField;refine wpAny_bind (wpAny_bind (wpAny_load he ?_));rw[de];dsimp only;rw[if_pos hw];exact wpAny_update he (wpAny_throw h)
section
variable {nm q:Str}{C N:Addr}{bs bm bmB:List Value}{hdct:Bool}{sn:List Str}{sub:List Value}{ab:Bool}{col:Option Bool}{dd:Option Addr}{k0 k1 k2 k3 k5:Option Value}{B newId initId:String}{env:PySem.Env}
theorem q9b {x:Sem Value}{Q:Flow->Shared->Prop}(hbase:bm.contains (.type "BaseException")=true)
  (h:wpAny (model prog w) A x (λ v s1=>∃e t,v = .ref e/\s1.heap.get? C=some (excClassObj nm q C N bs bm hdct sn sub ab col dd k0 k1 k2 k3 k5 newId)/\
   s1.heap.get? e=some {cls:= .ref C,data:= .fields #[.ref t,.none,.none,.none,.bool false,.none]}/\wpAny (model prog w) A (raiseNew (.ref e):Sem Flow) Q E s1) E s) :
  wpAny (model prog w) A (raiseStmt env (some x) none) Q E s:=by
 have hB:(Value.ref C::bm).contains (.type "BaseException")=true:=by rw[List.contains_cons,hbase,Bool.or_true]
 unfold raiseStmt;refine wpAny_bind (wpAny_mono h (λ v s1 h1=>?_) λ _ _ z=>z);obtain⟨e,t,rfl,hC,he,hE⟩:=h1;obtain⟨hp,g,d,tk,os⟩:=s1
 repeat (first|with_reducible refine wpAny_loadPart_at he ?_|with_reducible refine wpAny_loadPart_at hC ?_|(with_reducible refine wpAny_isSubtype_exc hC ?_;rw[hB])|wp_step)
 exact hE
theorem qHa (F:ExcBaseFacts B newId initId bmB) {mN:Str->Option Value}{x:Str}{np cpos pos:Pos}{args:List PySem.Expr}{Q:Flow->Shared->Prop}(hbase:bm.contains (.type "BaseException")=true) (hplain:(backTo cpos (starEach args env)).any (·.1)=false) (hni:mN "__init__" = none)
  (h:wpAny (model prog w) A (eval (.Name x np) env) (λ f s1=>f = .ref C/\wpAny (model prog w) A (evalArgs (.ref C) true (backTo cpos (starEach args env)) [])
   (λ a s2=>a.kw=[]/\a.pos.length<=sizeLine/\s2.heap.get? C=some (excClassObj nm q C N bs bm hdct sn sub ab col dd k0 k1 k2 k3 k5 newId)/\s2.heap.Ns N mN/\OwnTail s2.heap bmB bm/\
    ∀h' e,Heap.MadeExcOf s2.heap h' e (.ref C) a.pos->wpAny (model prog w) A (raiseNew (.ref e):Sem Flow) Q E {s2 with heap:=h'}) E s1) E s) :
  wpAny (model prog w) A (exec (.Raise (some (.Call (.Name x np) args [] cpos)) none pos) env) Q E s:=by
 rw[arm_exec_Raise];refine wpAny_bind (wpAny_standAt (q9b (C:=C) (nm:=nm) (q:=q) (N:=N) (bs:=bs) (bm:=bm) (hdct:=hdct) (sn:=sn) (sub:=sub) (ab:=ab) (col:=col) (dd:=dd) (k0:=k0) (k1:=k1) (k2:=k2) (k3:=k3) (k5:=k5) (newId:=newId) hbase ?_));refine wpAny_bind (wpAny_mono (wpAny_Call_ofName (wpAny_mono h (λ f s1 h1=>?_) λ _ _ z=>z)) (λ v s3 h3=>wpAny_bind (wpAny_standAt (wpAny_pure h3))) λ _ _ z=>z);obtain⟨rfl,h1⟩:=h1;unfold callWith;refine wpAny_bind (wpAny_holding (wpAny_mono h1 (λ a s2 h2=>wpAny_bind (wpAny_standAt ?_)) λ _ _ z=>z));obtain⟨ap,ak⟩:=a;obtain⟨hkw,hlen,hC,hn,T,h2⟩:=h2;obtain rfl:ak=[]:=hkw;obtain⟨hp,g,d,tk,os⟩:=s2;simp only[hplain];refine wpAny_bind (wpAny_keeperOf_exc hC ?_);refine wpAny_bind (wpAny_call_exc_subT (hrest:=hlen) F T hC hn hni λ h' e hm=>wpAny_bind (wpAny_holding (wpAny_point (wpAny_pure ?_))));obtain⟨t,ht,_,_⟩:=hm.there;exact⟨e,t,rfl,hm.keeps _ _ hC,ht,h2 h' e hm⟩
end
end
section
variable {X:Cx}{p:Pm}{G:Nat->List D->R D}{sub:Nat->Nat->Bool}
theorem qEx {c d:Nat}{body:List Stmt}{lb:List S}{cn x:Str}{Cc Cd:Addr}{bm:List Value}{newId initId Bn:String}{m:PySem.Expr}{q np cpos rpos pos' pos:Pos}(T:Top X) (hg:Gl X cn) (hm:X.mg cn=some (.ref Cc)) (hsub:∀e Ce,p.cls[e]? = some Ce->PySem.W.exmOne X.K (.ref Ce) (.ref Cc)=some (sub e c)) (hdc:(cn==("__debug__":Str))=false)
  (hg2:Gl X x) (O:OwnCls x Cd bm newId X.mg X.base) (FB:ExcBaseFacts Bn newId initId bm) (hcl:p.cls[d]? = some Cd) (hbt:PySem.W.nsIn X.K mainGlobals "BadText" = some (some (.ref Cd))) (ha:∀h,SM (mk X h) m) (hd2:(x==("__debug__":Str))=false) (hst:starEach [m] X.env=[(false,eval m X.env)])
  (hb:SSs X p G sub body lb):SS X p G sub (.Try body [.ExceptHandler (some (.Name cn q)) none [.Raise (some (.Call (.Name x np) [m] [] cpos)) none rpos] pos'] [] [] pos) (.tryR lb c d):=by
 intro H0 O0 E hp pins s σ H ρ os I B hs hE;have e0:ex G sub (.tryR lb c d) ρ=match exs G sub lb ρ with
   | .err e ρ'=>if sub e c&&!sub d c then .err d ρ' else .stuck
   |r=>r:=rfl
 rw[e0] at hs hE |-;generalize hr:exs G sub lb ρ=r0 at hs hE |-;have ns:r0 ≠ .stuck:=λ e=>hs (by rw[e]);refine wpAny_Try_except (wpAny_mono (hb H0 O0 _ (q4O (p:=p) (H0:=H0) (O0:=O0) (pins:=pins) (r:=r0) T) pins s σ H ρ os I B (by rw[hr];exact ns) (λ e s' z=>by rw[hr] at z;exact z)) (λ f s1 qq=>?_) (λ e s1 qq=>?_))
 ·rw[hr] at qq;obtain⟨ρ1,fl,σ1,os1,H1,e1,B1,I1,r1⟩:=qq;subst e1;cases fl<;>cases f<;>first|exact r1.elim|skip
  ·exact wpAny_execs_nil ⟨ρ1,.nx,σ1,os1,H1,rfl,B1,I1,trivial⟩
  ·exact⟨ρ1,.brk,σ1,os1,H1,rfl,B1,I1,trivial⟩
  ·exact⟨ρ1,.cont,σ1,os1,H1,rfl,B1,I1,trivial⟩
  ·exact⟨ρ1,_,σ1,os1,H1,rfl,B1,I1,r1⟩
 ·obtain⟨c',ρ',σ',os',H',e1,B',md⟩:=qq;subst e1;have hs1:(sub c' c&&!sub d c)=true:=by
   cases h:(sub c' c&&!sub d c) with
   |true=>rfl
   |false=>exact absurd (by simp[h]) hs
  obtain⟨hsb,hsd⟩:=Bool.and_eq_true_iff.mp hs1;rw[Bool.not_eq_true'] at hsd;have hE:∀(e:Value) (s':Shared),Es X p H0 O0 pins (.err d ρ') e s'->E e s':=λ e s' z=>hE e s' (by show Es X p H0 O0 pins (if (sub c' c&&!sub d c)=true then .err d ρ' else .stuck) e s';rw[if_pos hs1];exact z)
  refine q3w T md λ H2 a C Bh t h2 ea ecl x2 I2 bo tr=>?_;subst ea;refine q6d (s:={s1 with heap:=h2}) (o:=none) tr λ h3 tr3 up3=>?_;have I3:=q0a (s:={s1 with heap:=h2}) I2 bo tr3.1 up3;refine wpAny_handleBy_cons (codeAny_handlers_test ?_) (by intro q;cases q);refine q1w (X:=mk X a) (q6h I3) hg hm ?_ hdc;have LT:PySem.W.Looks (model X.prog X.w) h3 (typeOf (.ref a)) (.ref C):=by obtain⟨ob,g1,g2⟩:=tr3.2.2.2.there;exact g2▸(PySem.W.Looks.ld g1).andThen .now
  refine PySem.W.Looks.here (s:={s1 with heap:=h3}) (PySem.W.exm_one I3.kIn LT (hsub c' C ecl)) ?_;rw[hsb,if_pos rfl];refine codeAny_handlers_suite ?_;refine q6d (s:={s1 with heap:=h3}) (o:=none) tr3 λ h4 tr4 up4=>?_;have I4:=q0a (s:={s1 with heap:=h3}) I3 bo tr4.1 up4;obtain⟨hn,I5⟩:=q6i I4 bo tr4;obtain⟨k1,k2,k3,oa,vs,T',oT,ts,g1,g2,g3,g4,g5,g6,g7,g8,g9,cx,g10,g11⟩:=id tr4;have hcx:cx = .none:=by
   rcases g11 with z|z
   ·exact z
   ·rw[hbt] at z;have z:Cd=C:=by injection z with z;injection z with z;injection z
    have h1:=hsub c' C ecl;rw[<-z,hsub d Cd hcl,hsd,hsb] at h1;cases h1
  subst hcx;have nst:a∉frs X.stack:=λ hm=>by obtain⟨_,o,ho,hd⟩:=k3.mem hm;rw[g1] at ho;cases ho;exact hd _ g3
  have nloc:a≠X.env.locals:=λ z=>nst (by rw[z,T.stk];unfold frs;rw[QI,T.frame];exact Qb);have nfs:a∉X.fs:=λ z=>nst (q3t I4.ok a z);have IP:Inv X (pins++[(a,oa)]) σ' H2 {s1 with heap:=h4}:=I4.q44 λ q hq=>(Qq.mp hq).elim (λ z=>I4.pin q (Qr _ z)) λ z=>by cases Qu.mp z;exact⟨g1,q3s bo.hok k2,nloc,nfs,λ v z=>by rw[g3] at z;cases z⟩
  obtain⟨tl,N,nm,qn,bs,hdct,sn,sb,ab,col,dd,k0',k1',k2',k3',k5',mN,hC,hN,hni,OT⟩:=O.obj;refine wpAny_execs_cons (qHa (C:=Cd) (nm:=nm) (q:=qn) (N:=N) (bs:=bs) (bm:=tl) (hdct:=hdct) (sn:=sn) (sub:=sb) (ab:=ab) (col:=col) (dd:=dd) (k0:=k0') (k1:=k1') (k2:=k2') (k3:=k3') (k5:=k5')
   FB (mN:=mN) (OT.hasType FB.hasBase) (by rw[hst];rfl) hni (q1w (X:=mk X a) (q6h IP) hg2 O.bound ⟨rfl,?_⟩ hd2))
  rw[hst];refine Calls.evalArgs_plain ?_;show wpAny _ _ (spliced ((false,eval m X.env)::backTo cpos [])) _ _ {s1 with heap:=h4};refine Calls.spliced_cons (wpAny_mono (ha a _ (pins++[(a,oa)]) σ' H2 _ (q6h IP)) (λ u s5 I5m=>?_) λ _ _ z=>z);have I6:Inv X (pins++[(a,oa)]) σ' H2 s5:=qCf I4.ok I5m;have I7:Inv X pins σ' H2 s5:=I6.q44 λ q hq=>I6.pin q (Qr _ (QM _ hq));have ga:s5.heap.get? a=some oa:=(I6.pin (a,oa) (Qr _ (Qr _ (Qu.mpr rfl)))).1;refine Calls.spliced_nil ⟨rfl,show 1<=sizeLine by rw[sizeLine_eq];decide,I6.bk _ _ hC,hN.keeps I6.bk,OT.keeps I6.bk,λ h' e mk'=>?_⟩;have hne:a≠e:=λ z=>by rw[z,mk'.new] at ga;cases ga
  obtain⟨t',he,_,_⟩:=mk'.there;refine qAt (s:={s5 with heap:=h'}) (a:=a) (e:=e) rfl hne (mk'.keeps a oa ga) g3 g10 he rfl (by simp) ?_;have hB:(hidF X s5.heap).get? e=none:=by
   cases z:(hidF X s5.heap).get? e with
   |none=>rfl
   |some o=>have:=q7l z;rw[mk'.new] at this;cases this
  generalize hu:h'.update e (Obj.mapFields (·.setIfInBounds 2 (.ref a)))=h6;have oth:∀b,b≠e->h6.get? b=h'.get? b:=λ b hb=>by rw[<-hu];exact Heap.get?_update_other _ _ (Ne.symm hb)
  have ge:h6.get? e=some {cls:= .ref Cd,data:= .fields #[.ref t',.none,.ref a,.none,.bool false,.none]}:=by rw[<-hu,Heap.get?_update_self _ he (Obj.isFreed_of_fields (Obj.data_mapFields rfl _))];rfl
  have kp:∀b o,s5.heap.get? b=some o->h6.get? b=some o:=λ b o q=>(oth b λ z=>by rw[z,mk'.new] at q;cases q).trans (mk'.keeps b o q);have kb:(hidF X s5.heap).StaysIn h6:=λ b o q=>kp b o (q7l q);show wpAny _ _ (noteFrame (.ref e) X.env) _ _ {s5 with heap:=h6};unfold noteFrame;simp only[T.frame];refine wpAny_bind (wpAny_field ge rfl (x:= .none) rfl ?_);have hn2:¬((Value.none != Value.none)=true):=by decide
  rw[if_neg hn2];refine qAo (K:=X.K) (B:=hidF X s5.heap) (a0:= .ref t') (x:= .ref a) (s:={s5 with heap:=h6}) (T.frames I4.ok) ((T.stk▸q4N I7:s5.heap.FunFrames (hidF X s5.heap) (X.env::X.outer)).of_keeps λ b o q _=>⟨o,kp b o q,rfl⟩) T.frame ge kb hB rfl (by simp) rfl rfl (.inr hbt) λ h7 tr7 up7=>?_;obtain⟨_,_,_,oe8,vs8,T8,oT8,ts8,p1,p2,p3,p4,_⟩:=id tr7;show cameBackBy _ _ _ _ _ _;unfold cameBackBy;refine wpAny_bind (wpAny_field (s:={s5 with heap:=h7}) p1 p3 p4 ?_);have hn3:¬((Value.ref T8==Value.none)=true):=by simp
  rw[if_neg hn3,T.frame];refine q6d (s:={s5 with heap:=h7}) (K:=X.K) (B:=hidF X s5.heap) tr7 λ h8 tr8 up8=>?_;refine hE _ _ ⟨d,ρ',σ',os',H2,rfl,B'.mono x2,H2,e,Cd,rfl,hcl,Ext.refl _,.inr (.inr ⟨hidF X s5.heap,t',_,T.frame,?_,q3v I7,T.stk▸tr8⟩)⟩;exact q0a (s:=s5) (h':=h8) I7 (q3v I7) tr8.1 (((Heap.UpToSlots.of_keeps kp).trans up7).trans up8)
end
end Snd
namespace Snd
open PySem PySem.Spec PyProof.Rows L2 Ev PySem.W PySem.Builtin PySem.Builtin.ObjectAttr
variable {x C:Addr}
structure ExOk (K:PySem.W.Frag) (C:Addr):Prop where
 ga:findIn K (.ref C) "__getattribute__" = some (some (.builtin "BaseException.__getattribute__"))
 gh:findIn K (.ref C) "__getattr__" = some none
 bex:mroIn K C (.type "BaseException")=some true
 own:findIn K (.ref C) "__class__" = some (some (.builtin "object.__class__"))
 spc:specialIn K (.builtin "object.__class__") "__get__" = some (some (.builtin "getset_descriptor.__get__"))
 tk:takesIn K (.builtin "object.__class__")=some true
 mro:mroIn K C (.type "object")=some true
 cls:isClsIn K C=true
section
variable {M:Model}{K:PySem.W.Frag}{h:Heap}
theorem q3x (q:q2p x C h):PySem.W.Looks M h (typeOf (.ref x)) (.ref C):=by obtain⟨o,e1,e2⟩:=q;exact e2▸(PySem.W.Looks.ld e1).andThen .now
theorem qCh (Z:K.In h) (o:ExOk K C):PySem.W.Looks M h (find (.ref x) (.ref C) "__class__") (.bind (.builtin "getset_descriptor.__get__") (.builtin "object.__class__")):=by have z1:=looks_findIn (M:=M) Z o.own;have z2:PySem.W.Looks M h (getOf (some (Value.builtin "object.__class__"))) (some (.builtin "getset_descriptor.__get__")):=looks_specialIn Z o.spc;have z3:=looks_takesIn (M:=M) Z o.tk;refine z1.andThen (z2.andThen ((show PySem.W.Looks M h (dataDescriptor? (some (.builtin "object.__class__")) (some (.builtin "getset_descriptor.__get__"))) (some (.builtin "getset_descriptor.__get__",.builtin "object.__class__")) from z3.andThen .now).andThen ?_));exact PySem.W.Looks.tag .now
end
section
variable {prog:Program}{w:World}{A:Around}{E:Value->Shared->Prop}{s:Shared}{K:PySem.W.Frag}
theorem qEy {tp:Value}{R:Result->Shared->Prop}(Z:K.In s.heap) (o:ExOk K C) (q:q2p x C s.heap) (hR:R (.ok (.ret (.ref C))) s):codeAny (model prog w) A (.call (.builtin "getset_descriptor.__get__") ⟨[.builtin "object.__class__",.ref x,tp],[]⟩) R s:=by
 obtain⟨hp,ge,dr,tk,os⟩:=s;have z0:=q3x (M:=model prog w) (show q2p x C hp from q);have z4:=looks_mroIn (M:=model prog w) (show K.In hp from Z) o.mro;refine codeAny_call_builtin KF.slot_gs.plain KF.entry_gs (KF.slot_gs.check _ _ _ _ _ _ _ _ KF.type_class (KF.args_gs _ _ _) (show wpAny _ _ (Builtin.Getset_descriptor.descrGet _) _ _ _ from ?_));unfold Builtin.Getset_descriptor.descrGet;rw[dga_obj];refine wpAny_bind (wpAny_pure ?_);unfold Builtin.Getset_descriptor.descrGetter Builtin.Getset_descriptor.descrCheckInstance Builtin.Getset_descriptor.descrNameAndClass isInstance;simp only[KF.owner_class]
 repeat lk
 refine⟨Code.quiet_builtin _ (by decide +kernel),codeAny_builtin KF.entry_class ?_⟩;unfold Builtin.«object.__class__»;unfold shownTypeOf
 repeat lk
 exact hR
theorem qAu {nv:Value}{Q:Unit->Shared->Prop}(Z:K.In s.heap) (o:ExOk K C) (q:q2p x C s.heap) (hq:Q () s):wpAny (model prog w) A (checkBuiltinCall "BaseException.__getattribute__" ⟨[.ref x,nv],[]⟩) Q E s:=by
 obtain⟨hp,ge,dr,tk,os⟩:=s;have z0:=q3x (M:=model prog w) (show q2p x C hp from q);have z4:=looks_mroIn (M:=model prog w) (show K.In hp from Z) o.bex;have k1:builtinKind "BaseException.__getattribute__" = some .slot:=by decide +kernel
 have k2:splitId "BaseException.__getattribute__" = some ("BaseException", "__getattribute__"):=by decide +kernel
 have k3:=PySem.F.args_bexc_ga (.ref x) nv;unfold argsOk at k3;unfold checkBuiltinCall;simp only[k1,k2];refine wpAny_bind ?_;unfold isInstance
 repeat lk
 exact hq
theorem qAv {Q:Option Value->Shared->Prop}(Z:K.In s.heap) (o:ExOk K C) (q:q2p x C s.heap) (hq:Q (some (.ref C)) {s with toks:=s.toks+1}):wpAny (model prog w) A (getAttr? (.ref x) "__class__") Q E s:=by
 obtain⟨hp,ge,dr,tk,os⟩:=s;have z0:=q3x (M:=model prog w) (show q2p x C hp from q);have z1:=looks_findIn (M:=model prog w) (show K.In hp from Z) o.ga;have z2:=qCh (M:=model prog w) (x:=x) (show K.In hp from Z) o;have z3:=looks_findIn (M:=model prog w) (show K.In hp from Z) o.gh;have nb:(onTheHeap (Value.ref C)&&Value.builtin "BaseException.__getattribute__"==Value.builtin "object.__getattribute__")=false:=by
  have:(Value.builtin "BaseException.__getattribute__"==Value.builtin "object.__getattribute__")=false:=by decide +kernel
  rw[this,Bool.and_false]
 unfold getAttr? getAttrBy? getAttrBy;refine wpAny_bind (wpAny_mkText (wpAny_bind (wpAny_attempt (wpAny_holding (wpAny_bind (z0.at (wpAny_bind (z1.at ?_))))))));dsimp only;rw[nb,if_neg (by decide)];unfold getAttrByItsOwn hookBefore;rw[if_pos (show onTheHeap (Value.ref C)=true from rfl)];refine wpAny_bind (z3.at (wpAny_bind (wpAny_attempt (wpAny_holding ?_))));show wpAny _ _ (boundAndCalled _ _ _) _ _ _;unfold boundAndCalled;refine wpAny_bind (wpAny_of_eq (PySem.F.attr_ValueError.ga.bind (.ref x)) ?_);refine wpAny_call (codeAny_call_builtin PySem.F.attr_ValueError.ga.plain PySem.F.entry_bexc_ga (qAu (s:={heap:=hp,gens:=ge,drawn:=dr,toks:=tk+1,os:=os}) Z o q ?_));unfold Builtin.«object.__getattribute__»;refine wpAny_bind (wpAny_pure (wpAny_bind (wpAny_pure (wpAny_bind (z0.at (wpAny_bind (z2.at ?_)))))));dsimp only;show wpAny _ _ (Builtin.ObjectAttr.bindTo _ _ _ _) _ _ _;show wpAny _ _ (holding [_] (call _ [_,Value.ref x,Value.ref C]) >>= ret) _ _ _;exact wpAny_bind (wpAny_holding (wpAny_call (qEy (s:={heap:=hp,gens:=ge,drawn:=dr,toks:=tk+1,os:=os}) Z o q (wpAny_pure (handed_on rfl (wpAny_pure hq))))))
end
theorem q8j {K:PySem.W.Frag}(o:ExOk K C):KitX K (.ref x) (.ref C) (q2p x C) where
 ty:=λ _ _ _ q=>q3x q
 it:=λ _ _ Z _=>by
  obtain⟨cd,hc⟩:=Ji.mp o.cls;unfold clsIn at hc;split at hc
  ·rename_i ho;intro A' Q' E' s' k q;unfold isType;unfold loadHead;exact wpAny_bind (wpAny_loadPart (k _ _ (Z _ _ ho)) (wpAny_pure q))
  ·cases hc
 ne:=λ h tp dd its n sl Z htp=>by
  obtain⟨cd,hc⟩:=Ji.mp o.cls;refine Bool.eq_false_iff.mpr λ q=>?_;cases Value.ref.inj (beq_iff_eq.mp q);unfold clsIn at hc;split at hc
  ·rename_i ho;cases (Z _ _ ho).symm.trans htp
  ·cases hc
 ca:=λ Z q k=>qAv Z o q k
section
variable {X:Cx}{p:Pm}{G:Nat->List D->R D}{sub:Nat->Nat->Bool}
def BI (X:Cx) (p:Pm) (sub:Nat->Nat->Bool) (b:Bi) (cv:Value):Prop :=
 ∀(E:Value->Shared->Prop) (pins:List (Addr×Obj)) (s:Shared) (σ:L2.St) (H:Hp) (os:List (List Addr)) (d r:D) (v:V) (u:Value),Inv X pins σ H s->RelV v u->RepB p H (fz os.flatten H) d v->biD sub b [d] = .ok r->
  wpAny (model X.prog X.w) X.A (call (.builtin "isinstance") [u,cv]) (EP (X.wish E) pins σ (Fin p os.flatten H r)) E s
theorem q3y {K:PySem.W.Frag}{t:Value}:kitOne K t t=some true:=by unfold kitOne;rw[if_pos (beq_self_eq_true t)]
theorem q1x {E:Value->Shared->Prop}{pins:List (Addr×Obj)}{s:Shared}{σ:L2.St}{H:Hp}{O:List Addr}(I:Inv X pins σ H s) (b:Bool) (tk:Nat):EP (X.wish E) pins σ (Fin p O H (.bl b)) (.bool b) {s with toks:=tk} :=
 ⟨.bl b,H,(I.wish E).tok tk,rfl,q0C rfl⟩
theorem qHb (hK:p.K=X.K):BI X p sub .isTup (.type "tuple"):=by
 intro E pins s σ H os d r v u I rv q h;cases d<;>first
  |(cases h;done)
  |skip
 cases h;obtain⟨a,vs,rfl,s1,z,r1⟩:=q;cases rv;obtain⟨its,rv,⟨o,e,c,_⟩,_⟩:=I.tuple (hK▸q0V.sqT s1);exact kia_one kitx_tuple I.kIn ⟨o,e,c⟩ q3y (λ z=>nomatch z) λ tk=>q1x I _ tk
theorem qHc (hK:p.K=X.K):BI X p sub .isLst (.type "list"):=by
 intro E pins s σ H os d r v u I rv q h;cases d<;>first
  |(cases h;done)
  |skip
 cases h;obtain⟨a,vs,rfl,s1,r1⟩:=q;cases rv;obtain⟨its,rv,⟨o,n,e,c,_⟩,_⟩:=I.list (hK▸s1);exact kia_one kitx_list I.kIn ⟨o,e,c⟩ q3y (λ z=>nomatch z) λ tk=>q1x I _ tk
theorem qHd:BI X p sub .isInt (.type "int"):=by
 intro E pins s σ H os d r v u I rv q h;cases d<;>first
  |(cases h;done)
  |skip
 cases h;cases (show v=_ from q);obtain⟨t,rfl⟩:=rv;exact kia_one kitx_int I.kIn trivial q3y (λ z=>nomatch z) λ tk=>q1x I _ tk
theorem q6j {K:PySem.W.Frag}:kitOne K (.type "int") (.type "bool")=some false:=by
 have h1:(Value.type "int"==Value.type "bool")=false:=by decide +kernel
 have h2:kitMeta "bool" = true:=by decide +kernel
 have h3:(fastBuiltinMro "int").map (·.contains (Value.type "bool"))=some false:=by decide +kernel
 unfold kitOne kitCls subIn;rw[if_neg (by rw[h1];decide)];dsimp only;rw[if_pos h2,h3]
theorem qEz:BI X p sub .isBool (.type "bool"):=by
 intro E pins s σ H os d r v u I rv q h;cases d<;>first
  |(cases h;done)
  |skip
 ·cases h;cases (show v=_ from q);cases rv;exact kia_one kitx_bool I.kIn trivial q3y (λ z=>nomatch z) λ tk=>q1x I _ tk
 ·cases h;cases (show v=_ from q);obtain⟨t,rfl⟩:=rv;exact kia_one kitx_int I.kIn trivial q6j (λ z=>nomatch z) λ tk=>q1x I _ tk
theorem qDt {pins:List (Addr×Obj)}{s:Shared}{σ:L2.St}{H:Hp}{O:List Addr}{c:Nat}{v:V}(I:Inv X pins σ H s) (q:Rep p (fz O H) (.exc c) v):∃a C,v = .ref a/\p.cls[c]? = some C/\q2p a C s.heap:=by obtain⟨a,C,e,h1,h2⟩:=q;exact⟨a,C,e,h1,(I.hok a _ (q0V _ _ h2)).1⟩
theorem qHe (hX:∀(c:Nat) (C:Addr),p.cls[c]? = some C->ExOk X.K C/\kitOne X.K (.ref C) (.type "ValueError")=some true):BI X p sub .isVal (.type "ValueError"):=by
 intro E pins s σ H os d r v u I rv q h;cases d<;>first
  |(cases h;done)
  |skip
 cases h;obtain⟨a,C,rfl,h1,h2⟩:=qDt I q;cases rv;obtain⟨k1,k2⟩:=hX _ C h1;exact kia_one (q8j k1) I.kIn h2 k2 (λ z=>nomatch z) λ tk=>q1x I _ tk
theorem qHf {k:Nat}{Cc:Addr}(hX:∀(c:Nat) (C:Addr),p.cls[c]? = some C->ExOk X.K C/\kitOne X.K (.ref C) (.ref Cc)=some (sub c k)):BI X p sub (.isExc k) (.ref Cc):=by
 intro E pins s σ H os d r v u I rv q h;cases d<;>first
  |(cases h;done)
  |skip
 cases h;obtain⟨a,C,rfl,h1,h2⟩:=qDt I q;cases rv;obtain⟨k1,k2⟩:=hX _ C h1;exact kia_one (q8j k1) I.kIn h2 k2 (λ z=>nomatch z) λ tk=>q1x I _ tk
theorem q3N {a:PySem.Expr}{cn:Str}{l:L}{b:Bi}{cv:Value}{q q2 pos:Pos}(hB:BI X p sub b cv) (hg:Gl X "isinstance") (hm:X.mg "isinstance" = none) (ha:SB X p G sub a l)
  (hc:∀(E:Value->Shared->Prop) (Q:Value->Shared->Prop) (pins:List (Addr×Obj)) (s:Shared) (σ:L2.St) (H:Hp),Inv X pins σ H s->Q cv s->wpAny (model X.prog X.w) X.A (eval (.Name cn q2) X.env) Q E s)
  (hst:starEach [a,.Name cn q2] X.env=[(false,eval a X.env),(false,eval (.Name cn q2) X.env)]):SE X p G sub (.Call (.Name "isinstance" q) [a,.Name cn q2] [] pos) (.bi b [l]):=by
 intro pins s σ H ρ os I R hs;refine wpAny_Call_Name_kw (q1r I hg hm boot_isinstance ?_ (by decide) (by decide));refine PyProof.Rows.callWith_builtin1 ?_ (by rw[hst];rfl) rfl;rw[hst];show wpAny _ _ (spliced ((false,eval a X.env)::backTo pos [(false,eval (.Name cn q2) X.env)])) _ _ s;refine Calls.spliced_cons (wpAny_mono (ha pins s σ H ρ os I R (q8e hs)) (λ u s1 h=>?_) (λ _ _=>q8d));obtain⟨d,v,H1,e1,I1,r1,x1,q1⟩:=h;have e0:ev G sub (.bi b [l]) ρ=biD sub b [d]:=by rw[q0U,q2y (f:=λ d=>biD sub b [d]) l ρ _ (λ _=>rfl),e1];rfl
 rw[e0] at hs |-;show wpAny _ _ (spliced ((false,eval (.Name cn q2) X.env)::[])) _ _ s1;refine Calls.spliced_cons (hc _ _ pins s1 σ H1 I1 (Calls.spliced_nil ?_));rcases q23 sub b [d] with z|⟨r,z⟩
 ·exact absurd z hs
 ·rw[z];exact wpAny_mono (hB (Er X p pins σ H (.ok r)) pins s1 σ H1 os d r v u I1 r1 q1 z) (λ w s2 h2=>q6V x1 rfl h2) λ _ _ z=>z
end
end Snd
namespace Snd
open PySem PySem.Spec PyProof.Rows L2 Ev
variable {H:Hp}{o:HO}{i:Nat}
theorem qF0 {O:List Addr}{a:Addr}(n:H a=none):Ext (fz O H) (fz (O++[a]) (upd H a o)):=λ c u e=>by
 unfold fz at e |-;split at e
 ·cases e
 ·rename_i h;have ne:c≠a:=λ z=>by rw[z,n] at e;cases e
  rw[if_neg (by simp[h,ne]),q05 ne];exact e
theorem q6k {p:Pm}{H Hf:Hp}{c:Addr}{o:HO}:∀{bs:List Addr}{xss:List (List D)},c∉bs->q4J p H Hf bs xss->q4J p (upd H c o) Hf bs xss
 |[],_,_,h=>h
 |b::bs,xss,n,h=>by obtain⟨xs,r,e,⟨vs,h1,h2⟩,h3⟩:=h;exact⟨xs,r,e,⟨vs,by rw[q05 λ z=>n (by simp[z])];exact h1,h2⟩,q6k (λ z=>n (Qa _ z)) h3⟩
theorem q4Q {p:Pm}{Hf:Hp}{c:Addr}{x:Option Sl}{y:Option V}{as:List Addr}(n:c∉as) (h:q2q p H Hf x y as):q2q p (upd H c o) Hf x y as:=by
 cases x with
 |none=>exact h
 |some sl =>
  cases sl with
  |val d=>exact h
  |own d =>
   obtain⟨a,h1,h2,h3⟩:=h;have ne:a≠c:=λ z=>n (by rw[h2,z];simp);refine⟨a,h1,h2,?_⟩;cases d with
   |lst ds=>obtain⟨vs,q1,q2⟩:=h3;exact⟨vs,by rw[q05 ne];exact q1,q2⟩
   |dct ks ds=>obtain⟨kvs,q1,q2,q3⟩:=h3;exact⟨kvs,by rw[q05 ne];exact q1,q2,q3⟩
   |_=>exact h3
  |own2 xss =>
   obtain⟨a,bs,h1,h2,h3,h4⟩:=h;subst h2;exact⟨a,bs,h1,rfl,by rw[q05 λ z=>n (by simp[z])];exact h3,q6k (λ z=>n (Qa _ z)) h4⟩
theorem q3O {p:Pm}{H Hf:Hp}{c:Addr}{o:HO}:∀{ρ:Ev.Env}{σ:L2.St}{os:List (List Addr)},c∉os.flatten->q0t p H Hf ρ σ os->q0t p (upd H c o) Hf ρ σ os
 |[],_,_,_,_=>trivial
 |_::ρ,_,_,n,h=>by obtain⟨y1,σ',as,os',rfl,rfl,h1,h2⟩:=h;simp only[Qw,Qq,not_or] at n;exact⟨y1,σ',as,os',rfl,rfl,q4Q n.1 h1,q3O n.2 h2⟩
theorem q6l {p:Pm}{H Hf:Hp}{c:Addr}{o:HO}{x:Option Sl}:∀{ρ:Ev.Env}{σ:L2.St}{os:List (List Addr)}(i:Nat) {y:Option V}{as:List Addr},q0t p H Hf ρ σ os->σ[i]? = some y->os[i]? = some as->c∈as->os.flatten.Nodup->q2q p (upd H c o) Hf x y as->
  q0t p (upd H c o) Hf (ρ.set i x) σ os
 |[],_,_,_,_,_,_,_,_,_,_,_=>trivial
 |_::ρ,_,_,0,y,as,h,e1,e2,hc,nd,q=>by obtain⟨y1,σ',as',os',rfl,rfl,h1,h2⟩:=h;simp at e1 e2;subst e1 e2;simp only[Qw] at nd;exact⟨_,σ',_,os',rfl,rfl,q,q3O (λ z=>(QD.mp nd).2.2 c hc c z rfl) h2⟩
 |_::ρ,_,_,i+1,y,as,h,e1,e2,hc,nd,q=>by obtain⟨y1,σ',as',os',rfl,rfl,h1,h2⟩:=h;simp only[Qw] at nd;have m:c∈os'.flatten:=QQ.mpr ⟨as,Qk (by simpa using e2),hc⟩;exact⟨y1,σ',as',os',rfl,rfl,q4Q (λ z=>(QD.mp nd).2.2 c z c m rfl) h1,q6l i h2 (by simpa using e1) (by simpa using e2) hc (QD.mp nd).2.1 q⟩
theorem Bd.write {p:Pm}{H0:Hp}{O0:List Addr}{ρ:Ev.Env}{σ:L2.St}{os:List (List Addr)}{sl:Sl}{y:Option V}{as:List Addr}{c:Addr}(b:Bd p H0 O0 ρ σ os H) (e1:σ[i]? = some y) (e2:os[i]? = some as) (hc:c∈as)
  (q:q2q p (upd H c o) (fz (os++[O0]).flatten H) (some sl) y as):Bd p H0 O0 (ρ.set i (some sl)) σ os (upd H c o):=by
 have mo:c∈os.flatten:=QQ.mpr ⟨as,Qk e2,hc⟩;have m:c∈(os++[O0]).flatten:=by rw[q0q];exact QM _ mo
 have e3:(os++[O0])[i]? = some as:=by rw[Qy (Qc.mp e2).1];exact e2
 refine⟨⟨b.rel.nd,λ a ha=>?_,?_⟩,by simp[b.len],by simp[b.slen],λ a u e=>?_,b.new⟩
 ·by_cases h:a=c
  ·subst h;exact⟨_,q0M⟩
  ·obtain⟨u,e⟩:=b.rel.there a ha;exact⟨u,by rw[q05 h];exact e⟩
 ·rw[q4z m];exact q6l i b.rel.slots e1 e3 hc b.rel.nd q
 ·rw[q05 λ z=>by rw[z,b.new c mo] at e;cases e];exact b.ext a u e
theorem Bd.at {p:Pm}{H0:Hp}{O0:List Addr}{ρ:Ev.Env}{σ:L2.St}{os:List (List Addr)}{H:Hp}{i:Nat}{x:Option Sl}(b:Bd p H0 O0 ρ σ os H) (h:ρ[i]? = some x):∃y as,σ[i]? = some y/\os[i]? = some as/\q2q p H (fz (os++[O0]).flatten H) x y as:=by
 obtain⟨y,as,e1,e2,h1⟩:=q2s b.rel.slots h;have lt:i<os.length:=by rw[b.len];exact (Qc.mp h).1
 rw[Qy lt] at e2;exact⟨y,as,e1,e2,h1⟩
section
variable {X:Cx}{p:Pm}{G:Nat->List D->R D}{sub:Nat->Nat->Bool}
theorem qF1 {x:Str}{es:List PySem.Expr}{ls:List L}{pos pos' pos2:Pos}(hN:X.N.Nodup) (hi:X.N[i]? = some x) (hx:Loc X.env.scope x) (hf:X.fn x=true\/X.env.scope.names.lookup x=some .local) (h:SA X p G sub es ls) :
  SS X p G sub (.Assign [.Name x pos'] (.List es pos2) pos) (.setO i (.lst ls)):=by
 intro H0 O0 E hp pins s σ H ρ os I B hs hE;have e0:ex G sub (.setO i (.lst ls)) ρ=(ev G sub (.lst ls) ρ).go ρ λ d=> .ok (ρ.set i (some (.own d))) .nx:=rfl;rw[e0,qAL] at hs hE |-;have ns:=q07 (q5g hs);refine wpAny_Assign_Name (wpAny_List_spliced (wpAny_mono (h pos2 pins s σ H ρ _ I B.rel ns) (λ us s1 ⟨ds,vs,H1,e1,I1,r1,x1,q1⟩=>?_) (λ e s' z=>hE e s' (q3l B z.bind)))) rfl;rw[e1,q00] at hs hE |-;have z:ds.length<=big:=by
  by_cases z:ds.length<=big
  ·exact z
  ·rw[if_neg z] at hs;exact absurd rfl hs
 rw[if_pos z];have z1:vs.length<=sizeLine:=Qt (q1.length▸z) q0W;refine⟨by rw[<-r1.length];exact z1,?_⟩;have hfr:H1 s1.heap.objs.size=none:=I1.hok.fresh (Qf _);have lt:i < ρ.length:=by rw[<-B.slen,I.len];exact (Qc.mp hi).1
 have B1:=B.mono x1;have I2:Inv X pins σ (upd H1 s1.heap.objs.size (.lst vs)) {s1 with heap:=s1.heap.push {cls:= .type "list",data:= .seq us.toArray}}:=I1.lnew (t':=s1.toks) r1 z1;refine q1K (v:= .ref s1.heap.objs.size) I2 hN hi hx rfl (λ s3 I3=>⟨_,.nx,_,_,_,rfl,B1.setO lt (Ext.upd hfr) (as:=[s1.heap.objs.size]) (by simp) (λ a ha=>?_) (λ a ha=>?_) ⟨_,rfl,rfl,vs,q0M,q1.mono (qF0 hfr)⟩,I3,trivial⟩) hf
 ·rw[Qu.mp ha];exact hfr
 ·rw[Qu.mp ha];exact⟨_,q0M⟩
theorem qHg {x:Str}{a:PySem.Expr}{l:L}{q ap cp pos:Pos}(hi:X.N[i]? = some x) (hv:Vis X.env.scope x) (hd:(x==("__debug__":Str))=false) (hcd:(x==("__classdict__":Str))=false) (ha:SE X p G sub a l)
  (hst:starEach [a] X.env=[(false,eval a X.env)]) (hline:(ap.endLine==cp.line)=true):SS X p G sub (.Expr (.Call (.Attribute (.Name x q) "append" ap) [a] [] cp) pos) (.app i l):=by
 intro H0 O0 E hp pins s σ H ρ os I B hs hE;have e0:ex G sub (.app i l) ρ=match ρ[i]? with
   |some (some (.own (.lst xs)))=>(ev G sub l ρ).go ρ λ d=>if xs.length<big then .ok (ρ.set i (some (.own (.lst (xs++[d]))))) .nx else .stuck
   |_=> .stuck:=rfl
 rw[e0] at hs hE |-;split at hs
 ·rename_i xs hρ;simp only[hρ] at hE |-;obtain⟨y,as,s1,s2,a',rfl,rfl,vs,s5,s6⟩:=B.at hρ;refine wpAny_Expr_any (wpAny_Call_method_late rfl (by rw[hst];rfl) hline rfl (q4L I hi hv s1 hd hcd λ u r=>?_)) I.quiet rfl;cases r;obtain⟨h1,h2⟩:=q8C (T := "list") (x:= .ref a') I rfl (.inl ⟨rfl,_,SqL.of s5⟩);refine⟨"list", "list.append",PySem.F.plainAttrs_list,PySem.F.slot_list_append,PySem.F.type_list_append,h1,h2,?_⟩;rw[hst];refine Calls.callWith_builtin rfl (Calls.evalArgs_plain ?_);show wpAny _ _ (spliced ((false,eval a X.env)::[])) _ _ s;refine Calls.spliced_cons (wpAny_mono (ha pins s σ H ρ _ I B.rel (q5g hs)) (λ v s3 ⟨d,x',H1,e1,I1,r1,x1,q1⟩=>Calls.spliced_nil ?_) (λ e s' z=>hE e s' (q3l B z)));rw[e1,q0A] at hs hE |-;have z:xs.length<big:=by
   by_cases z:xs.length<big
   ·exact z
   ·rw[if_neg z] at hs;exact absurd rfl hs
  rw[if_pos z];have hl:=s6.length;refine wpAny_mono (q6H (X:=X.wish E) pins s3 σ H1 (.ref a') [x'] _ _ (λ z H'=>H'=upd H1 a' (.lst (vs++[x']))) (I1.wish E) rfl (.cons r1 .nil) ⟨a',vs,x',rfl,rfl,x1 _ _ s5,Qv (by lia) q0W,rfl⟩) (λ w s4 ⟨zv,H2,I2,_,eH⟩=>?_) (λ _ _ z=>z);subst eH;exact⟨_,.nx,σ,os,_,rfl,(B.mono x1).write s1 s2 (by simp) ⟨a',rfl,rfl,_,q0M,(s6.mono (q1E x1)).snoc q1⟩,I2.q45,trivial⟩
 ·exact absurd rfl hs
end
end Snd
namespace Snd
open PySem PySem.Spec PyProof.Rows L2 Ev
variable {H0 H:Hp}{O0:List Addr}{ρ:Ev.Env}{σ:L2.St}{os:List (List Addr)}{a:Addr}{i:Nat}
section
variable {X:Cx}{p:Pm}{G:Nat->List D->R D}{sub:Nat->Nat->Bool}
theorem Bd.out (b:Bd p H0 O0 ρ σ os H) (m:a∈os.flatten):a∉O0:=λ h=>by have:=b.rel.nd;rw[q0q] at this;exact (QD.mp this).2.2 a m a h rfl
theorem qAw {pins:List (Addr×Obj)}{s:Shared}{kvs:List (Key×V)}(I:Inv X pins σ H s) (e:H a=some (.dK kvs)):∃o,Inv X pins σ (upd H a (.frz o (.dK kvs))) s:=by
 obtain⟨o,ho⟩:=q1j (I.hok a _ e);have nea:∀{b:Addr}{u:HO},H b=some u->(∀k,u ≠ .dK k)->b≠a:=λ {b u} q n z=>by rw[z,e] at q;exact n _ (QJ.inj q).symm
 refine⟨o,I.un (t':=s.toks) (h':=s.heap) ⟨λ b u q _ _ _=>q,λ b u q _ _ _=>⟨u.slots,q⟩,λ b u q n _=>by rw[q05 λ z=>by rw[z,e] at n;cases n];exact n,λ b u q _=>⟨u,q⟩,λ b xs q=>by rw[q05 (nea q λ _ z=>nomatch z)];exact q,λ b u xs q=>by rw[q05 (nea q λ _ z=>nomatch z)];exact q,λ b ps q=>⟨#[],by rw[q05 (nea q λ _ z=>nomatch z),q];simp⟩⟩ λ b u q=>?_⟩;have st:∀{c:Addr}{v:HO},q1P X.prog X.w H s.heap c v->q1P X.prog X.w (upd H a (.frz o (.dK kvs))) s.heap c v:=λ h=>h.stay (λ _ _ _ q=>q) (λ c q=>by rw[q05 (nea q λ _ z=>nomatch z)];exact q) λ c xs q=>by rw[q05 (nea q λ _ z=>nomatch z)];exact q
 by_cases hb:b=a
 ·subst hb;rw[q0M] at q;cases q;exact⟨ho,st (I.hok b _ e)⟩
 ·rw[q05 hb] at q;exact st (I.hok b u q)
theorem qCi {O O':List Addr}{o:HO}(m:a∈O) (h:∀b∈O',b∈O):Ext (fz O H) (fz O' (upd H a o)):=λ c u e=>by
 unfold fz at e |-;split at e
 ·cases e
 ·rename_i n;have ne:c≠a:=λ z=>n (z▸m);rw[if_neg λ z=>n (h c z),q05 ne];exact e
theorem q7m (lt:i<os.length):∀a∈(os.set i []++[O0]).flatten,a∈(os++[O0]).flatten:=λ a ha=>by rw[<-q0X lt] at ha;exact (q0F ha).elim id λ z=>absurd z (by simp)
theorem q6m {H H' Hf Hf':Hp}{x:Option Sl}{c:Addr}{o:HO}(hH:H'=upd H c o) (yf:Ext Hf Hf'):∀{ρ:Ev.Env}{σ:L2.St}{os:List (List Addr)}(i:Nat) {y:Option V}{as:List Addr},q0t p H Hf ρ σ os->σ[i]? = some y->os[i]? = some as->c∈as->os.flatten.Nodup->q2q p H' Hf' x y []->
  q0t p H' Hf' (ρ.set i x) σ (os.set i [])
 |[],_,_,_,_,_,_,_,_,_,_,_=>trivial
 |_::ρ,_,_,0,y,as,h,e1,e2,hc,nd,q=>by obtain⟨y1,σ',as',os',rfl,rfl,h1,h2⟩:=h;simp at e1 e2;subst e1 e2;simp only[Qw] at nd;subst hH;exact⟨_,σ',_,os',rfl,rfl,q,q1F (Ext.refl _) yf (q3O (λ z=>(QD.mp nd).2.2 c hc c z rfl) h2)⟩
 |_::ρ,_,_,i+1,y,as,h,e1,e2,hc,nd,q=>by obtain⟨y1,σ',as',os',rfl,rfl,h1,h2⟩:=h;simp only[Qw] at nd;have m:c∈os'.flatten:=QQ.mpr ⟨as,Qk (by simpa using e2),hc⟩;refine⟨y1,σ',as',os'.set i [],rfl,rfl,?_,q6m hH yf i h2 (by simpa using e1) (by simpa using e2) hc (QD.mp nd).2.1 q⟩;subst hH;exact q5f (Ext.refl _) yf (q4Q (λ z=>(QD.mp nd).2.2 c z c m rfl) h1)
theorem Bd.alone (b:Bd p H0 O0 ρ σ os H) (e2:os[i]? = some [a]):a∉(os.set i []++[O0]).flatten:=by
 have lt:i<os.length:=(Qc.mp e2).1;have mo:a∈os.flatten:=QQ.mpr ⟨[a],Qk e2,by simp⟩;have nd0:os.flatten.Nodup:=by have:=b.rel.nd;rw[q0q] at this;exact (QD.mp this).1
 intro z;rw[q0q] at z;rcases Qq.mp z with z|z
 ·obtain⟨as,h1,h2⟩:=QQ.mp z;obtain⟨j,hj,ej⟩:=QR h1;have hj':j<os.length:=by simpa using hj
  by_cases c:j=i
  ·subst c;rw[List.getElem_set_self] at ej;rw[<-ej] at h2;simp at h2
  ·rw[List.getElem_set_ne (Ne.symm c)] at ej;have k1:os[i]=[a]:=(Qc.mp e2).2;have:∀(l:List (List Addr)) (i j:Nat) (hi:i<l.length) (hj:j<l.length),i≠j->a∈l[i]->a∈l[j]->¬l.flatten.Nodup:=by
    intro l
    induction l with
    |nil=>intro i j hi;simp at hi
    |cons x l ih =>
     intro i j hi hj ne h1 h2 nd;simp only[Qw] at nd;have nd:=QD.mp nd;cases i with
     |zero =>
      cases j with
      |zero=>exact ne rfl
      |succ j=>exact nd.2.2 a h1 a (QQ.mpr ⟨_,QU (by simpa using hj),by simpa using h2⟩) rfl
     |succ i =>
      cases j with
      |zero=>exact nd.2.2 a h2 a (QQ.mpr ⟨_,QU (by simpa using hi),by simpa using h1⟩) rfl
      |succ j=>exact ih i j (by simpa using hi) (by simpa using hj) (by lia) (by simpa using h1) (by simpa using h2) nd.2.1
   exact this os i j lt hj' (Ne.symm c) (by rw[k1];simp) (by rw[ej];exact h2) nd0
 ·exact b.out mo z
theorem Bd.frzD {kvs:List (Key×V)}{ks ds:List D}{o:Obj}(b:Bd p H0 O0 ρ σ os H) (e1:σ[i]? = some (some (.ref a))) (e2:os[i]? = some [a]) (hk:ks=kvs.map (λ q=>keyD q.1)) (hr:RepL p (fz (os++[O0]).flatten H) ds (kvs.map (·.2))) :
  Rep p (fz (os.set i []++[O0]).flatten (upd H a (.frz o (.dK kvs)))) (.dct ks ds) (.ref a)/\Bd p H0 O0 (ρ.set i (some (.val (.dct ks ds)))) σ (os.set i []) (upd H a (.frz o (.dK kvs))):=by
 have lt:i<os.length:=(Qc.mp e2).1;have mo:a∈os.flatten:=QQ.mpr ⟨[a],Qk e2,by simp⟩;have m:a∈(os++[O0]).flatten:=by rw[q0q];exact QM _ mo
 have e3:(os++[O0])[i]? = some [a]:=by rw[Qy lt];exact e2
 have nin:=b.alone e2;have yf:Ext (fz (os++[O0]).flatten H) (fz (os.set i []++[O0]).flatten (upd H a (.frz o (.dK kvs)))):=qCi m (q7m lt);have rep:Rep p (fz (os.set i []++[O0]).flatten (upd H a (.frz o (.dK kvs)))) (.dct ks ds) (.ref a):=⟨a,kvs,o,rfl,q1N q0M nin,hk,hr.mono yf⟩
 refine⟨rep,⟨⟨?_,λ c hc=>?_,?_⟩,by simp[b.len],by simp[b.slen],λ c u e=>?_,λ c hc=>?_⟩⟩
 ·rw[<-q0X lt];exact q0j List.nodup_nil b.rel.nd λ a ha=>absurd ha (by simp)
 ·obtain⟨u,e⟩:=b.rel.there c (q7m lt c hc);have ne:c≠a:=λ z=>nin (z▸hc);exact⟨u,by rw[q05 ne];exact e⟩
 ·have:=q6m (x:=some (.val (.dct ks ds))) (c:=a) (o:= .frz o (.dK kvs)) rfl yf i b.rel.slots e1 e3 (Qu.mpr rfl) b.rel.nd ⟨rfl,.ref a,rfl,rep⟩
  rwa [q0X lt] at this
 ·rw[q05 λ z=>by rw[z,b.new a mo] at e;cases e];exact b.ext c u e
 ·exact (q0F hc).elim (b.new c) λ z=>absurd z (by simp)
theorem q8k {H:Hp}{O O':List Addr}:∀{bs:List Addr}{xss:List (List D)},(∀b∈bs,b∉O')->(∀b∈O',b∈O)->q4J p H (fz O H) bs xss->RepL p (fz O' H) (xss.map .lst) (bs.map V.ref)
 |[],xss,_,_,h=>by cases (show xss=[] from h);rfl
 |b::bs,_,n,hs,h=>by obtain⟨xs,r,rfl,⟨vs,h1,h2⟩,h3⟩:=h;exact⟨.ref b,bs.map V.ref,rfl,⟨b,vs,rfl,SqL.of (q1N h1 (n b (by simp))),h2.mono (q2u hs)⟩,q8k (λ c hc=>n c (Qa _ hc)) hs h3⟩
theorem qF2 {x:Str}{q pos:Pos}(hi:X.N[i]? = some x) (hv:Vis X.env.scope x) (hd:(x==("__debug__":Str))=false) (hcd:(x==("__classdict__":Str))=false):SS X p G sub (.Return (some (.Name x q)) pos) (.retO i):=by
 intro H0 O0 E hp pins s σ H ρ os I B hs hE;have e0:ex G sub (.retO i) ρ=match ρ[i]? with
   |some (some (.own d))=> .ok (ρ.set i none) (.ret d)
   |some (some (.own2 xss))=> .ok (ρ.set i none) (.ret (.lst (xss.map .lst)))
   |_=> .stuck:=rfl
 rw[e0] at hs hE |-;have lt:i < ρ.length:=by rw[<-B.slen,I.len];exact (Qc.mp hi).1
 have wk:Inv X pins (σ.set i none) H s:=I.weak (by simp) λ j v e=>by
  by_cases c:i=j
  ·subst c;rw[Jc (by rw[B.slen];exact lt)] at e;cases e
  ·rw[List.getElem?_set_ne c] at e;exact e
 split at hs
 ·rename_i d hρ;obtain⟨y,as,s1,s2,a,rfl,rfl,s5⟩:=B.at hρ;have mo:a∈os.flatten:=QQ.mpr ⟨[a],Qk s2,by simp⟩;refine wpAny_Return_some (q4L I hi hv s1 hd hcd λ u r=>?_);cases r;cases d<;>first
   |exact s5.elim
   |skip
  ·obtain⟨vs,h1,h2⟩:=s5;exact⟨_,_,_,_,H,rfl,B.setN (y:=none) lt,wk,.ref a,rfl,a,vs,rfl,SqL.of (q1N h1 (B.out mo)),h2.mono qEh⟩
  ·obtain⟨kvs,h1,h2,h3⟩:=s5;obtain⟨o,I2⟩:=qAw wk h1;obtain⟨rep,B2⟩:=B.frzD (o:=o) s1 s2 h2 h3;have B3:=B2.setN (i:=i) (y:=none) (by simpa using lt);rw[List.set_set] at B3;exact⟨_,_,_,_,_,rfl,B3,I2,.ref a,rfl,rep.mono qEh⟩
 ·rename_i xss hρ;obtain⟨y,as,s1,s2,a,bs,rfl,rfl,s5,s6⟩:=B.at hρ;have mo:∀b∈a::bs,b∈os.flatten:=λ b hb=>QQ.mpr ⟨_,Qk s2,hb⟩;refine wpAny_Return_some (q4L I hi hv s1 hd hcd λ u r=>?_);cases r;exact⟨_,_,_,_,H,rfl,B.setN (y:=none) lt,wk,.ref a,rfl,a,bs.map V.ref,rfl,SqL.of (q1N s5 (B.out (mo a (by simp)))),q8k (λ b hb=>B.out (mo b (Qa _ hb))) (λ b hb=>by rw[q0q];exact Qr _ hb) s6⟩
 ·exact absurd rfl hs
end
end Snd
namespace Snd
open PySem PySem.Spec PyProof.Rows L2 Ev
variable {o:PySem.Expr}{l:L}{c:Const}{dc:D}{j:Nat}{q ap cp:Pos}
section
variable {X:Cx}{p:Pm}{G:Nat->List D->R D}{sub:Nat->Nat->Bool}
theorem q55 {h:Heap}{ds:List D}{x:D}(pd:plL ds=true) (px:pl x=true):∀{es:List D}{us:List Value},(∀e∈es,e∈ds)->DvL h es us->us.countP (eqTo h ds x)=(es.filter λ y=>eqb y x).length
 |[],us,_,y=>by cases (show us=[] from y);rfl
 |e::es,us,hs,y=>by obtain⟨u,r,rfl,y1,y2⟩:=y;rw[List.countP_cons,q55 pd px (λ z hz=>hs z (Qa _ hz)) y2,q5d pd px (hs e Qb) y1,Jf];split<;>simp
theorem q8l {h:Heap}{ds:List D}{x:D}(pd:plL ds=true) (px:pl x=true):∀{es:List D}{us:List Value}{n:Nat}{r:D},(∀e∈es,e∈ds)->DvL h es us->idxOf x es n = .ok r->
  ∃(j:Nat) (hj:j<us.length),r = .int ((n+j:Nat):Int)/\eqTo h ds x us[j]=true/\∀m (hm:m<us.length),m<j->eqTo h ds x us[m]=false
 |[],us,n,r,_,y,e=>by cases e
 |d::es,us,n,r,hs,y,e=>by
  obtain⟨u,r',rfl,y1,y2⟩:=y;have eu:=q5d pd px (hs d Qb) y1;unfold idxOf at e;split at e
  ·rename_i c;cases e;exact⟨0,by simp,by simp,by simpa[eu] using c,λ m hm z=>absurd z (Nat.not_lt_zero _)⟩
  ·rename_i c;obtain⟨j,hj,e1,e2,e3⟩:=q8l pd px (λ z hz=>hs z (Qa _ hz)) y2 e;refine⟨j+1,by simpa using hj,by rw[e1];congr 1;lia,by simpa using e2,λ m hm z=>?_⟩;cases m with
   |zero=>simpa[eu] using c
   |succ m=>simpa using e3 m (by simpa using hm) (by lia)
theorem qHh {id:String}{b:Bi}{name:Str}(hK:p.K=X.K) (hcon:q2j c=some dc) (slot:Slot "list" name id) (hty:typeOf (.builtin id)=pure (.type "method_descriptor"))
  (hbase:attributeBase o name X.env (eval o X.env)=eval o X.env) (hline:(ap.endLine==cp.line)=true) (ho:SB X p G sub o l)
  (hl:∀d r,biD sub b [d,dc] = .ok r->∃xs,d = .lst xs)
  (hm:∀(E:Value->Shared->Prop) (pins:List (Addr×Obj)) (s:Shared) (σ:L2.St) (H:Hp) (os:List (List Addr)) (xs:List D) (v w:V) (u u2:Value) (r:D),Inv X pins σ H s->RelV v u->RelV w u2->RepB p H (fz os.flatten H) (.lst xs) v->Rep p (fz os.flatten H) dc w->biD sub b [.lst xs,dc] = .ok r->
   wpAny (model X.prog X.w) X.A (call (.builtin id) [u,u2]) (EP (X.wish E) pins σ (Fin p os.flatten H r)) E s) :
  SE X p G sub (.Call (.Attribute o name ap) [.Constant c j q] [] cp) (.bi b [l,.con dc]):=by
 intro pins s σ H ρ os I R hs;have e0:ev G sub (.bi b [l,.con dc]) ρ=(ev G sub l ρ).bind λ x=>biD sub b [x,dc]:=by rw[q0U,q0E];cases ev G sub l ρ<;>rfl
 rw[e0] at hs |-;refine wpAny_Call_method_late hbase rfl hline rfl (wpAny_mono (ho pins s σ H ρ os I R (q07 hs)) (λ u s1 h=>?_) (λ _ _ z=>z.bind));obtain⟨d,v,H1,e1,I1,r1,x1,q1⟩:=h;rw[e1,q00] at hs |-;rcases q23 sub b [d,dc] with z|⟨r,z⟩
 ·exact absurd z hs
 obtain⟨xs,rfl⟩:=hl d r z;have q1':=q1;obtain⟨a,vs,rfl,s5,s6⟩:=q1';cases r1;obtain⟨h1,h2⟩:=q8C (T := "list") (x:= .ref a) I1 rfl (.inl ⟨rfl,_,hK▸s5⟩);refine⟨"list",id,PySem.F.plainAttrs_list,slot,hty,h1,h2,?_⟩;refine Calls.callWith_builtin rfl (Calls.evalArgs_plain ?_);show wpAny _ _ (spliced ((false,eval (.Constant c j q) X.env)::[])) _ _ s1;refine Calls.spliced_cons (wpAny_mono (q8X (X:=X) (p:=p) (G:=G) (sub:=sub) hcon pins s1 σ H1 ρ os I1 (R.ext x1) (by rw[q06];simp)) (λ u2 s2 ⟨d2,w,H2,e2,I2,r2,x2,q2⟩=>Calls.spliced_nil ?_) (λ e s' ⟨c,z,_⟩=>by rw[q06] at z;cases z));rw[q06] at e2;cases e2;rw[z];exact wpAny_mono (hm (Er X p pins σ H (.ok r)) pins s2 σ H2 os xs (.ref a) w (.ref a) u2 r I2 rfl r2 (q1.mono x2 (q1E x2)) q2 z) (λ w' s3 h3=>q6V (x1.trans x2) rfl h3) λ _ _ z=>z
theorem qCj (hK:p.K=X.K) (hu:X.A.units+64<cLine) (hcon:q2j c=some dc) (hbase:attributeBase o "count" X.env (eval o X.env)=eval o X.env) (hline:(ap.endLine==cp.line)=true) (ho:SB X p G sub o l) :
  SE X p G sub (.Call (.Attribute o "count" ap) [.Constant c j q] [] cp) (.bi .count [l,.con dc]):=by
 refine qHh hK hcon PySem.F.slot_list_count PySem.F.type_list_count hbase hline ho (λ d r h=>?_) λ E pins s σ H os xs v w u u2 r I rv rw' q1 q2 h=>?_
 ·cases d<;>first
   |(cases h;done)
   |exact⟨_,rfl⟩
 ·have h:(if pl dc&&plL xs then Ev.R.ok (D.int ((xs.filter λ y=>eqb y dc).length)) else .stuck) = .ok r:=h;split at h
  ·rename_i c;simp only[Qg] at c;cases h;have z1:=q2r hK I q0V q1 rv;have z2:=(q2O hK I).1 dc w u2 (q2.mono q0V) rw';obtain⟨a,us,rfl,⟨⟨cl,dd,da,sl⟩,e1,e2,n,e3⟩,y⟩:=z1;simp only at e2 e3;subst e2 e3;have hu':X.A.in1.units+8<cLine:=(by rw[Around.in1_units];lia);refine call_meets PySem.F.slot_list_count ⟨_,e1,rfl⟩ PySem.F.entry_list_count (PySem.F.args_list_count_2 _ _) (SeqAt.list_countAt a us.toArray n dd sl u2 (eqTo s.heap xs dc)) ⟨e1,q1Z c.2 c.1 y z2 hu',?_⟩;refine⟨.int _,H,(I.wish E).tok _,⟨_,rfl⟩,?_⟩;rw[show us.toArray.toList=us from rfl,q55 c.2 c.1 (λ _ h=>h) y];exact q0C rfl
  ·cases h
theorem qAx {r:D}{xs:List D}{v w:V}{u u2:Value}{pins:List (Addr×Obj)}{s:Shared}{σ:L2.St}{H:Hp}{os:List (List Addr)}(hK:p.K=X.K) (hu:X.A.units+64<cLine) (E:Value->Shared->Prop) (I:Inv X pins σ H s) (q1:RepB p H (fz os.flatten H) (.lst xs) v) (q2:Rep p (fz os.flatten H) dc w) (rw':RelV w u2) (h:biD sub .index [.lst xs,dc] = .ok r) (rv:RelV v u:=by first|assumption|rfl) :
  wpAny (model X.prog X.w) X.A (call (.builtin "list.index") [u,u2]) (EP (X.wish E) pins σ (Fin p os.flatten H r)) E s:=by
 have h:(if pl dc&&plL xs then idxOf dc xs 0 else .stuck) = .ok r:=h;split at h
 ·rename_i c;simp only[Qg] at c;have z1:=q2r hK I q0V q1 rv;have z2:=(q2O hK I).1 dc w u2 (q2.mono q0V) rw';have zl:xs.length<=sizeLine:=by obtain⟨a,vs,rfl,s5,s6⟩:=q1;cases rv;obtain⟨its,r1,_,hz⟩:=I.list (hK▸s5);have:=s6.length;have:=r1.length;lia
  obtain⟨a,us,rfl,⟨⟨cl,dd,da,sl⟩,e1,e2,n,e3⟩,y⟩:=z1;simp only at e2 e3;subst e2 e3;have hu':X.A.in1.units+8<cLine:=by rw[Around.in1_units];lia
  obtain⟨k,hk,er,hit,hno⟩:=q8l c.2 c.1 (λ _ h=>h) y h;subst er;have hl:xs.length=us.length:=y.length;have hsz:sizeLine=2^24:=sizeLine_eq;refine call_meets PySem.F.slot_list_index ⟨_,e1,rfl⟩ PySem.F.entry_list_index (PySem.F.args_list_index_2 _ _) (SeqAt.list_indexAt a us.toArray n dd sl u2 (eqTo s.heap xs dc) k (by simpa using hk) (by lia) (by simpa using hit) (λ m hm z=>by simpa using hno m (by simpa using hm) z)) ⟨e1,q1Z c.2 c.1 y z2 hu',?_⟩;refine⟨.int _,H,(I.wish E).tok _,⟨_,rfl⟩,?_⟩;rw[Nat.zero_add];exact q0C rfl
 ·cases h
theorem qCk (hK:p.K=X.K) (hu:X.A.units+64<cLine) (hcon:q2j c=some dc) (hbase:attributeBase o "index" X.env (eval o X.env)=eval o X.env) (hline:(ap.endLine==cp.line)=true) (ho:SB X p G sub o l) :
  SE X p G sub (.Call (.Attribute o "index" ap) [.Constant c j q] [] cp) (.bi .index [l,.con dc]):=by
 refine qHh hK hcon PySem.F.slot_list_index PySem.F.type_list_index hbase hline ho (λ d r h=>?_) λ E pins s σ H os xs v w u u2 r I rv rw' q1 q2 h=>qAx hK hu E I q1 q2 rw' h rv;cases d<;>first
  |(cases h;done)
  |exact⟨_,rfl⟩
end
end Snd
namespace Snd
open PySem PySem.Spec PyProof.Rows L2 Ev
open Builtin Builtin.Str
theorem qHi (n d:Nat) (hd:d<=n) (o:Option Int) (h:∀v,o=some v->v<0->(v+n).toNat<=n):bnd n d o<=n:=by
 unfold bnd;split
 ·exact hd
 ·rename_i v;split
  ·exact h v rfl (by assumption)
  ·exact Nat.min_le_right _ _
theorem qCl (n d:Nat) (hd:d<=n) (o:Option Int):bnd n d o<=n:=qHi n d hd o λ v _ hv=>by lia
theorem qF3 (o:Option Int) (n:Nat):(match o with|none=>(0:Int)|some i=>Max.max (0:Int) (Min.min (if i<0 then i+(n:Int) else i) (n:Int)))=((bnd n 0 o:Nat):Int):=by
 unfold bnd;split
 ·rfl
 ·split<;>lia
theorem qF4 (o:Option Int) (n:Nat):(match o with|none=>(n:Int)|some i=>Max.max (0:Int) (Min.min (if i<0 then i+(n:Int) else i) (n:Int)))=((bnd n n o:Nat):Int):=by
 unfold bnd;split
 ·rfl
 ·split<;>lia
theorem sidx (lo hi:Option Int) (n:Nat):strSliceIndices lo hi 1 n=strSliceIndices (some ((bnd n 0 lo:Nat):Int)) (some ((bnd n n hi:Nat):Int)) 1 n:=by
 have h1:=qCl n 0 (QK _) lo;have h2:=qCl n n (Qf _) hi;have e1:Max.max (0:Int) (Min.min ((bnd n 0 lo:Nat):Int) (n:Int))=(bnd n 0 lo:Nat):=by lia
 have e2:Max.max (0:Int) (Min.min ((bnd n n hi:Nat):Int) (n:Int))=(bnd n n hi:Nat):=by lia
 have c1:=qF3 lo n;have c2:=qF4 hi n;have n1:¬(((bnd n 0 lo:Nat):Int)<0):=by lia
 have n2:¬(((bnd n n hi:Nat):Int)<0):=by lia
 simp only[strSliceIndices,show ((1:Int) > 0)=True from by simp,if_true,n1,n2,if_false,e1,e2];congr 1
theorem qCm (x:Str) (lo hi:Option Int):PySem.StrLaws.sliceText x lo hi=mkS (cutL x.cps.toList lo hi):=by
 have hl:x.cps.toList.length=x.length:=Array.length_toList;have h1:=qCl x.length 0 (QK _) lo;have h2:=qCl x.length x.length (Qf _) hi;unfold cutL;rw[hl]
 by_cases h:bnd x.length 0 lo<=bnd x.length x.length hi
 ·rw[show PySem.StrLaws.sliceText x lo hi=PySem.StrLaws.sliceText x (some ((bnd x.length 0 lo:Nat):Int)) (some ((bnd x.length x.length hi:Nat):Int)) by unfold PySem.StrLaws.sliceText;rw[sidx lo hi]];rw[PySem.StrLaws.sliceText_nat x h h2];rfl
 ·have e:bnd x.length x.length hi-bnd x.length 0 lo=0:=by lia
  rw[e,List.take_zero];have e3:strSliceIndices lo hi 1 x.length=[]:=by rw[sidx];have e1:Max.max (0:Int) (Min.min ((bnd x.length 0 lo:Nat):Int) (x.length:Int))=(bnd x.length 0 lo:Nat):=(by lia);have e2:Max.max (0:Int) (Min.min ((bnd x.length x.length hi:Nat):Int) (x.length:Int))=(bnd x.length x.length hi:Nat):=(by lia);have n1:¬(((bnd x.length 0 lo:Nat):Int)<0):=(by lia);have n2:¬(((bnd x.length x.length hi:Nat):Int)<0):=(by lia);have n3:¬(((bnd x.length 0 lo:Nat):Int)<(bnd x.length x.length hi:Nat)):=(by lia);simp[strSliceIndices,sliceRange,n1,n2,e1,e2,n3]
  unfold PySem.StrLaws.sliceText;rw[e3];split
  ·rename_i z;have z:(0==x.length)=true:=(by simpa using z);have z:x.cps.toList.length=0:=(by rw[hl];exact (by simpa using z:0=x.length).symm);exact q3h (Q1.mp z)
  ·rfl
theorem q4R (x:Str) (lo hi:Option Int):(mkS (cutL x.cps.toList lo hi)).length<=x.length:=by show (cutL x.cps.toList lo hi).toArray.size<=_;rw[Ql];unfold cutL;rw[Je,QZ,Array.length_toList];exact Qt (Nat.min_le_right _ _) (Nat.sub_le _ _)
theorem str_slice {prog:Program}{w:World}{A:Around}{E:Value->Shared->Prop}{s:Shared}{x:Str}{t:Tok}{sl:Addr}{vl vu:Value}{lo hi:Option Int}{Q:Value->Shared->Prop}(hs:s.heap.IsSliceOf sl vl vu .none) (pl:IsPart vl lo) (pu:IsPart vu hi) (hz:x.length<=big)
  (h:∀t' k,Q (.str (mkS (cutL x.cps.toList lo hi)) t') {s with toks:=k}):wpAny (model prog w) A (getItem (.str x t) (.ref sl)) Q E s:=by
 have key:∀l u:Option (Int×Tok),vl=partValue l->vu=partValue u->lo=l.map (·.1)->hi=u.map (·.1)->wpAny (model prog w) A (getItem (.str x t) (.ref sl)) Q E s:=λ l u e1 e2 e3 e4=>by
  refine wpAny_getItem_str_slice (l:=l) (u:=u) (st:=none) (by obtain⟨o,h1,h2,h3⟩:=hs;exact⟨o,h1,h2,by rw[h3,e1,e2];rfl⟩) rfl (post_val_or_str ?_);have e5:(if ((Option.map (·.1) (none:Option (Int×Tok))).getD 1==1&&(slicePicked x l u none).length==x.length)=true then x else ⟨((slicePicked x l u none).filterMap (x.cps[·]?)).toArray⟩:Str)=mkS (cutL x.cps.toList lo hi):=by rw[<-qCm,e3,e4];rfl
  rw[e5];refine⟨?_,λ t' k=>h t' k⟩;exact Qt (q4R x lo hi) (Qt hz q0W)
 cases pl with
 |none=>cases pu with
  |none=>exact key none none rfl rfl rfl rfl
  |int j tj=>exact key none (some (j,tj)) rfl rfl rfl rfl
 |int i ti=>cases pu with
  |none=>exact key (some (i,ti)) none rfl rfl rfl rfl
  |int j tj=>exact key (some (i,ti)) (some (j,tj)) rfl rfl rfl rfl
end Snd
namespace Snd
open PySem PySem.Spec PyProof.Rows L2 Ev HT
variable {a:PySem.Expr}{la:L}{p2 pos:Pos}
section
variable {prog:Program}{w:World}{A:Around}{E:Value->Shared->Prop}{s:Shared}
theorem q7n {t sl:Addr}{items:Array Value}{vl vu:Value}{lo hi:Option Int}{Q:Value->Shared->Prop}(ht:IsTup s.heap t items) (hs:s.heap.IsSliceOf sl vl vu .none) (pl:IsPart vl lo) (pu:IsPart vu hi)
  (hw:sIx items.size 0 lo=0/\sIx items.size items.size hi=items.size) (h:Q (.ref t) s):wpAny (model prog w) A (getItem (.ref t) (.ref sl)) Q E s:=by
 obtain⟨os,hos,hcs,hds⟩:=hs;have hTs:s.TypeIs (.ref sl) "slice":=⟨os,hos,hcs⟩
 unfold getItem
 try with_reducible refine wpAny_holding ?_
 first|refine wpAny_bind (wpAny_pure ?_)|skip
 refine wpAny_bind (wpAny_sequenceKey ht.typeIs (by decide) ?_);refine wpAny_bind (wpAny_callSpecial?_slot (name:=Str.ofString "__getitem__") ht.typeIs PyProof.Rows.slot_tuple_getitem (wpAny_call_entry PyProof.Rows.slot_tuple_getitem ht.typeIs entry_tuple_getitem ?_ (args_tuple_getitem _ _)));show wpAny _ _ (Builtin.Tuple.tupleItemsOf (.ref t) >>= _) _ _ s;refine wpAny_bind (tupleItemsOf_ ht (wpAny_bind (wpAny_typeOf hTs ?_)));rw[if_pos (by decide)];refine wpAny_bind (q1s ⟨os,hos,hcs,hds⟩ pl pu ?_);have hyes:(((sIx items.size 0 lo:Nat):Int)==0&&(1:Int)==1&&(sIx items.size items.size hi-sIx items.size 0 lo)==items.size)=true:=by rw[hw.1,hw.2];simp
 show wpAny _ _ (if (((sIx items.size 0 lo:Nat):Int)==0&&(1:Int)==1&&(sIx items.size items.size hi-sIx items.size 0 lo)==items.size)=true then _ else _) _ _ s;rw[if_pos hyes];unfold Builtin.Tuple.tupleIsExact;refine wpAny_bind (wpAny_bind (wpAny_typeOf ht.typeIs (wpAny_pure ?_)));rw[if_pos (by decide)];exact wpAny_bind (wpAny_rule (wpAny_pure ⟨_,rfl,wpAny_pure h⟩))
end
theorem qAy {α β:Type}{g:α->Option β}{h:α->β}:∀{l:List α},(∀k∈l,g k=some (h k))->l.filterMap g=l.map h
 |[],_=>rfl
 |a::l,q=>by rw[QI,q a (by simp),Qz,qAy λ k hk=>q k (Qa _ hk)]
theorem qCn (its:List Value):slicePick its.toArray none none (some (-1))=its.reverse.toArray:=by
 unfold slicePick;have hb:sliceBounds none none (some (-1)) its.toArray.size=((its.length:Int)-1,-1,-1):=by simp[sliceBounds]
 rw[hb];dsimp only;unfold sliceRange;have hc:(if (-1:Int) > 0 then (if ((its.length:Int)-1) < -1 then ((-1:Int)-((its.length:Int)-1) + -1-1) / -1 else 0) else (if ((its.length:Int)-1) > -1 then (((its.length:Int)-1) - -1 - -1-1) / (-(-1)) else 0)).toNat=its.length:=by
  rw[if_neg (by decide)];split
  ·simp
  ·omega
 simp only[hc];congr 1;rw[List.filterMap_map];rw[qAy (h:=λ k=>its.getD (its.length-1-k) default)]
 ·apply List.ext_getElem
  ·simp
  ·intro n h1 h2;have hn:n<its.length:=(by simpa using h1);simp[List.getD_eq_getElem?_getD,List.getElem_reverse];rw[Qi (by omega)];simp
 ·intro k hk;have hk:=QA.mp hk;have e:((its.length:Int)-1 + -1*(k:Int)).toNat=its.length-1-k:=by omega
  show its.toArray[((its.length:Int)-1 + -1*(k:Int)).toNat]? = _;rw[e,List.getElem?_toArray,List.getD_eq_getElem?_getD,Qi (by omega)];simp
theorem q56 {α:Type}[Inhabited α]:∀(l:List α),(Qp ((l.length+2) / 3)).map (λ k=>l.getD (3*k) default)=q2S l
 |[]=>by simp[q2S]
 |[a]=>by simp[q2S,List.range_succ]
 |[a,b]=>by simp[q2S,List.range_succ]
 |a::b::c::l=>by
  have e:((a::b::c::l).length+2) / 3=(l.length+2) / 3+1:=by simp only[Qd];omega
  rw[e,List.range_succ_eq_map,Qz,Q2];show _=a::q2S l;rw[<-q56 l];congr 1
theorem q9c (its:List Value):slicePick its.toArray none none (some 3)=(q2S its).toArray:=by
 unfold slicePick;have hb:sliceBounds none none (some 3) its.toArray.size=(0,(its.length:Int),3):=by simp[sliceBounds]
 rw[hb];dsimp only;unfold sliceRange;have hc:(if (3:Int) > 0 then (if (0:Int)<(its.length:Int) then ((its.length:Int)-0+3-1) / 3 else 0) else (if (0:Int) > (its.length:Int) then (0-(its.length:Int)-3-1) / (-3) else 0)).toNat=(its.length+2) / 3:=by rw[if_pos (by decide)];split<;>omega
 simp only[hc];congr 1;rw[List.filterMap_map,<-q56 its];refine qAy λ k hk=>?_;have hk:=QA.mp hk;have e:((0:Int)+3*(k:Int)).toNat=3*k:=by omega
 show its.toArray[((0:Int)+3*(k:Int)).toNat]? = _;rw[e,List.getElem?_toArray,List.getD_eq_getElem?_getD,Qi (by omega)];simp
theorem q6n {α:Type}:∀l:List α,(q2S l).length<=l.length
 |[]=>Qf _
 |[a]=>Qf _
 |[a,b]=>by show 1<=2;decide
 |a::b::c::l=>by show (q2S l).length+1<=l.length+3;have:=q6n l;omega
theorem q57:∀{vs:List V}{us:List Value},Vals vs us->Vals (q2S vs) (q2S us)
 |[],_,h=>by cases h;exact .nil
 |[_],_,h=>by cases h with|cons h r=>cases r;exact .cons h .nil
 |[_,_],_,h=>by cases h with|cons h r=>cases r with|cons _ r=>cases r;exact .cons h .nil
 |_::_::_::_,_,h=>by cases h with|cons h r=>cases r with|cons _ r=>cases r with|cons _ r=>exact .cons h (q57 r)
theorem q6o {p:Pm}{H:Hp}:∀{ds:List D}{vs:List V},RepL p H ds vs->RepL p H (q2S ds) (q2S vs)
 |[],vs,h=>by cases (show vs=[] from h);rfl
 |[a],vs,h=>by obtain⟨v,r,rfl,h1,h2⟩:=h;cases (show r=[] from h2);exact⟨v,[],rfl,h1,rfl⟩
 |[a,b],vs,h=>by obtain⟨v,r,rfl,h1,v2,r2,rfl,h3,h4⟩:=h;cases (show r2=[] from h4);exact⟨v,[],rfl,h1,rfl⟩
 |a::b::c::l,vs,h=>by obtain⟨v,r,rfl,h1,v2,r2,rfl,h3,v3,r3,rfl,h5,h6⟩:=h;exact⟨v,_,rfl,h1,q6o h6⟩
theorem qCo {vs:List V}{us:List Value}(h:Vals vs us):Vals vs.reverse us.reverse:=by
 induction h with
 |nil=>exact .nil
 |cons h t ih=>rw[List.reverse_cons,List.reverse_cons];exact ih.append (.cons h .nil)
section
variable {X:Cx}{p:Pm}{G:Nat->List D->R D}{sub:Nat->Nat->Bool}
def SO (X:Cx) (p:Pm) (G:Nat->List D->R D) (sub:Nat->Nat->Bool) (e:Option PySem.Expr) (l:List L):Prop:=(e=none/\l=[])\/∃e' l',e=some e'/\l=[l']/\SE X p G sub e' l'
theorem qAz {e:Option PySem.Expr}{l:List L}(h:SO X p G sub e l) {pins:List (Addr×Obj)}{s:Shared}{σ:L2.St}{H:Hp}{ρ:Ev.Env}{os:List (List Addr)}(I:Inv X pins σ H s) (R:Rel p ρ σ os H) (hs:evs G sub l ρ ≠ .stuck) :
  wpAny (model X.prog X.w) X.A (evalPart e X.env) (λ u s'=>∃ds H',evs G sub l ρ = .ok ds/\Inv X pins σ H' s'/\Ext H H'/\∀o,optI ds = .ok o->IsPart u o) (Er X p pins σ H (evs G sub l ρ)) s:=by
 rcases h with ⟨rfl,rfl⟩|⟨e',l',rfl,rfl,h⟩
 ·rw[evalPart_none];exact wpAny_pure ⟨[],H,rfl,I,Ext.refl _,λ o e=>by cases e;exact .none⟩
 ·rw[evalPart_some];have e0:evs G sub [l'] ρ=(ev G sub l' ρ).bind λ x=> .ok [x]:=by rw[q0E];cases ev G sub l' ρ<;>rfl
  rw[e0] at hs |-;refine wpAny_mono (h pins s σ H ρ os I R (q07 hs)) (λ u s1 ⟨d,v,H1,e1,I1,r1,x1,q1⟩=>?_) (λ _ _ z=>z.bind);refine⟨[d],H1,by rw[e1];rfl,I1,x1,λ o e=>?_⟩;cases d<;>first
   |(cases e;done)
   |skip
  rename_i i0;obtain rfl:some i0=o:=by have e:Ev.R.ok (some i0) = .ok o:=e;cases e;rfl
  cases (show v=_ from q1);obtain⟨t,rfl⟩:=r1;exact .int _ t
theorem q8m {Hf:Hp}{ds:List D}{vs:List V}(h:RepL p Hf ds vs) (lo hi:Option Int):RepL p Hf (cutL ds lo hi) (cutV vs lo hi):=by have e:=h.length;unfold cutL cutV;rw[e];exact (h.drop _).take _
theorem qB0 {α:Type}(xs:List α) (lo hi:Option Int) (h:HT.sIx xs.length 0 lo=0/\HT.sIx xs.length xs.length hi=xs.length):cutL xs lo hi=xs:=by unfold cutL;have h1:bnd xs.length 0 lo=0:=h.1;have h2:bnd xs.length xs.length hi=xs.length:=h.2;rw[h1,h2];simp
theorem qCp {lo hi:Option PySem.Expr}{llo lhi:List L}(hK:p.K=X.K) (ha:SB X p G sub a la) (hlo:SO X p G sub lo llo) (hhi:SO X p G sub hi lhi):SE X p G sub (.Subscript a (.Slice lo hi none p2) pos) (.sl 0 la llo lhi):=by
 intro pins s σ H ρ os I R hs;rw[q4o] at hs |-;refine Subscript_ (wpAny_mono (ha pins s σ H ρ os I R (q07 hs)) (λ v s1 ⟨d,x,H1,e1,I1,r1,x1,q1⟩=>?_) (λ _ _ z=>z.bind));rw[e1,q00] at hs |-;have R1:=R.ext x1;refine wpAny_Slice (wpAny_mono (qAz hlo I1 R1 (q07 hs)) (λ vl s2 ⟨l1,H2,e2,I2,x2,p2'⟩=>?_) (λ _ _ z=>(z.ext x1).bind));rw[e2,q00] at hs |-;have R2:=R1.ext x2;refine wpAny_mono (qAz hhi I2 R2 (q07 hs)) (λ vu s3 ⟨l2,H3,e3,I3,x3,p3⟩=>?_) (λ _ _ z=>(z.ext (x1.trans x2)).bind);rw[e3,q00] at hs |-;rw[evalPart_none];refine wpAny_pure ?_;have opt:∀l:List D,optI l = .stuck\/∃o,optI l = .ok o:=λ l=>by unfold optI;split<;>first|exact .inr ⟨_,rfl⟩|exact .inl rfl
 rcases opt l1 with z|⟨o1,z1⟩
 ·rw[z] at hs;exact absurd rfl hs
 rcases opt l2 with z|⟨o2,z2⟩
 ·rw[z1,q00,z] at hs;exact absurd rfl hs
 rw[z1,q00,z2,q00] at hs |-;have I4:Inv X pins σ H3 {s3 with heap:=s3.heap.push {cls:= .type "slice",data:= .fields #[vl,vu,.none]}}:=I3.kept (t':=s3.toks) λ b ob q=>Heap.get?_push_of_some _ q;have x13:=(x1.trans x2).trans x3;have q3:=q1.mono (x2.trans x3) (q1E (x2.trans x3));have t3:=(R2.ext x3).th;show wpAny (model X.prog X.w) X.A (subscriptTail a (.Slice lo hi none p2) v (.ref s3.heap.objs.size)) _ _ {s3 with heap:=s3.heap.push {cls:= .type "slice",data:= .fields #[vl,vu,.none]}};have fin:∀(E:Value->Shared->Prop) (rr:Ev.R D) (r:D),rr = .ok r->∀u s',EP (X.wish E) pins σ (Fin p os.flatten H3 r) u s'->Gd X p pins σ os H rr u s':=λ E rr r e u s' h=>q6V x13 e h;cases d<;>first
  |exact absurd rfl hs
  |skip
 ·rename_i xs;have hs:(if 0=0/\xs.length<=big then Ev.R.ok (D.str (mkS (cutL xs.cps.toList o1 o2))) else .stuck) ≠ .stuck:=hs;obtain⟨rfl,zz⟩:=(show x=_/\_ from q3)
  have e5:slD 0 o1 o2 (.str xs) = .ok (.str (mkS (cutL xs.cps.toList o1 o2))):=by show (if 0=0/\xs.length<=big then _ else _)=_;rw[if_pos ⟨rfl,zz⟩]
  rw[e5];obtain⟨tk,rfl⟩:=r1;refine tail_any (ops:=[.ref s3.heap.objs.size,.str xs tk]) (typeIs_str _ xs tk) slot_str_getitem.lookup (str_slice (Heap.IsSliceOf.new ..) (p2' o1 z1) (p3 o2 z2) zz λ t' k=>?_) (by with_unfolding_all rfl);exact⟨_,.str _,H3,rfl,I4.tok _,⟨_,rfl⟩,x13,rfl,Qt (q4R xs o1 o2) zz⟩
 ·rename_i xs;have e5:slD 0 o1 o2 (.tup xs) = .ok (.tup (cutL xs o1 o2)):=rfl;rw[e5];obtain⟨t,vs,rfl,s5,z5,s6⟩:=q3;cases r1;have s5':SqT X.K H3 t vs:=hK▸q0V.sqT s5;have hl:=s6.length
  by_cases hw:HT.sIx vs.length 0 o1=0/\HT.sIx vs.length vs.length o2=vs.length
  ·obtain⟨its,rv,ht,hz⟩:=I4.tuple s5';have hlen:its.toArray.size=vs.length:=(by rw[Ql];exact rv.length.symm);refine tail_any (ops:=[.ref s3.heap.objs.size,.ref t]) ht.typeIs PyProof.Rows.slot_tuple_getitem.lookup (q7n ht (Heap.IsSliceOf.new ..) (p2' o1 z1) (p3 o2 z2) (by rw[hlen];exact hw) ?_) (by with_unfolding_all rfl);rw[qB0 xs o1 o2 (by rw[hl];exact hw)];exact⟨_,.ref t,H3,rfl,I4,rfl,x13,t,vs,rfl,s5,z5,s6⟩
  ·obtain⟨T,id',hT,ht,hg⟩:=qGX (X:=X.wish (Er X p pins σ H (Ev.R.ok (D.tup (cutL xs o1 o2))))) pins _ σ H3 (.ref t) _ vl vu o1 o2 s3.heap.objs.size (Fin p os.flatten H3 (.tup (cutL xs o1 o2))) (I4.wish _) rfl (Heap.IsSliceOf.new ..) (p2' o1 z1) (p3 o2 z2)
    ⟨t,vs,rfl,s5',hw,λ q n=>q7d t3 (q8m s6 o1 o2) (Qt (q2Q vs o1 o2) z5) n⟩
   exact tail_any (ops:=[.ref s3.heap.objs.size,.ref t]) ht hT (wpAny_mono hg (λ u s' h=>fin _ _ _ rfl u s' h) λ _ _ z=>z) (by with_unfolding_all rfl)
 ·rename_i xs;have e5:slD 0 o1 o2 (.lst xs) = .ok (.lst (cutL xs o1 o2)):=rfl;rw[e5];obtain⟨t,vs,rfl,s5,s6⟩:=q3;cases r1;obtain⟨T,id',hT,ht,hg⟩:=qEH (X:=X.wish (Er X p pins σ H (Ev.R.ok (D.lst (cutL xs o1 o2))))) pins _ σ H3 (.ref t) _ vl vu o1 o2 s3.heap.objs.size (Fin p os.flatten H3 (.lst (cutL xs o1 o2))) (I4.wish _) rfl (Heap.IsSliceOf.new ..) (p2' o1 z1) (p3 o2 z2)
   ⟨t,vs,rfl,hK▸s5,λ q n=>q4K t3 (q8m s6 o1 o2) n⟩
  exact tail_any (ops:=[.ref s3.heap.objs.size,.ref t]) ht hT (wpAny_mono hg (λ u s' h=>fin _ _ _ rfl u s' h) λ _ _ z=>z) (by with_unfolding_all rfl)
theorem qB1 {se:PySem.Expr}{k:Nat}{st:Int}{f:{α:Type}->List α->List α} (hK:p.K=X.K) (ha:SB X p G sub a la) (h0:st≠0)
  (hse:∀(E:Value->Shared->Prop) (Q:Value->Shared->Prop) (pins:List (Addr×Obj)) (s:Shared) (σ:L2.St) (H:Hp),Inv X pins σ H s->(∀t s',Inv X pins σ H s'->Q (.int st t) s')->wpAny (model X.prog X.w) X.A (eval se X.env) Q E s)
  (hk:∀d r,slD k none none d = .ok r->∃xs,d = .lst xs/\r = .lst (f xs)) (hsl:∀d,slD k none none d = .stuck\/∃r,slD k none none d = .ok r) (hp:∀its:List Value,slicePick its.toArray none none (some st)=(f its).toArray) (hv:∀{vs:List V}{us:List Value},Vals vs us->Vals (f vs) (f us)) (hr:∀{H:Hp}{ds:List D}{vs:List V},RepL p H ds vs->RepL p H (f ds) (f vs))
  (hf:∀{vs:List V},(f vs).length<=vs.length):SE X p G sub (.Subscript a (.Slice none none (some se) p2) pos) (.sl k la [] []):=by
 intro pins s σ H ρ os I R hs;rw[q4o] at hs |-;refine Subscript_ (wpAny_mono (ha pins s σ H ρ os I R (q07 hs)) (λ v s1 ⟨d,x,H1,e1,I1,r1,x1,q1⟩=>?_) (λ _ _ z=>z.bind));rw[e1,q00] at hs |-;have hs:slD k none none d ≠ .stuck:=hs;refine wpAny_Slice ?_;rw[evalPart_none];refine wpAny_pure (wpAny_pure ?_);rw[evalPart_some];refine hse _ _ pins s1 σ H1 I1 λ t s3 I3=>?_;rcases hsl d with z|⟨r,z⟩
 ·exact absurd z hs
 obtain⟨xs,rfl,rfl⟩:=hk d r z;have e5:((evs G sub [] ρ).bind λ l=>(evs G sub [] ρ).bind λ h=>(optI l).bind λ l=>(optI h).bind λ h=>slD k l h (.lst xs)) = .ok (.lst (f xs)):=z;rw[e5];obtain⟨tt,vs,rfl,s5,s6⟩:=q1;cases r1;have I4:Inv X pins σ H1 {s3 with heap:=s3.heap.push {cls:= .type "slice",data:= .fields #[.none,.none,.int st t]}}:=I3.kept (t':=s3.toks) λ b ob q=>Heap.get?_push_of_some _ q;show wpAny (model X.prog X.w) X.A (subscriptTail a (.Slice none none (some se) p2) (.ref tt) (.ref s3.heap.objs.size)) _ _ {s3 with heap:=s3.heap.push {cls:= .type "slice",data:= .fields #[.none,.none,.int st t]}};obtain⟨its,rv,ht,hz⟩:=I4.list (hK▸s5);have hlen:=rv.length;refine tail_any (ops:=[.ref tt,.ref s3.heap.objs.size]) ht.isList.typeIs slot_list_getitem.lookup ?_ (by with_unfolding_all rfl);refine wpAny_getItem_list_slice ht.isList (Heap.IsSliceOf.new ..) .none .none (.int st t) (λ q=>h0 (QJ.inj q)) ?_ (by rw[Ql];omega);rw[hp];have I5:=I4.lnew (t':=s3.toks) (hv rv) (Qt hf hz);have hn:H1 (s3.heap.push {cls:= .type "slice",data:= .fields #[.none,.none,.int st t]}).objs.size=none:=I4.hok.fresh (Qf _);obtain⟨g1,g2⟩:=q4K (p:=p) (R.ext x1).th (hr s6) hn;exact⟨_,.ref _,_,rfl,I5,rfl,x1.trans g1,g2⟩
theorem qHj {j:Nat}{q1 q2:Pos}(hK:p.K=X.K) (ha:SB X p G sub a la):SE X p G sub (.Subscript a (.Slice none none (some (.UnaryOp .USub (.Constant (.int 1) j q1) q2)) p2) pos) (.sl 1 la [] []):=by
 refine qB1 (st:=-1) (f:=λ l=>l.reverse) hK ha (by decide) (λ E Q pins s σ H I h=>?_) (λ d r h=>?_) (λ d=>?_) qCn qCo RepL.reverse (by simp)
 ·exact UnaryOp_ (wpAny_Constant_int (neg_int (h _ _ ((I.tok _).tok _))))
 ·cases d<;>first
   |(exfalso;simpa[slD] using h)
   |(cases h;exact⟨_,rfl,rfl⟩)
 ·cases d<;>first
   |exact .inl rfl
   |exact .inr ⟨_,rfl⟩
theorem qCq {j:Nat}{q1:Pos}(hK:p.K=X.K) (ha:SB X p G sub a la):SE X p G sub (.Subscript a (.Slice none none (some (.Constant (.int 3) j q1)) p2) pos) (.sl 3 la [] []):=by
 refine qB1 (st:=3) (f:=λ l=>q2S l) hK ha (by decide) (λ E Q pins s σ H I h=>?_) (λ d r h=>?_) (λ d=>?_) q9c q57 q6o (λ {vs}=>q6n vs)
 ·exact wpAny_Constant_int (h _ _ (I.tok _))
 ·cases d<;>first
   |(exfalso;simpa[slD] using h)
   |(cases h;exact⟨_,rfl,rfl⟩)
 ·cases d<;>first
   |exact .inl rfl
   |exact .inr ⟨_,rfl⟩
end
end Snd
namespace Snd
open PySem PySem.Spec PyProof.Rows L2 Ev
open Builtin Builtin.Str PySem.StrLaws
noncomputable def posC (c:Nat):List Nat->Nat->List Nat
 |[],_=>[]
 |x::l,a=>if x=c then a::posC c l (a+1) else posC c l (a+1)
theorem mod_mod {α:Type}(f g:α->α):∀l:List α,(l.modifyHead f).modifyHead g=l.modifyHead λ x=>g (f x)
 |[]=>rfl
 |_::_=>rfl
theorem qDu {α:Type}:∀l:List α,l.modifyHead (λ x=>x)=l
 |[]=>rfl
 |_::_=>rfl
theorem q2Z (x:Str) (c:Nat):∀(r pre mid:List Nat),x.cps.toList=pre++mid++r->partsFrom x 1 pre.length (posC c r (pre.length+mid.length))=((q03 c r).modifyHead (mid++·)).map mkS
 |[],pre,mid,h=>by
  have hl:x.length=(pre++mid).length:=by rw[<-QB (pre++mid),<-h];exact Array.length_toList.symm
  show [strSub x pre.length x.length]=[mkS (mid++[])]
  congr 1;refine q3h ?_;rw[strSub_toList,h,hl,QB,List.drop_left,QB,Qj,Ja,List.take_length]
 |y::r,pre,mid,h=>by
  unfold posC q03
  by_cases e:y=c
  ·rw[if_pos e,if_pos e];have ih:=q2Z x c r (pre++mid++[y]) [] (by rw[h];simp);rw[Qj,Qj,Qx,QS,Nat.add_zero] at ih;show strSub x pre.length (pre.length+mid.length)::partsFrom x 1 (pre.length+mid.length+1) (posC c r (pre.length+mid.length+1))=mkS (mid++[])::(q03 c r).map mkS;rw[ih];congr 1
   ·refine q3h ?_;rw[strSub_toList,h,QN,List.drop_left,Ja,List.take_left,QB]
   ·show ((q03 c r).modifyHead λ x=>[]++x).map mkS=_;simp only[List.nil_append,qDu]
  ·rw[if_neg e,if_neg e,mod_mod];have ih:=q2Z x c r pre (mid++[y]) (by rw[h];simp);rw[Qj,Qx,<-Nat.add_assoc] at ih;rw[ih];congr 2;funext l;simp
theorem sub_one (x:Str) (c i:Nat):subAt x ⟨#[c]⟩ i=decide (x.cps.toList[i]? = some c):=by
 rw[subAt_eq];show ((x.cps.toList.drop i).take 1==[c])=_;rw[QP,decide_eq_true_eq,beq_iff_eq];cases h:x.cps.toList.drop i with
 |nil =>
  have:=QX (l:=x.cps.toList) (i:=i) (List.drop_eq_nil_iff.mp h);rw[this];exact iff_of_false (by simp) (by simp)
 |cons y l =>
  have:x.cps.toList[i]? = some y:=by have:=List.getElem?_drop (xs:=x.cps.toList) (i:=i) (j:=0);rw[h] at this;simpa using this.symm
  rw[this];show [y]=[c]↔_;simp
theorem qB2 {x:Str}{c i free:Nat}{acc:Array Nat}(h:¬(i+1<=x.length/\x.cps.toList[i]? = some c)):occBody x ⟨#[c]⟩ x.length (x.length+1) i (acc,free)=pure (ForInStep.yield (acc,free)):=by unfold occBody;rw[if_neg];rintro⟨⟨_,h2⟩,h3⟩;rw[sub_one,decide_eq_true_eq] at h3;exact h ⟨h2,h3⟩
theorem qCr {x:Str}{c i free:Nat}{acc:Array Nat}(h1:acc.size<x.length+1) (h2:free<=i) (h3:i+1<=x.length) (h4:x.cps.toList[i]? = some c):occBody x ⟨#[c]⟩ x.length (x.length+1) i (acc,free)=pure (ForInStep.yield (acc.push i,i+1)):=by unfold occBody;rw[if_pos ⟨⟨⟨h1,h2⟩,h3⟩,by rw[sub_one,decide_eq_true_eq];exact h4⟩];rfl
theorem q7o (x:Str) (c:Nat):∀(r pre:List Nat) (acc:Array Nat) (free:Nat),x.cps.toList=pre++r->free<=pre.length->acc.size<=pre.length->
  (forIn (Jm pre.length (r.length+1)) (acc,free) (occBody x ⟨#[c]⟩ x.length (x.length+1)):Id (Array Nat×Nat)).run.fst.toList=acc.toList++posC c r pre.length
 |[],pre,acc,free,h,hf,ha=>by
  have hl:x.length=pre.length:=by rw[<-QB pre,<-h];exact Array.length_toList.symm
  rw[show Jm pre.length ([].length+1)=[pre.length] from rfl,List.forIn_cons,qB2 (by rw[hl];lia)];show acc.toList=acc.toList++[]
  rw[QB]
 |y::r,pre,acc,free,h,hf,ha=>by
  have hl:x.length=pre.length+(r.length+1):=by rw[<-Qd (a:=y),<-Qj,<-h];exact Array.length_toList.symm
  have hy:x.cps.toList[pre.length]? = some y:=by rw[h,QL (Qf _),Nat.sub_self];rfl
  have hr:Jm pre.length ((y::r).length+1)=pre.length::Jm (pre++[y]).length (r.length+1):=by rw[Qj,Qx];rfl
  rw[hr,List.forIn_cons];unfold posC
  by_cases e:y=c
  ·have ih:=q7o x c r (pre++[y]) (acc.push pre.length) (pre.length+1) (by rw[h];simp) (by simp) (by simp;lia);rw[if_pos e,qCr (by lia) hf (by lia) (by rw[hy,e])];refine (ih.trans ?_);simp
  ·have ih:=q7o x c r (pre++[y]) acc free (by rw[h];simp) (by simp;lia) (by simp;lia);rw[if_neg e,qB2 (by rw[hy];intro z;exact e (QJ.inj z.2))];refine (ih.trans ?_);simp
theorem qF5 (x:Str) (c:Nat):occurrences x ⟨#[c]⟩ 0 x.length (x.length+1)=posC c x.cps.toList 0:=by have:=q7o x c x.cps.toList [] #[] 0 rfl (Qf _) (Qf _);rw[Array.length_toList] at this;rw[occ_eq];exact this
theorem q4S (x:Str) (c:Nat):partsBetween x (occurrences x ⟨#[c]⟩ 0 x.length (x.length+1)) 1=(q03 c x.cps.toList).map mkS:=by rw[qF5,partsBetween_eq];have:=q2Z x c x.cps.toList [] [] rfl;simp only[List.nil_append,qDu] at this;exact this
theorem qCs (x:Str) (c:Nat) (hc:c<256):Txt.split x ⟨#[c]⟩=(q03 c x.cps.toList).map mkS:=by
 unfold Txt.split;have k1:strKind ⟨#[c]⟩=1:=by unfold Builtin.Str.strKind;rw[if_pos (by simp[hc])]
 have k2:1<=strKind x:=by unfold Builtin.Str.strKind;split<;>(try split)<;>decide
 by_cases h0:x.length=0
 ·have e:x.cps.toList=[]:=Q1.mp (Array.length_toList.trans h0);rw[if_pos (by rw[h0];rfl),e];show [x]=[mkS []]
  rw[q3h e]
 ·have:(decide (x.length<(⟨#[c]⟩:Str).length) || decide (strKind x<strKind ⟨#[c]⟩))=false:=by rw[k1,decide_eq_false (by show ¬(x.length<1);lia),decide_eq_false (by lia)];rfl
  rw[if_neg (by rw[this];simp)];split
  ·rename_i z;have hp:=q4S x c;rw[Q0.mp z] at hp;rw[<-hp];show [x]=[strSub x 0 x.length]
   rw[sub_whole]
  ·exact q4S x c
end Snd
namespace Snd
open PySem PySem.Spec PyProof.Rows L2 Ev
variable {o:PySem.Expr}{l:L}{dc:D}{j:Nat}{q ap cp:Pos}{y x:Str}
section
variable {X:Cx}{p:Pm}{G:Nat->List D->R D}{sub:Nat->Nat->Bool}
theorem qB3 (b:Bi) (l m:L) (ρ:Ev.Env):ev G sub (.bi b [l,m]) ρ=(ev G sub l ρ).bind λ x=>(ev G sub m ρ).bind λ y=>biD sub b [x,y]:=by
 rw[q0U,q0E,q0E,q0R];cases ev G sub l ρ with
 |ok x=>cases ev G sub m ρ<;>rfl
 |err c=>rfl
 |stuck=>rfl
theorem qHk {id:String}{b:Bi}{name:Str}{c:Const}(hcon:q2j c=some dc) (slot:Slot "str" name id) (hty:typeOf (.builtin id)=pure (.type "method_descriptor"))
  (hbase:attributeBase o name X.env (eval o X.env)=eval o X.env) (hline:(ap.endLine==cp.line)=true) (ho:SB X p G sub o l)
  (hl:∀d r,biD sub b [d,dc] = .ok r->∃x,d = .str x)
  (hm:∀(E:Value->Shared->Prop) (pins:List (Addr×Obj)) (s:Shared) (σ:L2.St) (H:Hp) (os:List (List Addr)) (x:Str) (t:Tok) (w:V) (u2:Value) (r:D),Inv X pins σ H s->Th os.flatten H->x.length<=big->RelV w u2->Rep p (fz os.flatten H) dc w->biD sub b [.str x,dc] = .ok r->
   wpAny (model X.prog X.w) X.A (call (.builtin id) [.str x t,u2]) (EP (X.wish E) pins σ (Fin p os.flatten H r)) E s) :
  SE X p G sub (.Call (.Attribute o name ap) [.Constant c j q] [] cp) (.bi b [l,.con dc]):=by
 intro pins s σ H ρ os I R hs;have e0:ev G sub (.bi b [l,.con dc]) ρ=(ev G sub l ρ).bind λ x=>biD sub b [x,dc]:=qB3 b l (.con dc) ρ;rw[e0] at hs |-;refine wpAny_Call_method_late hbase rfl hline rfl (wpAny_mono (ho pins s σ H ρ os I R (q07 hs)) (λ u s1 h=>?_) (λ _ _ z=>z.bind));obtain⟨d,v,H1,e1,I1,r1,x1,q1⟩:=h;rw[e1,q00] at hs |-;rcases q23 sub b [d,dc] with z|⟨r,z⟩
 ·exact absurd z hs
 obtain⟨x,rfl⟩:=hl d r z;obtain⟨rfl,hz⟩:=(show v=_/\_ from q1)
 obtain⟨t,rfl⟩:=r1;refine⟨"str",id,PySem.F.plainAttrs_str,slot,hty,typeIs_str _ _ _,(λ _ z=>nomatch z),?_⟩;refine Calls.callWith_builtin rfl (Calls.evalArgs_plain ?_);show wpAny _ _ (spliced ((false,eval (.Constant c j q) X.env)::[])) _ _ s1;refine Calls.spliced_cons (wpAny_mono (q8X (X:=X) (p:=p) (G:=G) (sub:=sub) hcon pins s1 σ H1 ρ os I1 (R.ext x1) (by rw[q06];simp)) (λ u2 s2 ⟨d2,w,H2,e2,I2,r2,x2,q2⟩=>Calls.spliced_nil ?_) (λ e s' ⟨c,z,_⟩=>by rw[q06] at z;cases z));rw[q06] at e2;cases e2;rw[z];exact wpAny_mono (hm (Er X p pins σ H (.ok r)) pins s2 σ H2 os x t w u2 r I2 (R.ext (x1.trans x2)).th hz r2 q2 z) (λ w' s3 h3=>q6V (x1.trans x2) rfl h3) λ _ _ z=>z
theorem q8n {f:Nat->Ev.R D}{r:D}(h:oneS f y = .ok r):∃c,y=mkS [c]/\f c = .ok r:=by
 unfold oneS at h;cases q:one? y with
 |none=>rw[q] at h;cases h
 |some c=>rw[q] at h;exact⟨c,qAT q,h⟩
theorem qHl (x:Str) (c:Nat):Txt.endswith x (mkS [c])=decide (x.cps.toList.getLast? = some c):=by
 unfold Txt.endswith;rw[show mkS [c]=⟨#[c]⟩ from rfl,sub_one];have e1:(⟨#[c]⟩:Str).length=1:=rfl;rw[e1,List.getLast?_eq_getElem?,Array.length_toList]
 by_cases h:0+1<=x.length
 ·rw[decide_eq_true h,Bool.true_and];rfl
 ·have h0:x.cps.toList=[]:=Q1.mp (Array.length_toList.trans (by show x.length=0;lia));rw[decide_eq_false h,h0];rfl
theorem qCt {c0:Const}(hcon:q2j c0=some dc) (hbase:attributeBase o "endswith" X.env (eval o X.env)=eval o X.env) (hline:(ap.endLine==cp.line)=true) (ho:SB X p G sub o l) :
  SE X p G sub (.Call (.Attribute o "endswith" ap) [.Constant c0 j q] [] cp) (.bi .endsw [l,.con dc]):=by
 refine qHk hcon PySem.F.slot_str_endswith PySem.F.type_str_endswith hbase hline ho (λ d r h=>?_) λ E pins s σ H os x t w u2 r I th hz rw' q2 h=>?_
 ·cases d<;>first
   |(cases h;done)
   |exact⟨_,rfl⟩
 ·cases dc<;>first
   |(cases h;done)
   |skip
  rename_i y;obtain⟨c,rfl,h⟩:=q8n (show endD x y = .ok r from h);cases h;obtain⟨rfl,_⟩:=(show w=_/\_ from q2)
  obtain⟨t2,rfl⟩:=rw';refine SC.endswith (x:=x) (y:=mkS [c]) ?_;rw[qHl];exact⟨.bl _,H,I.wish E,rfl,q0C rfl⟩
theorem q6p:∀{l:List (Str×Tok)}{ys:List Str},l.map (·.1)=ys->Vals (ys.map V.str) (strValues l)
 |[],_,h=>by cases h;exact .nil
 |(y,t)::l,_,h=>by cases h;exact .cons ⟨t,rfl⟩ (q6p rfl)
theorem q8o {Hf:Hp}:∀{ys:List Str},(∀y∈ys,y.length<=big)->RepL p Hf (ys.map D.str) (ys.map V.str)
 |[],_=>rfl
 |y::ys,h=>⟨_,_,rfl,⟨rfl,h y Qb⟩,q8o λ z hz=>h z (Qa _ hz)⟩
theorem q58 (c:Nat):∀l:List Nat,(q03 c l).length<=l.length+1
 |[]=>Qf _
 |x::l=>by
  have:=q58 c l;unfold q03;split
  ·rw[Qd,Qd];lia
  ·rw[List.length_modifyHead,Qd];lia
theorem q4T (c:Nat):∀(l:List Nat),∀y∈q03 c l,y.length<=l.length
 |[],y,h=>by rw[Qu.mp h];exact Qf _
 |x::l,y,h=>by
  have ih:=q4T c l;unfold q03 at h;split at h
  ·rcases Qh.mp h with rfl|h
   ·exact QK _
   ·exact Jh (ih y h)
  ·cases q:q03 c l with
   |nil=>rw[q] at h;cases h
   |cons z r =>
    rw[q] at h ih;rcases Qh.mp h with rfl|h
    ·exact Nat.succ_le_succ (ih z Qb)
    ·exact Jh (ih y (Qa _ h))
theorem q9d {prog:Program}{w:World}{A:Around}{E:Value->Shared->Prop}{s:Shared}{t u:Tok}{Q:Value->Shared->Prop}(hy:(y.length==0)=false) (hx:x.length<=sizeLine) (hn:(Builtin.Str.partsBetween x (Builtin.Str.occurrences x y 0 x.length (x.length+1)) y.length).length<=sizeLine)
  (hq:∀(l:List (Str×Tok)) (k:Nat),l.map (·.1)=Txt.split x y->Q (.ref s.heap.objs.size) {s with heap:=s.heap.push {cls:= .type "list",data:= .seq (strValues l).toArray},toks:=k}) :
  wpAny (model prog w) A (call (.builtin "str.split") [.str x t,.str y u]) Q E s:=by
 cases h1:(decide (x.length<y.length) || decide (Builtin.Str.strKind x<Builtin.Str.strKind y))
 ·cases hf:(Builtin.Str.occurrences x y 0 x.length (x.length+1)).isEmpty
  ·refine call_meets PySem.F.slot_str_split (typeIs_str _ _ _) PySem.F.entry_str_split (PySem.F.args_str_split_2 _ _) (meets_str_split_sep x y t u h1 hy hf hx hn) ?_;show wants Q E _ {s with toks:=_,heap:=s.heap.push {cls:= .type "list",data:= .seq (strsFrom s.toks (Builtin.Str.partsBetween x (Builtin.Str.occurrences x y 0 x.length (x.length+1)) y.length)).toArray}};rw[strsFrom_eq];exact hq (numbered s.toks _) _ ((numbered_texts _ _).trans ((if_neg (ne_true_of_eq_false h1)).trans (if_neg (ne_true_of_eq_false hf))).symm)
  ·exact call_meets PySem.F.slot_str_split (typeIs_str _ _ _) PySem.F.entry_str_split (PySem.F.args_str_split_2 _ _) (meets_str_split_not_found x y t u h1 hy hf) (hq [(x,t)] s.toks ((if_neg (ne_true_of_eq_false h1)).trans (if_pos hf)).symm)
 ·exact call_meets PySem.F.slot_str_split (typeIs_str _ _ _) PySem.F.entry_str_split (PySem.F.args_str_split_2 _ _) (meets_str_split_cannot_occur x y t u h1) (hq [(x,t)] s.toks (if_pos h1).symm)
theorem qCu {c0:Const}(hcon:q2j c0=some dc) (hbase:attributeBase o "split" X.env (eval o X.env)=eval o X.env) (hline:(ap.endLine==cp.line)=true) (ho:SB X p G sub o l) :
  SE X p G sub (.Call (.Attribute o "split" ap) [.Constant c0 j q] [] cp) (.bi .split [l,.con dc]):=by
 refine qHk hcon PySem.F.slot_str_split PySem.F.type_str_split hbase hline ho (λ d r h=>?_) λ E pins s σ H os x t w u2 r I th hz rw' q2 h=>?_
 ·cases d<;>first
   |(cases h;done)
   |exact⟨_,rfl⟩
 ·cases dc<;>first
   |(cases h;done)
   |skip
  rename_i y;obtain⟨c,rfl,h2⟩:=q8n (show q8D x y = .ok r from h);clear h;split at h2
  ·rename_i hc;cases h2;obtain⟨rfl,_⟩:=(show w=_/\_ from q2)
   obtain⟨t2,rfl⟩:=rw';have hxl:x.cps.toList.length=x.length:=Array.length_toList;have hl:=q58 c x.cps.toList;rw[hxl] at hl;have hs:=sizeLine_eq;have hx:x.cps.size=x.length:=rfl;have hp:(Builtin.Str.partsBetween x (Builtin.Str.occurrences x (mkS [c]) 0 x.length (x.length+1)) (mkS [c]).length).length<=sizeLine:=by rw[show (mkS [c]).length=1 from rfl,show mkS [c]=⟨#[c]⟩ from rfl,q4S,Qe];lia
   refine q9d rfl (by lia) hp λ l k hv=>?_;rw[show mkS [c]=⟨#[c]⟩ from rfl,qCs x c hc.2] at hv;have hb:∀z∈(q03 c x.cps.toList).map mkS,z.length<=big:=λ z hz'=>by obtain⟨l,hl',rfl⟩:=Qm.mp hz';have:=q4T c _ l hl';rw[hxl] at this;show l.toArray.size<=big;rw[Ql];exact Qt this hz
   have I5:=I.lnew (t':=k) (q6p hv) (by rw[Qe,Qe];lia);have hn:H s.heap.objs.size=none:=I.hok.fresh (Qf _);have rp:RepL p (fz os.flatten H) ((q03 c x.cps.toList).map λ l=>D.str (mkS l)) (((q03 c x.cps.toList).map mkS).map V.str):=by
    have:=q8o (p:=p) (Hf:=fz os.flatten H) hb
    rwa [Q2] at this
   exact⟨.ref _,_,I5.wish E,rfl,q4K th rp hn⟩
  ·cases h2
theorem q8p:∀{xs:List D}{ys:List Str},strs? xs=some ys->xs=ys.map D.str
 |[],_,h=>by cases h;rfl
 |d::xs,ys,h=>by
  cases d<;>first
   |(cases h;done)
   |skip
  rename_i y;obtain⟨zs,h1,h2⟩:=QO.mp (show (strs? xs).map (y::·)=some ys from h);subst h2;rw[q8p h1];rfl
theorem q8q {Hf:Hp}:∀{ys:List Str}{vs:List V},RepL p Hf (ys.map D.str) vs->vs=ys.map V.str
 |[],vs,h=>h
 |y::ys,vs,h=>by obtain⟨v,r,rfl,h1,h2⟩:=h;rw[h1.1,q8q h2];rfl
theorem q59:∀{ys:List Str}{us:List Value},Vals (ys.map V.str) us->StrsAre us ys
 |[],_,h=>by cases h;exact .nil
 |y::ys,_,h=>by
  cases h with
  |cons h r =>
   obtain⟨t,rfl⟩:=h;exact StrsAre.cons _ _ (q59 r)
theorem q8r (y:Str):∀(l:List Str),(∀z∈l,z.length<=900)->y.length<=10->(Str.join y l).length<=910*l.length
 |[],_,_=>QK _
 |[x],h,_=>by have:=h x (by simp);show x.length<=910*1;lia
 |x::z::r,h,hy=>by have ih:=q8r y (z::r) (λ w hw=>h w (Qa _ hw)) hy;have:=h x (by simp);show (x++y++Str.join y (z::r)).length<=_;rw[q04,q04,Qd];rw[Qd] at ih |-;lia
theorem qB4:∀(l:List Str),(∀z∈l,z.length<=900)->(l.map (·.length)).sum<=900*l.length
 |[],_=>QK _
 |x::l,h=>by have:=qB4 l λ w hw=>h w (Qa _ hw);have:=h x (by simp);rw[Qz,List.sum_cons,Qd];lia
theorem qF6 {y:PySem.Expr}{m:L}(hK:p.K=X.K) (hx:q2j (.str x)=some (.str x)) (hline:(ap.endLine==cp.line)=true) (hy:SB X p G sub y m) (hst:starEach [y] X.env=[(false,eval y X.env)]) :
  SE X p G sub (.Call (.Attribute (.Constant (.str x) j q) "join" ap) [y] [] cp) (.bi .join [.con (.str x),m]):=by
 intro pins s σ H ρ os I R hs;have e0:ev G sub (.bi .join [.con (.str x),m]) ρ=(ev G sub m ρ).bind λ e=>biD sub .join [.str x,e]:=qB3 .join (.con (.str x)) m ρ;rw[e0] at hs |-;refine wpAny_Call_method_late rfl (by rw[hst];rfl) hline rfl (wpAny_mono (q8X (X:=X) (p:=p) (G:=G) (sub:=sub) hx pins s σ H ρ os I R (by rw[q06];simp)) (λ u s1 h=>?_) (λ _ _ ⟨c,z,_⟩=>by rw[q06] at z;cases z));obtain⟨d,v,H1,e1,I1,r1,x1,q1⟩:=h;rw[q06] at e1;cases e1;obtain⟨rfl,hz⟩:=(show v=_/\_ from q1)
 obtain⟨t,rfl⟩:=r1;refine⟨"str", "str.join",PySem.F.plainAttrs_str,PySem.F.slot_str_join,PySem.F.type_str_join,typeIs_str _ _ _,(λ _ z=>nomatch z),?_⟩;rw[hst];refine Calls.callWith_builtin rfl (Calls.evalArgs_plain ?_);show wpAny _ _ (spliced ((false,eval y X.env)::[])) _ _ s1;refine Calls.spliced_cons (wpAny_mono (hy pins s1 σ H1 ρ os I1 (R.ext x1) (q07 hs)) (λ u2 s2 ⟨d2,w,H2,e2,I2,r2,x2,q2⟩=>Calls.spliced_nil ?_) (λ e s' z=>(z.ext x1).bind));rw[e2,q00] at hs |-;cases d2<;>first
  |exact absurd rfl hs
  |skip
 rename_i xs;have hs:q4n x xs ≠ .stuck:=hs;show wpAny _ _ _ (Gd X p pins σ os H (q4n x xs)) (Er X p pins σ H (q4n x xs)) _;unfold q4n at hs |-;cases hst:strs? xs with
 |none=>rw[hst] at hs;exact absurd rfl hs
 |some ys =>
  rw[hst] at hs;dsimp only at hs |-
  by_cases hc:ys.length<=1000/\x.length<=10/\ys.all (λ z=>decide (z.length<=900))=true
  ·rw[if_pos hc];obtain⟨c1,c2,c3⟩:=hc;have c4:∀z∈ys,z.length<=900:=λ z hz=>of_decide_eq_true (Qs.mp c3 z hz);obtain⟨a,vs,rfl,s5,s6⟩:=q2;cases r2;rw[q8p hst] at s6;obtain⟨its,rv,pt,hzl⟩:=I2.list (hK▸s5);rw[q8q s6] at rv;have h1:=qB4 ys c4;have h2:=q8r x ys c4 c2;have h3:ys.length*x.length<=ys.length*10:=Nat.mul_le_mul_left _ c2;refine join_list pt.isList (q59 (by simpa using rv)) (by lia) λ t' k=>?_;refine⟨_,.str _,H2,rfl,I2.tok _,⟨t',?_⟩,x1.trans x2,rfl,?_⟩
   ·rw[Txt.join,PySem.StrLaws.glued_eq_join]
   ·rw[show big=1000000 from rfl];lia
  ·rw[if_neg hc] at hs;exact absurd rfl hs
theorem qB5 {i:Nat}(hK:p.K=X.K) (hu:X.A.units+64<cLine) (hbase:attributeBase o "index" X.env (eval o X.env)=eval o X.env) (hline:(ap.endLine==cp.line)=true) (ho:SB X p G sub o l) (hv:SE X p G sub (.Name x q) (.var i)) :
  SE X p G sub (.Call (.Attribute o "index" ap) [.Name x q] [] cp) (.bi .index [l,.var i]):=by
 intro pins s σ H ρ os I R hs;rw[qB3] at hs |-;refine wpAny_Call_method_late hbase rfl hline rfl (wpAny_mono (ho pins s σ H ρ os I R (q07 hs)) (λ u s1 h=>?_) (λ _ _ z=>z.bind));obtain⟨d,v,H1,e1,I1,r1,x1,q1⟩:=h;rw[e1,q00] at hs |-;have ne:∀c,ev G sub (.var i) ρ ≠ .err c:=λ c=>by rw[q1C,q8J];split<;>nofun
 cases hev:ev G sub (.var i) ρ with
 |err c=>exact absurd hev (ne c)
 |stuck=>rw[hev] at hs;exact absurd rfl hs
 |ok dc =>
  rw[hev,q00] at hs;rw[q00];rcases q23 sub .index [d,dc] with z|⟨r,z⟩
  ·exact absurd z hs
  obtain⟨xs,rfl⟩:∃xs,d = .lst xs:=by
   cases d<;>first
    |(cases z;done)
    |exact⟨_,rfl⟩
  have q1':=q1;obtain⟨a,vs,rfl,s5,s6⟩:=q1';cases r1;obtain⟨h1,h2⟩:=q8C (T := "list") (x:= .ref a) I1 rfl (.inl ⟨rfl,_,hK▸s5⟩);refine⟨"list", "list.index",PySem.F.plainAttrs_list,PySem.F.slot_list_index,PySem.F.type_list_index,h1,h2,?_⟩;refine Calls.callWith_builtin rfl (Calls.evalArgs_plain ?_);show wpAny _ _ (spliced ((false,eval (.Name x q) X.env)::[])) _ _ s1;refine Calls.spliced_cons (wpAny_mono (hv pins s1 σ H1 ρ os I1 (R.ext x1) (by rw[hev];simp)) (λ u2 s2 ⟨d2,w,H2,e2,I2,r2,x2,q2⟩=>Calls.spliced_nil ?_) (λ e s' ⟨c,z,_⟩=>by rw[hev] at z;cases z));rw[hev] at e2;cases e2;rw[z];refine wpAny_mono (qAx hK hu (Er X p pins σ H (.ok r)) I2 (q1.mono x2 (q1E x2)) q2 r2 z) (λ w' s3 h3=>q6V (x1.trans x2) rfl h3) λ _ _ z=>z
theorem q8s (b:Bi) (l m n:L) (ρ:Ev.Env):ev G sub (.bi b [l,m,n]) ρ=(ev G sub l ρ).bind λ x=>(ev G sub m ρ).bind λ y=>(ev G sub n ρ).bind λ z=>biD sub b [x,y,z]:=by
 rw[q0U,q0E,q0E,q0E,q0R];cases ev G sub l ρ with
 |ok x=>cases ev G sub m ρ with
  |ok y=>cases ev G sub n ρ<;>rfl
  |err c=>rfl
  |stuck=>rfl
 |err c=>rfl
 |stuck=>rfl
theorem qB6 {d r:D}(h:biD sub .fmt [.str x,d,.str y] = .ok r):∃a:Int,d = .int a/\x.length<=1000/\y.length<=1000/\0<=a/\a<1000/\r = .str (x++Str.ofString (toString a)++y):=by
 cases d<;>first
  |(cases h;done)
  |skip
 rename_i a;have h:fmtD x a y = .ok r:=h;unfold fmtD Ev.strI at h;split at h
 ·rename_i c;split at h
  ·rename_i c2;cases h;exact⟨a,rfl,c.1,c.2,c2.1,c2.2,rfl⟩
  ·cases h
 ·cases h
theorem q6q {a:Int}(h0:0<=a) (h1:a<1000):a.natAbs.log2<1920:=by
 have:a.natAbs<1000:=by lia
 by_cases z:a.natAbs=0
 ·rw[z];decide
 ·exact Nat.lt_of_le_of_lt (Nat.log2_le_self _) (by lia)
theorem q6r {a:Int}(h0:0<=a) (h1:a<1000):(Str.ofString (toString a)).length<=3:=by
 obtain⟨k,rfl⟩:∃k:Nat,a=k:=⟨a.toNat,by lia⟩
 have:∀k:Nat,k<1000->(Str.ofString (toString (k:Int))).length<=3:=by decide +kernel
 exact this k (by lia)
theorem qF7 {e:PySem.Expr}{fp pos:Pos}(hx:x.length<=1000) (he:SE X p G sub e l):SE X p G sub (.JoinedStr [.Constant (.str x) j q,.FormattedValue e (-1) none fp] pos) (.bi .fmt [.con (.str x),l,.con (.str (mkS []))]):=by
 intro pins s σ H ρ os I R hs;have e0:ev G sub (.bi .fmt [.con (.str x),l,.con (.str (mkS []))]) ρ=(ev G sub l ρ).bind λ d=>biD sub .fmt [.str x,d,.str (mkS [])]:=q8s .fmt (.con (.str x)) l (.con (.str (mkS []))) ρ;rw[e0] at hs |-;have hz:=sizeLine_eq;refine JoinedStr_many (joinParts_cons (Calls.Constant_str ?_));refine⟨by rw[q04];show 0+x.length<=_;lia,joinParts_cons (FormattedValue_plain (wpAny_mono (he pins _ σ H ρ os (I.tok _) R (q07 hs)) (λ v s1 ⟨d,w,H1,e1,I1,r1,x1,q1⟩=>?_) λ _ _ z=>z.bind))⟩;rw[e1,q00] at hs |-;rcases q23 sub .fmt [.str x,d,.str (mkS [])] with z|⟨r,z⟩
 ·exact absurd z hs
 obtain⟨a,rfl,h1,h2,h3,h4,rfl⟩:=qB6 z;cases (show w=_ from q1);obtain⟨t,rfl⟩:=r1;have hl:=q6r h3 h4;have hlen:(Str.empty++x++Str.ofString (toString a)).length<=1003:=by rw[q04,q04];show 0+x.length+_<=_;lia
 refine formatField_int_small (q6q h3 h4) ⟨by lia,joinParts_nil ?_ (by lia)⟩;rw[z];refine⟨_,.str _,H1,rfl,(I1.tok _).tok _,⟨_,rfl⟩,x1,?_,?_⟩
 ·show V.str (Str.empty++x++Str.ofString (toString a))=V.str (x++Str.ofString (toString a)++mkS []);rw[PySem.Str.empty_append,show mkS []=Str.empty from rfl,PySem.Str.append_empty]
 ·show (x++Str.ofString (toString a)++mkS []).length<=big;rw[q04,q04];show x.length+_+0<=1000000;lia
theorem qF8 {e:PySem.Expr}{fp pos:Pos}(he:SE X p G sub e l):SE X p G sub (.JoinedStr [.FormattedValue e (-1) none fp,.Constant (.str y) j q] pos) (.bi .fmt [.con (.str (mkS [])),l,.con (.str y)]):=by
 intro pins s σ H ρ os I R hs;have e0:ev G sub (.bi .fmt [.con (.str (mkS [])),l,.con (.str y)]) ρ=(ev G sub l ρ).bind λ d=>biD sub .fmt [.str (mkS []),d,.str y]:=q8s .fmt (.con (.str (mkS []))) l (.con (.str y)) ρ;rw[e0] at hs |-;have hz:=sizeLine_eq;refine JoinedStr_many (joinParts_cons (FormattedValue_plain (wpAny_mono (he pins s σ H ρ os I R (q07 hs)) (λ v s1 ⟨d,w,H1,e1,I1,r1,x1,q1⟩=>?_) λ _ _ z=>z.bind)));rw[e1,q00] at hs |-;rcases q23 sub .fmt [.str (mkS []),d,.str y] with z|⟨r,z⟩
 ·exact absurd z hs
 obtain⟨a,rfl,h1,h2,h3,h4,rfl⟩:=qB6 z;cases (show w=_ from q1);obtain⟨t,rfl⟩:=r1;have hl:=q6r h3 h4;have hlen:(Str.empty++Str.ofString (toString a)).length<=3:=by rw[q04];show 0+_<=_;lia
 have hlen2:(Str.empty++Str.ofString (toString a)++y).length<=1003:=by rw[q04];lia
 refine formatField_int_small (q6q h3 h4) ⟨by lia,joinParts_cons (Calls.Constant_str ⟨by lia,joinParts_nil ?_ (by lia)⟩)⟩;rw[z];refine⟨_,.str _,H1,rfl,((I1.tok _).tok _).tok _,⟨_,rfl⟩,x1,?_,?_⟩
 ·show V.str (Str.empty++Str.ofString (toString a)++y)=V.str (mkS []++Str.ofString (toString a)++y);rfl
 ·show (mkS []++Str.ofString (toString a)++y).length<=big;show (Str.empty++Str.ofString (toString a)++y).length<=1000000;lia
end
end Snd
namespace Snd
open PySem PySem.Spec PySem.W PyProof.Rows L2 Ev
variable {e:PySem.Expr}{env:PySem.Env}{x:Str}{i:Nat}
theorem q0l {x:Str}:∀{N:List Str}{i:Nat},ixOf x N=some i->N[i]? = some x
 |[],i,h=>by cases h
 |y::N,i,h=>by
  unfold ixOf at h;split at h
  ·rename_i c;cases h;subst c;rfl
  ·cases e:ixOf x N with
   |none=>rw[e] at h;cases h
   |some j=>rw[e] at h;cases h;simpa using q0l e
noncomputable def okE:PySem.Expr->Bool
 | .Starred _ _=>false
 | .Set _ _ _=>false
 | .Slice _ _ _ _=>false
 | .Call (.Name _ _) [] [] _=>false
 |_=>true
theorem q0w {es:List PySem.Expr}(h:okE e=true):starEach (e::es) env=(false,eval e env)::starEach es env:=by cases e<;>first|rfl|(cases h;done)
theorem qJe (h:okE e=true):qA9 e:=by intro o i;cases e<;>first|rfl|(cases h;done)
theorem qB7 {op:CmpOp}(h:okE e=true):behindInMarks op e=false:=by cases e<;>first|rfl|(cases h;done)
theorem q7p (h:okE e=true):∀x,foldedSetIterable e env x=pure x:=by intro x;cases e<;>first|rfl|(cases h;done)
theorem q4U {name:Str}(h:okE e=true):attributeBase e name env (eval e env)=eval e env:=by
 unfold attributeBase;split
 ·cases h
 ·rfl
theorem q7q:∀{n:Nat}{C:Ct}{e:PySem.Expr}{l:L},cE n C e=some l->okE e=true:=by
 intro n;cases n with
 |zero=>intro C e l h;cases h
 |succ n =>
  intro C e l h;cases e with
  |Call g args kws pos =>
   cases g with
   |Name f q =>
    cases args with
    |cons a r=>rfl
    |nil =>
     cases kws with
     |cons a r=>rfl
     |nil =>
      exfalso;unfold cE at h;dsimp only at h;split at h
      ·split at h
       ·split at h
        ·rename_i z;exact z.2 rfl
        ·cases h
       ·cases n with
        |zero=>cases h
        |succ n=>cases h
      ·cases h
   |_=>rfl
  |Starred _ _=>cases h
  |Set _ _ _=>cases h
  |Slice _ _ _ _=>cases h
  |_=>rfl
theorem q4V {n:Nat}{C:Ct}{l:L}(h:cB n C e=some l):okE e=true:=by
 cases n with
 |zero=>simp[cB] at h
 |succ n =>
  unfold cB at h;split at h
  ·rfl
  ·exact q7q h
noncomputable def q08:List Str:=["len", "sorted", "tuple", "list", "sum", "all", "int", "abs", "range", "isinstance", "set", "bool", "ValueError", "min", "max", "any", "str"]
def KOk (a b:Option NameKind):Prop:=a=b\/(a=some .free/\b=some .cell)
def qB8:List Value:=[.type "ValueError",.type "Exception",.type "BaseException",.type "object"]
structure CtOk (k:Nat) (X:Cx) (C:Ct) (p:Pm) (G:Nat->List D->R D) (sub:Nat->Nat->Bool):Prop where
 N:X.N=C.N
 nd:C.N.Nodup
 kinds:∀x,KOk (C.kinds.lookup x) (X.env.scope.names.lookup x)
 calm:X.calm=true
 K:p.K=X.K
 room:Room (k+2) X.A
 blt:∀x∈q08,X.mg x=none
 funs:∀(j:Nat) (f:Str),C.funs[j]? = some f->∃fa fd ps,FnOk X.prog X.w X.K X.mg X.base (CXs X.prog X.w X.K) k fa fd ps (spG p G j ps.length)/\X.mg f=some (.ref fa)/\PySem.W.keepIn X.K (.ref fa)=true/\Binds X.K fd ps []/\∀ds,G j ds ≠ .stuck->ds.length=ps.length
 consts:∀(x:Str) (d:D),C.consts.lookup x=some d->∃a t,d = .int a/\X.mg x=some (.int a t)
 top:∃L,TopF X L
 bt:∀(c:Nat),C.excs[c]? = some (Str.ofString "BadText")->∃Cc,p.cls[c]? = some Cc/\PySem.W.nsIn X.K mainGlobals "BadText" = some (some (.ref Cc))
 excs:∀(c:Nat) (x:Str),C.excs[c]? = some x->∃Cc,p.cls[c]? = some Cc/\OwnCls x Cc qB8 "ValueError.__new__" X.mg X.base
 exok:∀(c:Nat) (Cc:Addr),p.cls[c]? = some Cc->ExOk X.K Cc/\kitOne X.K (.ref Cc) (.type "ValueError")=some true
 exm:∀(e c:Nat) (Ce Cc:Addr),p.cls[e]? = some Ce->p.cls[c]? = some Cc->exmOne X.K (.ref Ce) (.ref Cc)=some (sub e c)/\kitOne X.K (.ref Ce) (.ref Cc)=some (sub e c)
def SSet:Prop:=∀(X:Cx) (p:Pm) (G:Nat->List D->R D) (sub:Nat->Nat->Bool) (a:PySem.Expr) (la:L) (q q2 q3 pos:Pos),p.K=X.K->X.calm=true->X.A.units+64<cLine->X.mg "sorted" = none->X.mg "set" = none->SB X p G sub a la->okE a=true->Gl X "sorted"->Gl X "set"->
 SE X p G sub (.Call (.Name "sorted" q) [.Call (.Name "set" q2) [a] [] q3] [] pos) (.bi .sortedSet [la])
section
variable {k:Nat}{X:Cx}{C:Ct}{p:Pm}{G:Nat->List D->R D}{sub:Nat->Nat->Bool}
theorem q1a (h:q3e x=true):(x==("__debug__":Str))=false/\(x==("__classdict__":Str))=false:=by unfold q3e at h;simp only[Qg,Bool.not_eq_true'] at h;exact h
theorem CtOk.hu (T:CtOk k X C p G sub):X.A.units+64<cLine:=T.room.units
theorem CtOk.vis (T:CtOk k X C p G sub) (h:C.vis x=true):Vis X.env.scope x/\(x==("__debug__":Str))=false/\(x==("__classdict__":Str))=false:=by
 unfold Ct.vis at h;rw[Qg] at h;refine⟨?_,q1a h.1⟩;have h2:=h.2;have kk:=T.kinds x;unfold Vis;split at h2
 ·rename_i e;rw[e] at kk;rcases kk with z|⟨z,_⟩
  ·exact .inl z.symm
  ·cases z
 ·rename_i e;rw[e] at kk;rcases kk with z|⟨z,_⟩
  ·exact .inr (.inl z.symm)
  ·cases z
 ·rename_i e;rw[e] at kk;rcases kk with z|⟨_,z⟩
  ·exact .inr (.inr z.symm)
  ·exact .inr (.inl z)
 ·cases h2
theorem CtOk.glob (T:CtOk k X C p G sub) (h:C.glob x=true):Gl X x/\(x==("__debug__":Str))=false:=by
 unfold Ct.glob at h;rw[Qg] at h;refine⟨?_,(q1a h.1).1⟩;have e:=of_decide_eq_true h.2;have kk:=T.kinds x;rw[e] at kk;rcases kk with z|⟨z,_⟩
 ·exact z.symm
 ·cases z
theorem CtOk.loc (T:CtOk k X C p G sub) (h:C.loc x=some i):Loc X.env.scope x/\X.N[i]? = some x:=by
 unfold Ct.loc at h;have kk:=T.kinds x;split at h
 case isFalse=>cases h
 split at h
 ·rename_i e;rw[e] at kk;rcases kk with z|⟨z,_⟩
  ·exact⟨.inl z.symm,by rw[T.N];exact q0l h⟩
  ·cases z
 ·rename_i e;rw[e] at kk;rcases kk with z|⟨z,_⟩
  ·exact⟨.inr z.symm,by rw[T.N];exact q0l h⟩
  ·cases z
 ·cases h
theorem qCv (h:C.loc x=some i):(x==("__debug__":Str))=false/\(x==("__classdict__":Str))=false:=by
 unfold Ct.loc at h;split at h
 ·rename_i e;exact q1a e
 ·cases h
theorem CtOk.at (T:CtOk k X C p G sub) (h:ixOf x C.N=some i):X.N[i]? = some x:=by rw[T.N];exact q0l h
theorem q7r {α:Type}{f:α->Bool}{l:List α}(h:l.all f=true):∀x∈l,f x=true:=Qs.mp h
theorem CtOk.less (T:CtOk k X C p G sub) (x:Str):CtOk k X (C.less x) p G sub:=⟨T.N,T.nd,T.kinds,T.calm,T.K,T.room,T.blt,T.funs,T.consts,T.top,T.bt,T.excs,T.exok,T.exm⟩
theorem CtOk.inner (T:CtOk k X C p G sub) {ts:List Str}{sc:Scope}(h:C.scOk ts sc=true):ScOk X sc ts/\(inN ts X.N).Nodup/\(∀x∈ts,sc.names.lookup x=some .local\/sc.names.lookup x=some .cell)/\
  ∀s2 H2 cl C' fp,CtOk k (cxC X s2 H2 sc cl C' (inN ts X.N) fp) (C.inner ts sc) p G sub:=by
 unfold Ct.scOk at h;simp only[Qg,decide_eq_true_eq] at h;obtain⟨⟨⟨⟨h1,h2⟩,h3⟩,h4⟩,h5⟩:=h;have eN:(C.inner ts sc).N=inN ts X.N:=by unfold Ct.inner inN;rw[T.N]
 have h4':=q7r h4;have h5':=q7r h5;have h3':∀x∈ts,sc.names.lookup x=some .local\/sc.names.lookup x=some .cell:=λ x hx=>by have:=q7r h3 x hx;simp only[Bool.or_eq_true,decide_eq_true_eq] at this;exact this
 refine⟨⟨h1,λ y hy hc=>?_,λ y hy hf=>?_,λ y hy hl=>?_,λ y hy hm=>?_,λ y hy hm=>?_⟩,by rw[<-eN];exact h2,h3',λ s2 H2 cl C' fp=>⟨eN.symm,h2,λ x=>?_,T.calm,T.K,T.room,T.blt,T.funs,T.consts,T.top.imp λ L TF=>⟨TF.frame,TF.top⟩,T.bt,T.excs,T.exok,T.exm⟩⟩
 ·have:=h4' y hy;simp only[Qg,Bool.or_eq_true,decide_eq_true_eq] at this;exact this.1.1.resolve_left λ z=>z hc
 ·have:=h4' y hy;simp only[Qg,Bool.or_eq_true,decide_eq_true_eq] at this;have kk:=T.kinds y.1;rcases this.1.2 with (z|z)|z
  ·exact absurd hf z
  ·rw[z] at kk;rcases kk with w|⟨w,_⟩
   ·exact .inl w.symm
   ·cases w
  ·rw[z] at kk;rcases kk with w|⟨_,w⟩
   ·exact .inr w.symm
   ·exact .inl w
 ·have:=h4' y hy;simp only[Qg,Bool.or_eq_true,decide_eq_true_eq] at this;rcases this.2 with z|z
  ·exact absurd hl z
  ·exact z
 ·have:=h5' y (by rw[<-T.N];exact hy);rw[if_pos hm] at this;exact of_decide_eq_true this
 ·have:=h5' y (by rw[<-T.N];exact hy);rw[if_neg hm] at this;exact of_decide_eq_true this
 ·show KOk (sc.names.lookup x) ((relabel sc X.env).names.lookup x);rw[q0Q];cases e:sc.names.lookup x with
  |none=>exact .inl rfl
  |some kd =>
   rw[QT];split
   ·rename_i c;simp only[Qg,beq_iff_eq] at c;exact .inr ⟨by rw[c.1.1],rfl⟩
   ·exact .inl rfl
end
end Snd
namespace Snd
open PySem PySem.Spec PySem.W PyProof.Rows L2 Ev
open PySem.AutoSeq1 (wpAny_loadPart')
theorem qHm (l:Addr) (items:Array Value) (n:Nat) (b:Addr) (items2:Array Value) (n2:Nat) (sl:Array (Option Value)) (hc0:¬(!items.isEmpty&&Builtin.List.listTooLong (items.size+items2.size))=true) (hc1:items.size<=sizeLine) (hs2:items.size+items2.size<=sizeLine+1) :
  Meets (Builtin.«list.extend» ⟨[.ref l,.ref b],[]⟩) (λ _ R s=>s.heap.get? l=some {cls:= .type "list",dict:=none,data:= .seq items n,slots:=#[]}/\s.heap.get? b=some {cls:= .type "list",dict:=none,data:= .seq items2 n2,slots:=sl}/\R (.ok (.ret Value.none)) {s with heap:=s.heap.update l (Obj.mapSeq λ x=>x++items2),toks:=s.toks}) :=
 .of_wp λ prog w A R s h=>by
  obtain⟨hp,g,d,tk,os⟩:=s;obtain⟨hl,hb,h⟩:=h;have f1:=AutoSeq1.idx_int;have f2:=AutoSeq1.sub_tuple_tuple;have f3:=AutoSeq1.sub_list_list;have f4:=AutoSeq1.sub_tuple_list;have f5:=AutoSeq1.sub_list_tuple;have hz':(items++items2).size<=sizeLine+1:=by rw[Array.size_append];exact hs2
  wp_walk using (wpAny_updateSeq hl rfl (hz:=hc1) (_hz':=hz')),wpAny_loadPart' hl,wpAny_loadPart' hb
  exact⟨_,rfl,h⟩
section
variable {X:Cx}{p:Pm}{G:Nat->List D->R D}{sub:Nat->Nat->Bool}
theorem qCw {E:Value->Shared->Prop}{pins:List (Addr×Obj)}{s:Shared}{σ:L2.St}{H:Hp}{l b:Addr}{xs zs:List V}(I:Inv X pins σ H s) (hH:H l=some (.lst xs)) (hB:SqL X.K H b zs) (hz:xs.length+zs.length<=sizeLine) :
  wpAny (model X.prog X.w) X.A (call (.builtin "list.extend") [.ref l,.ref b]) (λ _ s'=>Inv X pins σ (upd H l (.lst (xs++zs))) s') E s:=by
 obtain⟨z,its,n,r,hl,e⟩:=I.lstM hH;obtain⟨its2,r2,⟨⟨c2,d2,da2,sl2⟩,n2,e2,hc2,hd2,hda2⟩,z2⟩:=I.list hB;simp only at hc2 hd2 hda2;subst hc2 hd2 hda2;have hl2:=r2.length;have hsz:its.toArray.size+its2.toArray.size<=sizeLine:=by rw[Ql,Ql];lia
 have hlong:¬(!its.toArray.isEmpty&&Builtin.List.listTooLong (its.toArray.size+its2.toArray.size))=true:=by rw[qC3 hsz,Bool.and_false];exact Bool.false_ne_true
 refine call_meets PySem.F.slot_list_extend ⟨_,e,rfl⟩ PySem.F.entry_list_extend (PySem.F.args_list_extend_2 _ _) (qHm l its.toArray n b its2.toArray n2 sl2 hlong (by rw[Ql];lia) (by lia)) ⟨e,e2,?_⟩;refine I.lset (its':=its++its2) hH e (by simp) (r.append r2) ?_;rw[Qj];lia
theorem qHn {i:Nat}{x:Str}{a:PySem.Expr}{l:L}{q ap cp pos:Pos}(hK:p.K=X.K) (hi:X.N[i]? = some x) (hv:Vis X.env.scope x) (hd:(x==("__debug__":Str))=false) (hcd:(x==("__classdict__":Str))=false) (ha:SE X p G sub a l)
  (hst:starEach [a] X.env=[(false,eval a X.env)]) (hline:(ap.endLine==cp.line)=true):SS X p G sub (.Expr (.Call (.Attribute (.Name x q) "extend" ap) [a] [] cp) pos) (.ext i l):=by
 intro H0 O0 E hp pins s σ H ρ os I B hs hE;rw[qDc] at hs hE |-;split at hs
 ·rename_i xs hρ;simp only[hρ] at hE |-;obtain⟨y,as,s1,s2,a',rfl,rfl,vs,s5,s6⟩:=B.at hρ;refine wpAny_Expr_any (wpAny_Call_method_late rfl (by rw[hst];rfl) hline rfl (q4L I hi hv s1 hd hcd λ u r=>?_)) I.quiet rfl;cases r;obtain⟨h1,h2⟩:=q8C (T := "list") (x:= .ref a') I rfl (.inl ⟨rfl,_,SqL.of s5⟩);refine⟨"list", "list.extend",PySem.F.plainAttrs_list,PySem.F.slot_list_extend,PySem.F.type_list_extend,h1,h2,?_⟩;rw[hst];refine Calls.callWith_builtin rfl (Calls.evalArgs_plain ?_);show wpAny _ _ (spliced ((false,eval a X.env)::[])) _ _ s;refine Calls.spliced_cons (wpAny_mono (ha pins s σ H ρ _ I B.rel (q5g hs)) (λ v s3 ⟨d,x',H1,e1,I1,r1,x1,q1⟩=>Calls.spliced_nil ?_) (λ e s' z=>hE e s' (q3l B z)));rw[e1,q0A] at hs hE |-;cases d<;>first
   |exact absurd rfl hs
   |skip
  rename_i ys;dsimp only at hs hE |-;have z:xs.length+ys.length<=big:=by
   by_cases z:xs.length+ys.length<=big
   ·exact z
   ·rw[if_neg z] at hs;exact absurd rfl hs
  rw[if_pos z];obtain⟨b,us,rfl,sq,q3⟩:=q1;cases r1;have l1:=s6.length;have l2:=q3.length;refine wpAny_mono (qCw I1 (x1 _ _ s5) (hK▸q0V.sqL sq) (Qt (by lia) q0W)) (λ w s4 I2=>?_) (λ _ _ z=>z);exact⟨_,.nx,σ,os,_,rfl,(B.mono x1).write s1 s2 (by simp) ⟨a',rfl,rfl,_,q0M,(s6.mono (q1E x1)).append q3⟩,I2,trivial⟩
 ·exact absurd rfl hs
theorem qJf {i:Nat}{st:PySem.Stmt}{l:Ev.S}(h:SS X p G sub st l):SS X p G sub st (.fz i l):=by
 intro H0 O0 E hp pins s σ H ρ os I B hs hE;rw[qJF] at hs hE |-;split at hs
 ·rename_i ks vs hρ;simp only[hρ] at hE |-;obtain⟨y,as,s1,s2,a,rfl,rfl,kvs,h1,h2,h3⟩:=B.at hρ;obtain⟨o,I2⟩:=qAw I h1;obtain⟨rep,B2⟩:=B.frzD (o:=o) s1 s2 h2 h3;exact h H0 O0 E hp pins s σ _ _ _ I2 B2 hs hE
 ·rename_i xs hρ;simp only[hρ] at hE |-;obtain⟨y',as,s1,s2,a,rfl,rfl,vs,h1,h2⟩:=B.at hρ;have ltj:i < ρ.length:=(Qc.mp hρ).1;have lto:i<os.length:=by rw[B.len];exact ltj
  have rep:Rep p (fz (os.set i []++[O0]).flatten H) (.lst xs) (.ref a):=⟨a,vs,rfl,SqL.of (q1N h1 (B.alone s2)),h2.mono (q2u (q7m lto))⟩
  have sg:σ.set i (some (.ref a))=σ:=by obtain⟨hl,e⟩:=Qc.mp s1;rw[<-e];exact List.set_getElem_self hl
  have B1:=B.setN (i:=i) (y:=some (.ref a)) ltj;rw[sg] at B1;have B2:=B1.setV (i:=i) (d:= .lst xs) (v:= .ref a) (by simpa using ltj) rep;rw[sg,List.set_set,List.set_set] at B2;exact h H0 O0 E hp pins s σ _ _ _ I B2 hs hE
 ·exact absurd rfl hs
end
end Snd
set_option maxHeartbeats 400000
namespace Snd
open PySem PySem.Spec PySem.W PyProof.Rows L2 Ev
variable {C:Ct}{n:Nat}{e a:PySem.Expr}{es:List PySem.Expr}{ls:List L}{X:Cx}{q pos:Pos}{l:L}
section
variable {k:Nat}{p:Pm}{G:Nat->List D->R D}{sub:Nat->Nat->Bool}
structure SoE (k:Nat) (p:Pm) (G:Nat->List D->R D) (sub:Nat->Nat->Bool) (n:Nat):Prop where
 E:∀(X:Cx) (C:Ct),CtOk k X C p G sub->∀e l,cE n C e=some l->SE X p G sub e l
 B:∀(X:Cx) (C:Ct),CtOk k X C p G sub->∀e l,cB n C e=some l->SB X p G sub e l
 Es:∀(X:Cx) (C:Ct),CtOk k X C p G sub->∀es ls,cEs n C es=some ls->SA X p G sub es ls
 Bo:∀(X:Cx) (C:Ct),CtOk k X C p G sub->∀op xs l,cBo n C op xs=some l->∀pos,SE X p G sub (.BoolOp op xs pos) l
 T:∀(X:Cx) (C:Ct),CtOk k X C p G sub->∀e t,cT n C e=some t->ST X p G sub e t
 To:∀(X:Cx) (C:Ct),CtOk k X C p G sub->∀op xs t,cTo n C op xs=some t->∀pos,ST X p G sub (.BoolOp op xs pos) t
 I:∀(X:Cx) (C:Ct),CtOk k X C p G sub->∀e i,cI n C e=some i->∀tg,(∃fr,SI X p G sub fr tg e i)/\(C.q7X e=false->SI X p G sub true tg e i)
 Call:∀(X:Cx) (C:Ct),CtOk k X C p G sub->∀f args l,qC6 n C f args=some l->C.glob f=true->ixOf f C.funs=none->∀q pos,SE X p G sub (.Call (.Name f q) args [] pos) l
theorem qHo:("str":Str)∈q08:=by unfold q08;simp
theorem qJg:("len":Str)∈q08:=by unfold q08;simp
theorem qJh:("sorted":Str)∈q08:=by unfold q08;simp
theorem qHp:("tuple":Str)∈q08:=by unfold q08;simp
theorem qJi:("list":Str)∈q08:=by unfold q08;simp
theorem qJj:("all":Str)∈q08:=by unfold q08;simp
theorem qHq:("int":Str)∈q08:=by unfold q08;simp
theorem qJk:("range":Str)∈q08:=by unfold q08;simp
theorem qJl:("isinstance":Str)∈q08:=by unfold q08;simp
theorem qHr:("set":Str)∈q08:=by unfold q08;simp
theorem qHs:("bool":Str)∈q08:=by unfold q08;simp
theorem qHt:("ValueError":Str)∈q08:=by unfold q08;simp
theorem q30 (h:cEs (n+1) C (e::es)=some ls):∃a l,cE n C e=some a/\cEs n C es=some l/\ls=a::l:=by obtain⟨a,g1,h⟩:=oB h;obtain⟨l,g2,h⟩:=oM h;exact⟨a,l,g1,g2,h.symm⟩
theorem q8t {ls:List Ev.T}(h:cTs (n+1) C (e::es)=some ls):∃a l,cT n C e=some a/\cTs n C es=some l/\ls=a::l:=by obtain⟨a,g1,h⟩:=oB h;obtain⟨l,g2,h⟩:=oM h;exact⟨a,l,g1,g2,h.symm⟩
theorem q8u {args:List PySem.Expr}(h:qGi C e=some args):∃q pos,e = .Call (.Name (Str.ofString "range") q) args [] pos/\C.glob (Str.ofString "range")=true:=by
 obtain⟨⟨f,as⟩,g1,h⟩:=oB h;dsimp only at h;split at h
 ·rename_i hf;obtain⟨rfl,hg,_⟩:=hf;cases h;obtain⟨q,pos,rfl⟩:=q8E g1;exact⟨_,_,rfl,hg⟩
 ·cases h
theorem qB9 {C:Ct}:∀{n:Nat}{es:List PySem.Expr}{ls:List L},cEs n C es=some ls->∀x∈es,okE x=true
 |0,es,ls,h=>by simp[cEs] at h
 |n+1,[],ls,h=>λ x hx=>absurd hx (by simp)
 |n+1,e::es,ls,h=>by
  obtain⟨a,l,g1,g2,rfl⟩:=q30 h;intro x hx;rcases Qh.mp hx with rfl|hx
  ·exact q7q g1
  ·exact qB9 g2 x hx
theorem q6s {env:PySem.Env}{pos:Pos}:∀{es:List PySem.Expr},(∀x∈es,okE x=true)->(backTo pos (starEach es env)).any (·.1)=false
 |[],_=>rfl
 |e::es,h=>by rw[q0w (h e (by simp))];show (false || (backTo pos (starEach es env)).any (·.1))=false;rw[q6s λ x hx=>h x (Qa _ hx)];rfl
theorem qCx {kk j:Nat}{f:Addr}{fd:FuncData}{ps:List Str}{x:Str}(F:FnOk X.prog X.w X.K X.mg X.base (CXs X.prog X.w X.K) kk f fd ps (spG p G j ps.length)) (hr:Room kk X.A)
  (hg:Gl X x) (hm:X.mg x=some (.ref f)) (hk:PySem.W.keepIn X.K (.ref f)=true) (hb:Binds X.K fd ps []) (ha:SA X p G sub (e::es) ls) (hlen:∀ds,G j ds ≠ .stuck->ds.length=ps.length)
  (hdb:(x==("__debug__":Str))=false) (he:starEach (e::es) X.env=(false,eval e X.env)::starEach es X.env) (hpl:(backTo pos (starEach es X.env)).any (·.1)=false):SE X p G sub (.Call (.Name x q) (e::es) [] pos) (.call j ls):=by
 intro pins s σ H ρ os I R hs;rw[q0B] at hs |-;refine wpAny_Call_Name_kw (q1w I hg hm ?_ hdb);refine PySem.W.callWith_K (h₀:=X.base) I.ok.mod.kin hk (wpAny_mono (ha pos pins s σ H ρ os I R (q07 hs)) (λ us s1 ⟨ds,vs,H1,e1,I1,r1,x1,q1⟩=>⟨I1.kIn,?_⟩) (λ e s' z=>z.bind)) he hpl;rw[e1,q00] at hs |-;exact wpAny_mono (qCa F hr hb I1 r1 (R.ext x1).nd (R.ext x1).th q1 (hlen ds hs) hs) (λ u s2 ⟨d,v,H2,e2,I2,rv,x2,q2⟩=>⟨d,v,H2,e2,I2,rv,x1.trans x2,q2⟩) (λ e s' z=>z.ext x1)
theorem qF9 {i:I}(h:cI n C e=some i):okE e=true:=by
 cases n with
 |zero=>cases h
 |succ n =>
  unfold cI at h;split at h
  ·rename_i args hr;obtain⟨q,pos,rfl,_⟩:=q8u hr;cases args with
   |cons a r=>rfl
   |nil=>rw[if_neg (by decide)] at h;cases h
  ·split at h
   ·rename_i x hx;obtain⟨q,rfl⟩:=q0I hx;rfl
   ·obtain⟨l,e1,_⟩:=oM h;exact q7q e1
theorem q6t (ih:∀m,m<n->∀(X:Cx) (C:Ct),CtOk k X C p G sub->∀e t,cT m C e=some t->ST X p G sub e t) (T:CtOk k X C p G sub) {ifs:List PySem.Expr}{ts:List Ev.T}(h:cTs n C ifs=some ts) (hl:ts.length<=1):STs X p G sub ifs ts:=by
 cases n with
 |zero=>simp[cTs] at h
 |succ n =>
  cases ifs with
  |nil=>simp[cTs] at h;exact .inl ⟨rfl,h⟩
  |cons c r =>
   obtain⟨a,l,g1,g2,rfl⟩:=q8t h;cases l with
   |cons _ _=>exact absurd hl (λ z=>Nat.not_succ_le_zero _ (Nat.le_of_succ_le_succ z))
   |nil =>
    cases r with
    |nil=>exact .inr ⟨c,a,rfl,rfl,ih n (Nat.lt_succ_self n) X C T _ _ g1⟩
    |cons c2 r2 =>
     cases n with
     |zero=>cases g2
     |succ n=>obtain⟨_,_,_,_,z⟩:=q8t g2;cases z
theorem q6u {tg:PySem.Expr}{kk:Nat}{ts:List Str}{s2:Shared}{H2:Hp}{sc:Scope}{cl:List (Str×Addr)}{C':Addr}{fp:List Addr}(hK:p.K=X.K) (hc:X.calm=true) (nd:(inN ts X.N).Nodup) (rl:∀x∈ts,sc.names.lookup x=some .local\/sc.names.lookup x=some .cell)
  (h:tgs tg=some (kk,ts)):SGc (cxC X s2 H2 sc cl C' (inN ts X.N) fp) p tg kk ts.length:=by
 have lo:∀x∈ts,Loc (cxC X s2 H2 sc cl C' (inN ts X.N) fp).env.scope x/\((cxC X s2 H2 sc cl C' (inN ts X.N) fp).fn x=true\/(cxC X s2 H2 sc cl C' (inN ts X.N) fp).env.scope.names.lookup x=some .local):=λ x hx=>by
  rcases rl x hx with z|z
  ·have:(relabel sc X.env).names.lookup x=some .local:=(by rw[q0Q,z];rfl);exact⟨.inl this,.inr this⟩
  ·have:(relabel sc X.env).names.lookup x=some .cell:=(by rw[q0Q,z];rfl);exact⟨.inr this,.inl (beq_iff_eq.mpr z)⟩
 unfold tgs at h;split at h
 ·cases h;have:=lo _ (Qb ..);exact qCT nd rfl this.1 this.2
 ·obtain⟨ab,h1,h⟩:=oB h;obtain⟨x,h2,h⟩:=oB h;obtain⟨y,h3,h⟩:=oM h;obtain⟨q1,e1⟩:=q0I h2;obtain⟨q2,e2⟩:=q0I h3;rw[q7U h1,e1,e2];cases h;have a1:=lo _ (Qb ..);have a2:=lo _ (Qa _ (Qb ..));exact qEo hK hc nd rfl a1.1 a1.2 rfl a2.1 a2.2
 ·cases h
theorem qDv {ops:List CmpOp}{cs:List PySem.Expr}(h:cE (n+1) C (.Compare a ops cs q)=some l):∃op b la lb,ops=[op]/\cs=[b]/\cB n C a=some la/\cB n C b=some lb/\l = .cm (cmOf op) la lb:=by obtain⟨op,h1,h⟩:=oB h;obtain⟨b,h2,h⟩:=oB h;obtain⟨la,g1,h⟩:=oB h;obtain⟨lb,g2,h⟩:=oM h;exact⟨op,b,la,lb,q0z h1,q0z h2,g1,g2,h.symm⟩
theorem qHu {ops:List CmpOp}{cs:List PySem.Expr}(h:cB n C (.Compare a ops cs q)=some l):∃m op b la lb,m<n/\ops=[op]/\cs=[b]/\cB m C a=some la/\cB m C b=some lb/\l = .cm (cmOf op) la lb:=by
 cases n with
 |zero=>cases h
 |succ n =>
  cases n with
  |zero=>cases h
  |succ n =>
   obtain⟨op,b,la,lb,z⟩:=qDv (q:=q) h;exact⟨n,op,b,la,lb,Qv (Nat.lt_succ_self n) (Jg _),z⟩
noncomputable def plainT:PySem.Expr->Bool
 | .BoolOp _ _ _=>false
 | .UnaryOp .Not _ _=>false
 | .IfExp _ _ _ _=>false
 | .Compare _ _ _ _=>false
 |_=>true
theorem qCy {env:PySem.Env}(h:plainT e=true):∀whole,isTrue e env whole=(do let v <-whole;standAt e.pos;holding [v] (truthy v)):=by
 intro whole;cases e<;>first|(cases h;done)|skip
 all_goals first|(with_unfolding_all rfl;done)|(rename_i op _ _;cases op<;>first|(cases h;done)|(with_unfolding_all rfl))
theorem qFA (h:plainT e=true):q7V e=false:=by
 cases e<;>first|rfl|(cases h;done)|skip
 rename_i op _ _;cases op<;>first|rfl|(cases h;done)
theorem q7s (h:cEs n C []=some ls):ls=[]:=by
 cases n with
 |zero=>cases h
 |succ n=>cases h;rfl
theorem qBA (h:cEs n C [a]=some ls):∃l,ls=[l]:=by
 cases n with
 |zero=>cases h
 |succ n =>
  obtain⟨l,_,_,g2,rfl⟩:=q30 h;rw[q7s g2];exact⟨_,rfl⟩
theorem qFB {b:PySem.Expr}(h:cEs n C [a,b]=some ls):∃l m,ls=[l,m]:=by
 cases n with
 |zero=>cases h
 |succ n =>
  obtain⟨l,_,_,g2,rfl⟩:=q30 h;obtain⟨m,rfl⟩:=qBA g2;exact⟨_,_,rfl⟩
theorem qBB {f:Str}{b:Bi}{la:L}(T:CtOk k X C p G sub) (h:bi1 f=some b) (hg:Gl X f) (hd:(f==("__debug__":Str))=false) (ha:SB X p G sub a la) (hst:starEach [a] X.env=[(false,eval a X.env)]):SE X p G sub (.Call (.Name f q) [a] [] pos) (.bi b [la]):=by
 unfold bi1 at h;split at h
 ·rename_i e;cases h;subst e;exact qDn (qHM T.K) hg (T.blt _ qJg) PySem.boot_len ha (by decide) hd hst
 split at h
 ·rename_i e;cases h;subst e;exact q7j (qCU T.K) hg (T.blt _ qHp) PyProof.Rows.boot_tuple ha (by decide) hd hst
 split at h
 ·rename_i e;cases h;subst e;exact qDn (qHP T.K T.calm) hg (T.blt _ qJj) PyProof.Rows.boot_all ha (by decide) hd hst
 split at h
 ·rename_i e;cases h;subst e;exact q7j qHO hg (T.blt _ qHq) PyProof.Rows.boot_int ha (by decide) hd hst
 split at h
 ·rename_i e;cases h;subst e;exact q7j qHN hg (T.blt _ qHo) PyProof.Rows.boot_str ha (by decide) hd hst
 ·cases h
theorem q9e {c:Str}{b:Bi}{la:L}{q2:Pos}(T:CtOk k X C p G sub) (h:isOf C c=some b) (hg:Gl X "isinstance") (ha:SB X p G sub a la) (hst:starEach [a,.Name c q2] X.env=[(false,eval a X.env),(false,eval (.Name c q2) X.env)]):SE X p G sub (.Call (.Name "isinstance" q) [a,.Name c q2] [] pos) (.bi b [la]):=by
 have hm:=T.blt _ qJl;unfold isOf at h;split at h
 ·rename_i hgc;obtain⟨g1,g2⟩:=T.glob hgc;split at h
  ·rename_i e;cases h;subst e;exact q3N (qHb T.K) hg hm ha (λ E Q pins s σ H I hq=>q1r I g1 (T.blt _ qHp) PyProof.Rows.boot_tuple hq (by decide) g2) hst
  split at h
  ·rename_i e;cases h;subst e;exact q3N (qHc T.K) hg hm ha (λ E Q pins s σ H I hq=>q1r I g1 (T.blt _ qJi) PyProof.Rows.boot_list hq (by decide) g2) hst
  split at h
  ·rename_i e;cases h;subst e;exact q3N qHd hg hm ha (λ E Q pins s σ H I hq=>q1r I g1 (T.blt _ qHq) PyProof.Rows.boot_int hq (by decide) g2) hst
  split at h
  ·rename_i e;cases h;subst e;exact q3N qEz hg hm ha (λ E Q pins s σ H I hq=>q1r I g1 (T.blt _ qHs) PyProof.Rows.boot_bool hq (by decide) g2) hst
  split at h
  ·rename_i e;cases h;subst e;exact q3N (qHe T.exok) hg hm ha (λ E Q pins s σ H I hq=>q1r I g1 (T.blt _ qHt) (by decide +kernel) hq (by decide) g2) hst
  ·obtain⟨kk,e1,rfl⟩:=oM h;obtain⟨Cc,hc1,hc2⟩:=T.excs kk c (q0l e1);exact q3N (qHf (Cc:=Cc) λ e Ce he=>⟨(T.exok e Ce he).1,(T.exm e kk Ce Cc he hc1).2⟩) hg hm ha (λ E Q pins s σ H I hq=>q1w I g1 hc2.bound hq g2) hst
 ·cases h
theorem q5A {elt:PySem.Expr}{gs:List Comprehension}{sc:Scope}(h:cE (n+1) C (.ListComp elt gs sc pos)=some l):∃tg it ifs kk ts li le lc,gs=[⟨tg,it,ifs,0⟩]/\tgs tg=some (kk,ts)/\cI n C it=some li/\cE n (C.inner ts sc) elt=some le/\cTs n (C.inner ts sc) ifs=some lc/\C.scOk ts sc=true/\lc.length<=1/\l = .comp kk le li lc:=by
 obtain⟨g,hg,h⟩:=oB h;split at h
 ·rename_i ha;obtain⟨⟨kk,ts⟩,htg,h⟩:=oB h;obtain⟨li,c1,h⟩:=oB h;obtain⟨le,c2,h⟩:=oB h;obtain⟨lc,c3,h⟩:=oB h;split at h
  ·rename_i hsc;cases h;rw[Qg,decide_eq_true_eq] at hsc;obtain⟨tg,it,ifs,a⟩:=g;cases ha;exact⟨tg,it,ifs,kk,ts,li,le,lc,q0z hg,htg,c1,c2,c3,hsc.1,hsc.2,rfl⟩
  ·cases h
 ·cases h
theorem sound (hset:SSet):∀n,SoE k p G sub n:=by
 intro n
 induction n using Nat.strongRecOn with
 |ind n ih =>
  cases n with
  |zero =>
   refine⟨λ X C T e l h=>?_,λ X C T e l h=>?_,λ X C T e l h=>?_,λ X C T op e l h=>?_,λ X C T e l h=>?_,λ X C T op e l h=>?_,λ X C T e l h=>?_,λ X C T f a l h=>?_⟩
   all_goals cases h
  |succ n =>
   have ihn:=ih n (Nat.lt_succ_self n);have hE:∀(X:Cx) (C:Ct),CtOk k X C p G sub->∀e l,cE (n+1) C e=some l->SE X p G sub e l:=by
    intro X C T e l h;cases e with
    |Constant c j pos =>
     obtain⟨d,e1,rfl⟩:=oM h;exact q8X e1
    |Name x pos =>
     unfold cE at h;dsimp only at h;split at h
     ·rename_i hv;split at h
      ·cases h
      ·obtain⟨i,e1,rfl⟩:=oM h;obtain⟨v1,v2,v3⟩:=T.vis hv;exact qDi (T.at e1) v1 v2 v3
     ·split at h
      ·rename_i hg;obtain⟨d,e1,rfl⟩:=oM h;obtain⟨a,t,rfl,hm⟩:=T.consts x d e1;obtain⟨g1,g2⟩:=T.glob hg;exact qEe (v:= .int a) g1 hm ⟨t,rfl⟩ (λ _=>rfl) g2
      ·cases h
    |BinOp a op b pos =>
     obtain⟨o,e1,h⟩:=oB h;obtain⟨la,e2,h⟩:=oB h;obtain⟨lb,e3,rfl⟩:=oM h;exact qJW T.K e1 (ihn.B X C T _ _ e2) (ihn.B X C T _ _ e3)
    |Compare a ops bs pos =>
     obtain⟨op,b,la,lb,rfl,rfl,e2,e3,rfl⟩:=qDv h;exact qJX T.K T.hu (qB7 (q4V e3)) (ihn.B X C T _ _ e2) (ihn.B X C T _ _ e3)
    |UnaryOp op a pos =>
     cases op with
     |Not =>
      obtain⟨d,e1,rfl⟩:=oM h;exact qHC T.K (ihn.B X C T _ _ e1)
     |USub =>
      obtain⟨d,e1,rfl⟩:=oM h;exact qH6 (ihn.E X C T _ _ e1)
     |_=>cases h
    |BoolOp op xs pos=>exact ihn.Bo X C T _ _ _ h _
    |IfExp c a b pos =>
     obtain⟨lc,e1,h⟩:=oB h;obtain⟨la,e2,h⟩:=oB h;obtain⟨lb,e3,rfl⟩:=oM h;exact qHD (ihn.T X C T _ _ e1) (ihn.E X C T _ _ e2) (ihn.E X C T _ _ e3)
    |Tuple xs j pos =>
     obtain⟨d,e1,rfl⟩:=oM h;exact qHF (ihn.Es X C T _ _ e1)
    |List xs pos =>
     obtain⟨d,e1,rfl⟩:=oM h;exact qHG (ihn.Es X C T _ _ e1)
    |Subscript a i pos =>
     have hix:∀i,(cB n C a).bind (λ a=>(cE n C i).map (.idx a))=some l->SE X p G sub (.Subscript a i pos) l:=λ i h=>by obtain⟨la,e1,h⟩:=oB h;obtain⟨li,e2,rfl⟩:=oM h;exact qH5 T.K T.hu (qJe (q7q e2)) (ihn.B X C T _ _ e1) (ihn.E X C T _ _ e2).b
     cases i with
     |Slice lo hi st p2 =>
      obtain⟨kk,e1,h⟩:=oB h;obtain⟨la,e2,h⟩:=oB h;obtain⟨llo,e3,h⟩:=oB h;obtain⟨lhi,e4,h⟩:=oB h;split at h
      ·rename_i hc;cases h;have so:∀(o:Option PySem.Expr) (ls:List L),cEs n C o.toList=some ls->SO X p G sub o ls:=by
        intro o ls ho;cases o with
        |none=>exact .inl ⟨rfl,q7s ho⟩
        |some e =>
         cases n with
         |zero=>cases ho
         |succ n =>
          obtain⟨l1,l2,g1,g2,rfl⟩:=q30 ho;rw[q7s g2];exact .inr ⟨e,l1,rfl,rfl,(ih n (Qv (Nat.lt_succ_self n) (Jg _))).E X C T _ _ g1⟩
       have hn:∀(o:Option PySem.Expr) (ls:List L),cEs n C o.toList=some ls->ls.isEmpty=true->o=none/\ls=[]:=by
        intro o ls ho hl;rcases so o ls ho with ⟨z1,z2⟩|⟨_,_,_,z2,_⟩
        ·exact⟨z1,z2⟩
        ·rw[z2] at hl;cases hl
       unfold qDY at e1;split at e1
       ·cases e1;exact qCp T.K (ihn.B X C T _ _ e2) (so _ _ e3) (so _ _ e4)
       ·cases e1;have hc:=hc.resolve_left (by decide);obtain⟨rfl,rfl⟩:=hn _ _ e3 hc.1;obtain⟨rfl,rfl⟩:=hn _ _ e4 hc.2;exact qHj T.K (ihn.B X C T _ _ e2)
       ·cases e1;have hc:=hc.resolve_left (by decide);obtain⟨rfl,rfl⟩:=hn _ _ e3 hc.1;obtain⟨rfl,rfl⟩:=hn _ _ e4 hc.2;exact qCq T.K (ihn.B X C T _ _ e2)
       ·cases e1
      ·cases h
     |_=>exact hix _ h
    |Call gg args kws pos =>
     cases gg with
     |Name f q =>
      unfold cE at h;dsimp only at h;split at h
      ·rename_i hg;obtain⟨g1,g2⟩:=T.glob hg;split at h
       ·rename_i i hi;split at h
        ·rename_i hne;obtain⟨hk0,hne⟩:=hne;obtain⟨ls,e1,rfl⟩:=oM h;obtain⟨fa,fd,ps,F,hm,hk,hb,hlen⟩:=T.funs i f (q0l hi);have SAs:=ihn.Es X C T _ _ e1;cases Q0.mp hk0;cases args with
         |nil=>exact absurd rfl hne
         |cons a r =>
          have oks:∀x∈a::r,okE x=true:=qB9 e1;exact qCx F (T.room.mono (Nat.le_add_right _ _)) g1 hm hk hb SAs hlen g2 (q0w (oks a (Qb ..))) (q6s λ x hx=>oks x (Qa _ hx))
        ·cases h
       ·rename_i hi;split at h
        ·rename_i hk0;cases Q0.mp hk0;exact ihn.Call X C T f args l h hg hi q pos
        ·cases h
      ·cases h
     |Attribute o m ap =>
      unfold cE at h;dsimp only at h;split at h
      ·rename_i hline;obtain⟨hk0,hline⟩:=hline;cases Q0.mp hk0;obtain⟨lo,e1,h1⟩:=oB h;clear h
       ·obtain⟨y,hy,h⟩:=oB h1;clear h1;cases q0z hy;have meth2:∀{y:PySem.Expr}{lo l:L},(if m=Str.ofString "join" then (strC o).bind λ x=>(cB n C y).map λ y=>L.bi .join [.con (.str x),y] else if m=Str.ofString "index" then (Expr.isName y).bind λ x=>if C.vis x/\x∉C.muts then (ixOf x C.N).map λ i=>L.bi .index [lo,.var i] else none else none)=some l->cB n C o=some lo->(ap.endLine==pos.line)=true->SE X p G sub (.Call (.Attribute o m ap) [y] [] pos) l:=λ {y lo l} h e1 hline=>by
         split at h
         ·rename_i hm;obtain⟨x,g1,h⟩:=oB h;obtain⟨ly,g2,rfl⟩:=oM h;subst hm;obtain⟨kk,qq,rfl⟩:=q7W g1;have hx:q2j (.str x)=some (.str x):=by
           cases n with
           |zero=>cases e1
           |succ n =>
            have e1:cE n C (.Constant (.str x) kk qq)=some lo:=e1;cases n with
            |zero=>cases e1
            |succ n =>
             obtain⟨d,g3,_⟩:=oM (show (q2j (.str x)).map L.con=some lo from e1);have g3':=g3;unfold q2j at g3;dsimp only at g3;split at g3
             ·cases g3;exact g3'
             ·cases g3
          exact qF6 T.K hx hline (ihn.B X C T _ _ g2) (q0w (q4V g2))
         ·split at h
          ·rename_i hm;obtain⟨x,g1,h⟩:=oB h;split at h
           ·rename_i hv;obtain⟨i,g2,rfl⟩:=oM h;subst hm;obtain⟨qq,rfl⟩:=q0I g1;obtain⟨v1,v2,v3⟩:=T.vis hv.1;exact qB5 T.K T.hu (q4U (q4V e1)) hline (ihn.B X C T _ _ e1) (qDi (by rw[T.N];exact q0l g2) v1 v2 v3)
           ·cases h
          ·cases h
        cases y with
        |Constant c j q =>
         obtain⟨d,e2,h1⟩:=oB h;clear h;have h:=h1;clear h1;split at h
         ·rename_i hm;cases h;subst hm;exact qCj T.K T.hu e2 (q4U (q4V e1)) hline (ihn.B X C T _ _ e1)
         ·split at h
          ·rename_i hm;cases h;subst hm;exact qCk T.K T.hu e2 (q4U (q4V e1)) hline (ihn.B X C T _ _ e1)
          ·split at h
           ·rename_i hm;cases h;subst hm;exact qCu e2 (q4U (q4V e1)) hline (ihn.B X C T _ _ e1)
           ·split at h
            ·rename_i hm;cases h;subst hm;exact qCt e2 (q4U (q4V e1)) hline (ihn.B X C T _ _ e1)
            ·cases h
        |_=>exact meth2 h e1 hline
      ·cases h
     |_=>cases h
    |JoinedStr xs pos =>
     obtain⟨ab,g1,h1⟩:=oB h;clear h;have h:=h1;clear h1;obtain⟨ea,eb⟩:=ab;cases q7U g1;dsimp only at h;split at h
     ·rename_i x hx;split at h
      ·rename_i hxl;obtain⟨e,g2,h⟩:=oB h;obtain⟨l',g3,rfl⟩:=oM h;obtain⟨kk,qq,rfl⟩:=q7W hx;obtain⟨qf,rfl⟩:=qAF g2;exact qF7 hxl (ihn.E X C T _ _ g3)
      ·cases h
     ·obtain⟨e,g2,h⟩:=oB h;obtain⟨y,g4,h⟩:=oB h;obtain⟨l',g3,rfl⟩:=oM h;obtain⟨kk,qq,rfl⟩:=q7W g4;obtain⟨qf,rfl⟩:=qAF g2;exact qF8 (ihn.E X C T _ _ g3)
    |ListComp elt gs sc pos =>
     obtain⟨tg,it,ifs,kk,ts,li,le,lc,rfl,htg,e1,e2,e3,hsc1,hsc2,rfl⟩:=q5A h;obtain⟨S,ndN,hloc,inner⟩:=T.inner hsc1;obtain⟨fr,hi⟩:=(ihn.I X C T _ _ e1 tg).1;obtain⟨LL,TF⟩:=T.top;refine qEv TF T.calm S hi (λ s2 H2 cl C' fp=>ihn.E _ _ (inner s2 H2 cl C' fp) _ _ e2) (λ s2 H2 cl C' fp=>q6t (λ m hm X C T e t h=>(ih m (Nat.lt_succ_of_lt hm)).T X C T e t h) (inner s2 H2 cl C' fp) e3 hsc2) (λ s2 H2 cl C' fp=>?_) (q7p (qF9 e1));exact q6u T.K T.calm ndN hloc htg
    |_=>cases h
   have hB:∀(X:Cx) (C:Ct),CtOk k X C p G sub->∀e l,cB (n+1) C e=some l->SB X p G sub e l:=by
    intro X C T e l h;unfold cB at h;split at h
    ·rename_i x q;split at h
     ·rename_i hv;obtain⟨i,e1,rfl⟩:=oM h;obtain⟨v1,v2,v3⟩:=T.vis hv.1;exact qDj (T.at e1) v1 v2 v3
     ·exact (ihn.E X C T _ _ h).b
    ·exact (ihn.E X C T _ _ h).b
   refine⟨hE,hB,λ X C T es ls h=>?_,λ X C T op xs l h pos=>?_,λ X C T e t h=>?_,λ X C T op xs t h pos=>?_,λ X C T e i h tg=>?_,λ X C T f args l h hg hi q pos=>?_⟩
   ·cases es with
    |nil=>cases h;exact qHE
    |cons e es =>
     obtain⟨a,l,g1,g2,rfl⟩:=q30 h;exact qEg (ihn.E X C T _ _ g1) (ihn.Es X C T _ _ g2) (q0w (q7q g1))
   ·cases xs with
    |nil=>cases h
    |cons a r =>
     cases r with
     |nil =>
      exact qHA (ihn.E X C T _ _ h)
     |cons b r =>
      obtain⟨la,g1,h⟩:=oB h;obtain⟨lb,g2,rfl⟩:=oM h;cases op with
      |And=>exact qHB (ihn.E X C T _ _ g1) (ihn.Bo X C T _ _ _ g2 _)
      |Or=>exact qJa (ihn.E X C T _ _ g1) (ihn.Bo X C T _ _ _ g2 _)
   ·unfold cT at h;split at h
    ·exact ihn.To X C T _ _ _ h _
    ·obtain⟨a,e1,rfl⟩:=oM h;exact qH7 (ihn.T X C T _ _ e1)
    ·cases h
    ·rename_i x1 x2 x3;obtain⟨a,e1,rfl⟩:=oM h
     by_cases hcmp:∃l0 ops cs q0,e = .Compare l0 ops cs q0
     ·obtain⟨l0,ops,cs,q0,rfl⟩:=hcmp;obtain⟨m,op,b,la,lb,hm,rfl,rfl,g1,g2,rfl⟩:=qHu e1;exact qJY T.K T.hu (qB7 (q4V g2)) ((ih m (by lia)).B X C T _ _ g1) ((ih m (by lia)).B X C T _ _ g2)
     ·have pt:plainT e=true:=by
       cases e<;>first|rfl|skip
       ·exact absurd rfl (x1 _ _ _)
       ·rename_i op a q;cases op<;>first|rfl|exact absurd rfl (x2 _ _)
       ·exact absurd rfl (x3 _ _ _ _)
       ·exact absurd ⟨_,_,_,_,rfl⟩ hcmp
      exact st_e T.K (qCy pt) (qFA pt) (ihn.B X C T _ _ e1)
   ·cases xs with
    |nil=>cases h
    |cons a r =>
     cases r with
     |nil =>
      cases op with
      |And=>exact qEf (ihn.T X C T _ _ h)
      |Or=>exact qH8 (ihn.T X C T _ _ h)
     |cons b r =>
      obtain⟨la,g1,h⟩:=oB h;obtain⟨lb,g2,rfl⟩:=oM h;cases op with
      |And=>exact qH9 (ihn.T X C T _ _ g1) (ihn.To X C T _ _ _ g2 _)
      |Or=>exact qJZ (ihn.T X C T _ _ g1) (ihn.To X C T _ _ _ g2 _)
   ·have plain:(cE n C e).map I.e=some i->(∃fr,SI X p G sub fr tg e i)/\(C.q7X e=false->SI X p G sub true tg e i):=λ h=>by obtain⟨l,e1,rfl⟩:=oM h;exact⟨⟨true,si_e T.K (ihn.E X C T _ _ e1)⟩,λ _=>si_e T.K (ihn.E X C T _ _ e1)⟩
    unfold cI at h;split at h
    ·rename_i args hr;obtain⟨q,pos,rfl,hg⟩:=q8u hr;obtain⟨g1,g2⟩:=T.glob hg;have hm:=T.blt _ qJk;split at h
     ·obtain⟨ls,e1,rfl⟩:=oM h;have SAs:=ihn.Es X C T _ _ e1;have oks:=qB9 e1;cases args with
      |nil=>rename_i z;exact absurd z (by decide)
      |cons a r =>
       have s1:=q0w (es:=r) (env:=X.env) (oks a (Qb ..));cases r with
       |nil =>
        obtain⟨la,rfl⟩:=qBA e1;exact⟨⟨true,q6W g1 hm SAs s1⟩,λ _=>q6W g1 hm SAs s1⟩
       |cons b r =>
        cases r with
        |nil =>
         obtain⟨la,lb,rfl⟩:=qFB e1;have s2:starEach [b] X.env=[(false,eval b X.env)]:=q0w (oks b (Qa _ (Qb ..)));rw[s2] at s1;exact⟨⟨true,q6X g1 hm SAs s1 s2⟩,λ _=>q6X g1 hm SAs s1 s2⟩
        |cons _ _=>rename_i z;exact z.elim (λ z=>nomatch z) λ z=>nomatch z
     ·cases h
    ·split at h
     ·rename_i x hx;obtain⟨q,rfl⟩:=q0I hx;split at h
      ·rename_i hv;obtain⟨i,e1,rfl⟩:=oM h;obtain⟨v1,v2,v3⟩:=T.vis hv.1;refine⟨⟨false,si_b T.K (T.at e1) v1 v2 v3⟩,λ hmu=>?_⟩;exact absurd hv.2 (of_decide_eq_false hmu)
      ·exact plain h
     ·exact plain h
   ·obtain⟨gf,gd⟩:=T.glob hg;have one:∀a l,((bi1 f).bind λ b=>(cB n C a).map λ a=>L.bi b [a])=some l->SE X p G sub (.Call (.Name f q) [a] [] pos) l:=by intro a l h;obtain⟨b,g1,h⟩:=oB h;obtain⟨la,g2,rfl⟩:=oM h;exact qBB T g1 gf gd (ihn.B X C T _ _ g2) (q0w (q4V g2))
    cases args with
    |nil=>cases h
    |cons y r =>
     cases r with
     |nil =>
      unfold qC6 at h;dsimp only at h;split at h
      ·rename_i g a hy;obtain⟨q2,q3,rfl⟩:=q3G hy;split at h
       ·rename_i hf;obtain⟨rfl,rfl,hgs,hfs⟩:=hf;obtain⟨la,e1,rfl⟩:=oM h;exact hset X p G sub a la q q2 q3 pos T.K T.calm T.hu (T.blt _ qJh) (T.blt _ qHr) (ihn.B X C T _ _ e1) (q4V e1) gf (T.glob hgs).1
       ·exact one _ _ h
      ·exact one _ _ h
     |cons y2 r =>
      cases r with
      |nil =>
       unfold qC6 at h;dsimp only at h;split at h
       ·rename_i hf;subst hf;obtain⟨c,hc,h⟩:=oB h;obtain⟨la,g1,h⟩:=oB h;obtain⟨b,g2,rfl⟩:=oM h;obtain⟨q2,rfl⟩:=q0I hc;exact q9e T g2 gf (ihn.B X C T _ _ g1) (by rw[q0w (q4V g1)];rfl)
       ·cases h
      |cons _ _=>cases h
end
end Snd
namespace Snd
open PySem PySem.Spec PySem.W PyProof.Rows L2 Ev
variable {v e:PySem.Expr}{x:Str}{pos:Pos}{l:Ev.S}
section
variable {k n:Nat}{X:Cx}{C:Ct}{p:Pm}{G:Nat->List D->R D}{sub:Nat->Nat->Bool}
structure BdOk (X:Cx):Prop where
 top:Top X
 fn:∀x,X.fn x=true
 kf:X.env.scope.kind = .function
theorem q8v {tg:Option PySem.Expr}{ln:Nat}{env:PySem.Env}(h:∀e g s q,v ≠ .ListComp e g s q) (h1:∀e g s q,v ≠ .SetComp e g s q) (h2:∀e w g s q,v ≠ .DictComp e w g s q):swapsWith v tg ln env=pure false:=by
 cases v<;>first
  |rfl
  |exact absurd rfl (h _ _ _ _)
  |exact absurd rfl (h1 _ _ _ _)
  |exact absurd rfl (h2 _ _ _ _ _)
theorem q3z {n:Nat}{C:Ct}{l:L}(h:cE n C v=some l):(∀e g s q,v ≠ .SetComp e g s q)/\∀e w g s q,v ≠ .DictComp e w g s q:=by
 cases n with
 |zero=>cases h
 |succ n=>exact⟨λ e g s q z=>(by subst z;cases h),λ e w g s q z=>(by subst z;cases h)⟩
theorem qFC {q:Pos}{ln:Nat}{env:PySem.Env}{n:Nat}{C:Ct}{l:L}(h:cE n C v=some l):swapsWith v (some (.Name x q)) ln env=pure false\/∃e g s q',v = .ListComp e g s q'/\swapsWith v (some (.Name x q)) ln env=pure true:=by
 by_cases hc:∃e g s q,v = .ListComp e g s q
 ·obtain⟨e,g,s,q',rfl⟩:=hc;have hp:∃b,swapsWith (.ListComp e g s q') (some (.Name x q)) ln env=pure b:=⟨_,rfl⟩
  obtain⟨b,hb⟩:=hp;cases b with
  |false=>exact .inl hb
  |true=>exact .inr ⟨e,g,s,q',rfl,hb⟩
 ·exact .inl (q8v (λ e g s q z=>hc ⟨e,g,s,q,z⟩) (q3z h).1 (q3z h).2)
theorem q5o (h:q9R e=true):∃y:Str,JP X e y/\y.length<=1000:=by
 cases e<;>first
  |(cases h;done)
  |skip
 rename_i c j q;cases c<;>first
  |(cases h;done)
  |exact⟨_,qDs,of_decide_eq_true h⟩
theorem qCz (T:CtOk k X C p G sub) (h:C.qEN e=true):∃y:Str,JP X e y/\y.length<=1000:=by
 unfold Ct.qEN at h;split at h
 ·rw[Qg,Qg,decide_eq_true_eq,Q4] at h;obtain⟨⟨rfl,rfl⟩,h⟩:=h;split at h
  ·rename_i y hy;obtain⟨q,rfl⟩:=q0I hy;rw[Qg] at h;obtain⟨h1,h3⟩:=h;obtain⟨g1,g2⟩:=T.glob h1;split at h3
   ·rename_i a e1;rw[Qg,decide_eq_true_eq,decide_eq_true_eq] at h3;obtain⟨a',t,ea,hm⟩:=T.consts _ _ e1;cases ea;exact⟨_,qHW g1 hm g2 h3.1,h3.2⟩
   ·cases h3
  ·cases h
 ·cases h
theorem q31 (x:Str):(Str.empty++x).length=x.length:=by rw[q04];show 0+x.length=_;omega
theorem qD0 (T:CtOk k X C p G sub) (h:C.qC7 e=true):SM X e:=by
 have big:(3000:Nat)<=sizeLine:=by rw[sizeLine_eq];decide
 unfold Ct.qC7 at h;split at h
 ·split at h
  ·rename_i a b r;rw[Qg,Qg] at h;obtain⟨x,j1,l1⟩:=q5o (X:=X) h.1.1;obtain⟨y,j2,l2⟩:=qCz T h.1.2;have h3:=h.2;split at h3
   ·exact qHY j1 j2 (by rw[q31];lia) (by rw[q04,q31];lia)
   ·obtain⟨z,j3,l3⟩:=q5o (X:=X) h3;exact qCd j1 j2 j3 (by rw[q31];lia) (by rw[q04,q31];lia) (by rw[q04,q04,q31];lia)
   ·cases h3
  ·cases h
 ·obtain⟨x,j1,l1⟩:=q5o (X:=X) h;exact λ E pins σ H s I=>wpAny_mono (j1 E pins σ H s I) (λ _ _ h=>h.2) λ _ _ z=>z
theorem qD1 (h:C.qC7 e=true):okE e=true:=by cases e<;>first|rfl|(cases h;done)
theorem q4W {C:Ct}{t:Str}{ts:List Str}{is:List Nat}(h:mapO C.loc (t::ts)=some is):∃b m,C.loc t=some b/\mapO C.loc ts=some m/\is=b::m:=by obtain⟨b,g1,h⟩:=oB h;obtain⟨m,g2,h⟩:=oM h;exact⟨b,m,g1,g2,h.symm⟩
theorem qFD (T:CtOk k X C p G sub) (B:BdOk X) {tg:PySem.Expr}{kk:Nat}{ts:List Str}{is:List Nat}(h:tgs tg=some (kk,ts)) (hm:mapO C.loc ts=some is):SG X p tg kk is:=by
 have hN:X.N.Nodup:=by rw[T.N];exact T.nd
 unfold tgs at h;split at h
 ·cases h;obtain⟨i,_,e2,z,rfl⟩:=q4W hm;cases z;obtain⟨l1,l2⟩:=T.loc e2;exact qEm hN l2 l1 (.inl (B.fn _))
 ·obtain⟨ab,h1,h⟩:=oB h;obtain⟨x,h2,h⟩:=oB h;obtain⟨y,h3,h⟩:=oM h;obtain⟨q1,e1⟩:=q0I h2;obtain⟨q2,e2⟩:=q0I h3;rw[q7U h1,e1,e2];cases h;obtain⟨i,_,e2,z,rfl⟩:=q4W hm;obtain⟨j,_,e4,z2,rfl⟩:=q4W z;cases z2;obtain⟨l1,l2⟩:=T.loc e2;obtain⟨l3,l4⟩:=T.loc e4;exact qHK T.K T.calm hN l2 l1 (.inl (B.fn _)) l4 l3 (.inl (B.fn _))
 ·cases h
structure SoS (k:Nat) (p:Pm) (G:Nat->List D->R D) (sub:Nat->Nat->Bool) (n:Nat):Prop where
 S:∀(X:Cx) (C:Ct),CtOk k X C p G sub->BdOk X->∀s l,cS n C s=some l->SS X p G sub s l
 Ss:∀(X:Cx) (C:Ct),CtOk k X C p G sub->BdOk X->∀s l,cSs n C s=some l->SSs X p G sub s l
theorem qBC (so:SoE k p G sub n) (so':∀m,SoE k p G sub m) (T:CtOk k X C p G sub) (B:BdOk X) {xp:Pos}{i:Nat}(hl:C.loc x=some i) (h:(cE n C v).map (S.set i)=some l):SS X p G sub (.Assign [.Name x xp] v pos) l:=by
 have hN:X.N.Nodup:=by rw[T.N];exact T.nd
 obtain⟨l1,l2⟩:=T.loc hl;have hf:X.fn x=true\/X.env.scope.names.lookup x=some .local:= .inl (B.fn _);obtain⟨lv,e1,rfl⟩:=oM h;rcases qFC (x:=x) (q:=xp) (ln:=pos.line) (env:=X.env) e1 with z|⟨el,gs,sc,q',rfl,z⟩
 ·exact qHI hN l2 l1 hf (so.E X C T _ _ e1) z
 ·cases n with
  |zero=>cases e1
  |succ m =>
   obtain⟨tg,it,ifs,kk,ts,li,le,lc,rfl,htg,c1,c2,c3,hsc,hlen,rfl⟩:=q5A e1;obtain⟨S,ndN,hloc,inner⟩:=T.inner hsc;obtain⟨fr,hi⟩:=((so' m).I X C T _ _ c1 tg).1;obtain⟨LL,TF⟩:=T.top;refine qEw TF T.calm S hi (λ s2 H2 cl C' fp=>(so' m).E _ _ (inner s2 H2 cl C' fp) _ _ c2) (λ s2 H2 cl C' fp=>q6t (λ m' _ X C T e t h=>(so' m').T X C T e t h) (inner s2 H2 cl C' fp) c3 hlen) (λ s2 H2 cl C' fp=>?_) (q7p (qF9 c1)) hN l2 l1 hf z;exact q6u T.K T.calm ndN hloc htg
theorem qD2 (so:SoE k p G sub n) (so':∀m,SoE k p G sub m) (T:CtOk k X C p G sub) (B:BdOk X) {xp:Pos}(h0:cAsg C (cE n C) (cEs n C) [.Name x xp] v=some l):SS X p G sub (.Assign [.Name x xp] v pos) l:=by
 have hN:X.N.Nodup:=by rw[T.N];exact T.nd
 obtain⟨i,hl,h⟩:=oB (show ((C.loc x).bind λ i=>if x∈C.muts then qGj C (cE n C) (cEs n C) i v else (cE n C v).map (.set i))=some l from h0);obtain⟨l1,l2⟩:=T.loc hl;have hf:X.fn x=true\/X.env.scope.names.lookup x=some .local:= .inl (B.fn _);split at h
 ·cases v with
  |List xs q =>
   obtain⟨ls,e1,rfl⟩:=oM h;exact qF1 hN l2 l1 hf (so.Es X C T _ _ e1)
  |_=>cases h
 ·exact qBC so so' T B hl h
theorem qHv (so:SoE k p G sub n) (so':∀m,SoE k p G sub m) (T:CtOk k X C p G sub) (B:BdOk X) {ts:List PySem.Expr}(h:cAsg C (cE n C) (cEs n C) ts v=some l):SS X p G sub (.Assign ts v pos) l:=by
 obtain⟨t,ht,h1⟩:=oB h;cases q0z ht;cases t with
 |Name x xp=>exact qD2 so so' T B h
 |_=>cases h1
theorem qHw (so:SoE k p G sub n) (T:CtOk k X C p G sub) (h:cExp C (cE n C) (cEs n C) e=some l):SS X p G sub (.Expr e pos) l:=by
 unfold cExp at h;split at h
 ·rename_i o m as ap cp hv;cases qAI hv;unfold qGk at h;split at h
  ·split at h
   ·rename_i hc;obtain⟨_,hline,hnm,rfl⟩:=hc;obtain⟨a,a1,h1⟩:=oB h;obtain⟨i,e1,h1⟩:=oB h1;obtain⟨la,e2,rfl⟩:=oM h1;obtain⟨l1,l2⟩:=T.loc e1;obtain⟨d1,d2⟩:=q1a hnm;rw[q0z a1];exact qHn T.K l2 (l1.elim .inl λ z=> .inr (.inl z)) d1 d2 (so.E X C T _ _ e2) (q0w (q7q e2)) hline
   split at h
   ·rename_i hc;obtain⟨a,a1,h1⟩:=oB h;clear h;cases q0z a1;obtain⟨i,e1,h1⟩:=oB h1;obtain⟨la,e2,rfl⟩:=oM h1;obtain⟨_,hline,hnm,rfl⟩:=hc;obtain⟨l1,l2⟩:=T.loc e1;obtain⟨d1,d2⟩:=q1a hnm;exact qHg l2 (l1.elim .inl λ z=> .inr (.inl z)) d1 d2 (so.E X C T _ _ e2) (q0w (q7q e2)) hline
   ·cases h
  ·cases h
 split at h
 ·cases h
 ·rename_i hx;obtain⟨le,e1,rfl⟩:=oM h;exact qEj (so.E X C T _ _ e1) (q8v (λ e g s q z=>hx (by rw[z];rfl)) (q3z e1).1 (q3z e1).2)
theorem qFE (T:CtOk k X C p G sub) (B:BdOk X) (ihn:∀s l,cSs n C s=some l->SSs X p G sub s l) {body:List PySem.Stmt}{hd:ExceptHandler}{r:Nat×Nat}{lb:List Ev.S}(h:qGm C hd=some r) (hb:cSs n C body=some lb):SS X p G sub (.Try body [hd] [] [] pos) (.tryR lb r.1 r.2):=by
 obtain⟨ty,nm,b,q⟩:=hd;have h:(if nm.isNone then ty.bind λ ty=>(Expr.isName ty).bind λ c=>(sole b).bind λ st=>(raiN C st).bind λ d=>if C.glob c then (ixOf c C.excs).map λ c=>(c,d) else none else none)=some r:=h;split at h
 ·rename_i hn;obtain⟨ty',b1,h⟩:=oB h;obtain⟨cn,b2,h⟩:=oB h;obtain⟨st,b3,h⟩:=oB h;obtain⟨d,b4,h⟩:=oB h;split at h
  ·rename_i hg;obtain⟨c,e1,rfl⟩:=oM h;obtain⟨q1,n1⟩:=q0I b2;obtain⟨g1,g2⟩:=T.glob hg;obtain⟨Cc,hc1,hc2⟩:=T.excs c _ (q0l e1);unfold raiN at b4;split at b4
   ·rename_i a0 b0 rp;obtain⟨e,f1,b4⟩:=oB b4;split at b4
    ·rename_i hb0;obtain⟨⟨x,m⟩,f2,b4⟩:=oB b4;dsimp only at b4;split at b4
     ·rename_i hc;obtain⟨hg2,hm,rfl⟩:=hc;obtain⟨q5,q6,n2⟩:=q3G f2;obtain⟨g3,g4⟩:=T.glob hg2;obtain⟨Cd,hd1,hd2⟩:=T.excs d _ (q0l b4);obtain⟨Cd',hd3,hd4⟩:=T.bt d (q0l b4);rw[hd1] at hd3;cases hd3;rw[b1,Q4.mp hn,q0z b3,f1,Q4.mp hb0,n1,n2];unfold q9R at hm;split at hm
      ·exact qEx B.top g1 hc2.bound (λ e Ce he=>(T.exm e c Ce Cc he hc1).1) g2 g3 hd2 PySem.F.excBase_ValueError hd1 hd4 (λ h=>qHX) g4 rfl (ihn _ _ hb)
      ·cases hm
     ·cases b4
    ·cases b4
   ·cases b4
  ·cases h
 ·cases h
theorem qHx (T:CtOk k X C p G sub) (B:BdOk X) (ihn:∀s l,cSs n C s=some l->SSs X p G sub s l) {body oe fb:List PySem.Stmt}{hs:List ExceptHandler}(h:cTry C (cSs n C) body hs oe fb=some l):SS X p G sub (.Try body hs oe fb pos) l:=by
 have hN:X.N.Nodup:=by rw[T.N];exact T.nd
 unfold cTry at h;split at h
 ·rename_i hc;cases Q0.mp hc.1;cases Q0.mp hc.2;obtain⟨hd,a1,h1⟩:=oB h;clear h;cases q0z a1;split at h1
  ·rename_i rr hrr;obtain⟨lb,e4,rfl⟩:=oM h1;exact qFE T B ihn hrr e4
  obtain⟨⟨c,i,j⟩,a2,h1⟩:=oB h1;obtain⟨lb,e4,rfl⟩:=oM h1;obtain⟨ty,nm,b,q⟩:=hd;obtain⟨ty',b1,h⟩:=oB a2;obtain⟨cn,b2,h⟩:=oB h;obtain⟨x,b3,h⟩:=oB h;obtain⟨st,b4,h⟩:=oB h;obtain⟨⟨y,x'⟩,b5,h⟩:=oB h;obtain⟨q1,n1⟩:=q0I b2;obtain⟨q2,q3,q4,n2⟩:=qEP b5;dsimp only at h n2;split at h
  ·rename_i hc;obtain⟨hg,hnm,_,_,rfl,hxy,hkl⟩:=hc;obtain⟨c',e1,h⟩:=oB h;obtain⟨i',e2,h⟩:=oB h;obtain⟨j',e3,h⟩:=oM h;cases h;rw[b1,b3,q0z b4,n1,n2];obtain⟨g1,g2⟩:=T.glob hg;obtain⟨Cc,hc1,hc2⟩:=T.excs c _ (q0l e1);obtain⟨l1,l2⟩:=T.loc e2;obtain⟨l3,l4⟩:=T.loc e3;obtain⟨d1,d2⟩:=q1a hnm;refine qHZ B.top hN l2 ?_ l4 l3 (.inl (B.fn _)) hxy g1 hc2.bound (λ e Ce he=>(T.exm e c Ce Cc he hc1).1) g2 d1 d2 (ihn _ _ e4);rcases T.kinds _ with z|⟨z,_⟩
   ·exact z.symm.trans hkl
   ·rw[hkl] at z;cases z
  ·cases h
 ·cases h
theorem qHy (hset:SSet):∀n,SoS k p G sub n:=by
 intro n;have so:=λ n=>sound (k:=k) (p:=p) (G:=G) (sub:=sub) hset n
 induction n with
 |zero=>exact⟨λ X C T B s l h=>(by cases h),λ X C T B s l h=>(by cases h)⟩
 |succ n ihn =>
  refine⟨λ X C T B st l h=>?_,λ X C T B sts l h=>?_⟩
  ·have hN:X.N.Nodup:=(by rw[T.N];exact T.nd);cases st with
   |Assign ts v pos=>exact qHv (so n) so T B h
   |Expr e pos=>exact qHw (so n) T h
   |If c0 a0 b0 pos =>
    obtain⟨c,e1,h⟩:=oB h;obtain⟨a,e2,h⟩:=oB h;obtain⟨b,e3,rfl⟩:=oM h;exact qHH ((so n).T X C T _ _ e1) (ihn.Ss X C T B _ _ e2) (ihn.Ss X C T B _ _ e3)
   |For tg0 it0 body0 oe pos =>
    unfold cS at h;dsimp only at h;split at h
    ·rename_i hc;cases Q0.mp hc.1;obtain⟨⟨kk,ts⟩,htg,h⟩:=oB h;obtain⟨li,c1,h⟩:=oB h;obtain⟨lb,c2,h⟩:=oB h;obtain⟨is,hmo,h⟩:=oB h;split at h
     ·cases h
     ·cases h;exact qHL T.calm (((so n).I X C T _ _ c1 _).2 (Bool.eq_false_iff.mpr hc.2)) (qFD T B htg hmo) (ihn.Ss X C T B _ _ c2) (q7p (qF9 c1))
    ·cases h
   |Return r0 pos =>
    have plain:∀e,(cE n C e).map S.ret=some l->SS X p G sub (.Return (some e) pos) l:=λ e h=>by obtain⟨le,e1,rfl⟩:=oM h;exact qDk ((so n).E X C T _ _ e1)
    cases r0 with
    |none=>cases h
    |some e =>
     unfold cS cRet at h;dsimp only at h;split at h
     ·rename_i x hx;obtain⟨q,rfl⟩:=q0I hx;split at h
      ·obtain⟨i,e1,rfl⟩:=oM h;obtain⟨l1,l2⟩:=T.loc e1;obtain⟨d1,d2⟩:=qCv e1;exact qF2 l2 (l1.elim .inl λ z=> .inr (.inl z)) d1 d2
      ·exact plain _ h
     ·split at h
      ·rename_i x hx;obtain⟨i,e1,h⟩:=oB h;obtain⟨le,e2,rfl⟩:=oM h;exact qJf (qDk ((so n).E X (C.less x) (T.less x) _ _ e2))
      ·exact plain _ h
   |Raise a0 b0 pos =>
    obtain⟨e,a1,h⟩:=oB h;split at h
    ·rename_i hb;obtain⟨⟨cn,m⟩,a2,h⟩:=oB h;obtain⟨q,q2,n1⟩:=q3G a2;rw[a1,Q4.mp hb,n1];dsimp only at h;split at h
     ·rename_i hc;obtain⟨c,e1,rfl⟩:=oM h;obtain⟨g1,g2⟩:=T.glob hc.1;obtain⟨Cc,hc1,hc2⟩:=T.excs c _ (q0l e1);exact qCe T.calm g1 hc2 PySem.F.excBase_ValueError hc1 (qD0 T hc.2) g2 (q0w (qD1 hc.2))
     ·cases h
    ·cases h
   |Try a0 b0 c0 d0 pos=>exact qHx T B (λ s l h=>ihn.Ss X C T B s l h) h
   |_=>cases h
  ·cases sts with
   |nil=>cases h;exact qEi
   |cons s r =>
    obtain⟨a,g1,h⟩:=oB h;obtain⟨l',g2,rfl⟩:=oM h;exact qCP (ihn.S X C T B _ _ g1) (ihn.Ss X C T B _ _ g2)
end
end Snd
namespace Snd
open PySem PySem.Spec PySem.W PyProof.Rows L2 Ev
variable {α:Type}{x:Str}
theorem qJm:∀{us:List α},us.length=1->∃a,us=[a]
 |[a],_=>⟨a,rfl⟩
theorem qJn:∀{us:List α},us.length=2->∃a b,us=[a,b]
 |[a,b],_=>⟨a,b,rfl⟩
theorem qJo:∀{us:List α},us.length=3->∃a b c,us=[a,b,c]
 |[a,b,c],_=>⟨a,b,c,rfl⟩
structure DefI where
 name:Str
 st:Stmt
 N:List Str
 ps:List Str
 muts:List Str
 deep:List Str
 l:List Ev.S
structure TxtI where
 ds:List DefI
 consts:List (Str×D)
 excs:List Str
 sub:Nat->Nat->Bool
noncomputable def TxtI.ct (t:TxtI) (d:DefI):Ct:={N:=d.N,kinds:=(q1L d.st).names,funs:=t.ds.map (·.name),consts:=t.consts,excs:=t.excs,muts:=d.muts,fresh:=[],deep:=d.deep}
noncomputable def Gk (t:TxtI):Nat->Nat->List D->R D
 |0,_,_=> .stuck
 |n+1,f,xs=>match t.ds[f]? with
  |some d=>if xs.length=d.ps.length then Ev.run (Gk t n) t.sub d.N.length d.l xs else .stuck
  |none=> .stuck
structure DefOk (t:TxtI) (d:DefI):Prop where
 sc:FnScope d.N d.ps (q1L d.st)
 cs:cSs 60 (t.ct d) (q2R d.st)=some d.l
 bd:∀(kV doc pm:Value) (an:Option Addr) (cdv ct:Value) (us:List Value),us.length=d.ps.length->bindArgs (PySem.W.fnOf d.name d.name (q3E d.st) (q2R d.st) (q1L d.st) .none kV doc pm an cdv ct) ⟨us,[]⟩=pure (d.ps.zip us)
def FnIn (K:PySem.W.Frag) (x:Str) (st:Stmt):Prop:=∃f fd,nsIn K mainGlobals x=some (some (.ref f))/\Fun K x x st f fd
theorem qFF {K:PySem.W.Frag}{st:Stmt}{f:Addr}{oc:Value}{od an:Option Addr}{osl:Array (Option Value)}{kV doc pm cdv ct:Value}(a:nsIn K mainGlobals x=some (some (.ref f)))
  (l:K.lookup f=some ⟨oc,od,.func (PySem.W.fnOf x x (q3E st) (q2R st) (q1L st) .none kV doc pm an cdv ct),osl⟩) (c:PySem.W.codeIn K cdv x=true) (k:PySem.W.keepIn K (.ref f)=true):FnIn K x st:=⟨f,_,a,qGa l c k⟩
structure ExcI (K:PySem.W.Frag) (x:Str) (C:Addr):Prop where
 at_:nsIn K mainGlobals x=some (some (.ref C))
 exc:excIn K C qB8 "ValueError.__new__" = true
 ok:ExOk K C
 val:kitOne K (.ref C) (.type "ValueError")=some true
structure TxtOk (K:PySem.W.Frag) (t:TxtI) (p:Pm):Prop where
 pk:p.K=K
 def_:∀(j:Nat) (d:DefI),t.ds[j]? = some d->DefOk t d/\FnIn K d.name d.st
 blt:∀x∈q08,nsIn K mainGlobals x=some none
 con:∀(x:Str) (d:D),t.consts.lookup x=some d->∃a tk,d = .int a/\nsIn K mainGlobals x=some (some (.int a tk))
 exc:∀(c:Nat) (x:Str),t.excs[c]? = some x->∃C,p.cls[c]? = some C/\ExcI K x C
 cls:∀(c:Nat) (C:Addr),p.cls[c]? = some C->∃x,t.excs[c]? = some x/\ExcI K x C
 sub:∀(e c:Nat) (Ce Cc:Addr),p.cls[e]? = some Ce->p.cls[c]? = some Cc->exmOne K (.ref Ce) (.ref Cc)=some (t.sub e c)/\kitOne K (.ref Ce) (.ref Cc)=some (t.sub e c)
theorem qHz {K:PySem.W.Frag}{h:Heap}{mg:Str->Option Value}{C:Addr}{tl:List Value}{nw:String}(Z:K.In h) (g:h.Ns mainGlobals mg) (e:nsIn K mainGlobals x=some (some (.ref C))) (q:excIn K C tl nw=true):OwnCls x C tl nw mg h:=by
 have hb:=mg_of Z g e;unfold excIn at q;split at q
 case h_2=>cases q
 rename_i dd cd sl ho;split at q
 case h_2=>cases q
 rename_i C' bm k0 k1 k2 k3 n k5 hm hs;simp only[Qg,beq_iff_eq,Bool.not_eq_true'] at q;obtain⟨⟨⟨⟨⟨c1,c2⟩,c3⟩,c4⟩,c5⟩,c6⟩:=q;cases c1;cases c2;obtain⟨nm,bs,mro,ns,qn,hd,sn,sub,ab,col,del⟩:=cd;dsimp only at hm c3 c5 c6;cases hm;cases c3;obtain⟨ll⟩:=sl;have hl:=hs;cases hl;exact⟨hb,bm,ns,nm,qn,bs,hd,sn,sub,ab,col,dd,k0,k1,k2,k3,k5,_,Z _ _ ho,.of_isNs (isNs_of_in Z c5),nsMap_none_of_in Z c5 c6,tail_of_in Z c4⟩
section
variable {P:Program}{w:World}{K:PySem.W.Frag}{mg:Str->Option Value}{base:Heap}{t:TxtI}{p:Pm}
theorem qFG (hset:SSet) (T:TxtOk K t p) (kin:K.In base) (glob:base.Ns mainGlobals mg):∀(n j:Nat) (d:DefI) (f:Addr) (fd:FuncData),t.ds[j]? = some d->Fun K d.name d.name d.st f fd->FnOk P w K mg base (CXs P w K) (3*n) f fd d.ps (spG p (Gk t n) j d.ps.length):=by
 intro n
 induction n with
 |zero =>
  intro j d f fd hd F;refine⟨λ vs H Q E h=>h.choose_spec.choose_spec.1,λ A outer s H args us vs Q E hr e0 hb r hsp=>?_⟩;obtain⟨ds,O,_,_,_,_,ns,_⟩:=hsp;exact absurd rfl ns
 |succ n ih =>
  intro j d f fd hd F;obtain⟨D1,_⟩:=T.def_ j d hd;obtain⟨oc,od,kV,doc,pm,an,cdv,ct,osl,efd,lk,hcd⟩:=F.ex;subst efd;refine qHV (k:=3*n+2) (G':=Gk t n) (sub:=t.sub) (l:=d.l) (N:=d.N) lk hcd D1.sc (λ ds ns hl=>?_) λ A outer s H E hr e0=>?_
  ·show (match t.ds[j]? with
    |some d=>if ds.length=d.ps.length then Ev.run (Gk t n) t.sub d.N.length d.l ds else .stuck
    |none=> .stuck)=_
   rw[hd];dsimp only;rw[if_pos hl]
  ·refine (qHy (k:=3*n) (p:=p) (G:=Gk t n) (sub:=t.sub) hset 60).Ss _ (t.ct d) ⟨rfl,D1.sc.nd,λ x=> .inl rfl,rfl,T.pk,hr,λ x hx=>mg_none_of kin glob (T.blt x hx),λ j' f' hf=>?_,λ x dd hx=>?_,⟨_,Top.f ⟨rfl,rfl⟩⟩,λ c hx=>?_,λ c x hx=>?_,λ c C hc=>?_,T.sub⟩ ⟨⟨rfl,rfl⟩,λ _=>rfl,D1.sc.kind⟩ _ _ D1.cs
   ·have hf:(t.ds.map (·.name))[j']? = some f':=hf;rw[Qn] at hf;cases e:t.ds[j']? with
    |none=>rw[e] at hf;cases hf
    |some d' =>
     rw[e] at hf;cases hf;obtain⟨D2,fa,fd',a',F'⟩:=T.def_ j' d' e;refine⟨fa,fd',d'.ps,ih j' d' fa fd' e F',mg_of kin glob a',F'.kp,F'.binds D2.bd,λ ds ns=>?_⟩;cases n with
     |zero=>exact absurd rfl ns
     |succ n =>
      have ns:(match t.ds[j']? with
       |some d=>if ds.length=d.ps.length then Ev.run (Gk t n) t.sub d.N.length d.l ds else .stuck
       |none=> .stuck)≠R.stuck:=ns
      rw[e] at ns;dsimp only at ns
      by_cases hl:ds.length=d'.ps.length
      ·exact hl
      ·rw[if_neg hl] at ns;exact absurd rfl ns
   ·obtain⟨a',tk,e1,e2⟩:=T.con x dd hx;exact⟨a',tk,e1,mg_of kin glob e2⟩
   ·obtain⟨C,e1,e2⟩:=T.exc c _ hx;exact⟨C,e1,e2.at_⟩
   ·obtain⟨C,e1,e2⟩:=T.exc c x hx;exact⟨C,e1,qHz kin glob e2.at_ e2.exc⟩
   ·obtain⟨x,e1,e2⟩:=T.cls c C hc;exact⟨e2.ok,e2.val⟩
theorem qI0 {l:PySem.W.OpenLaw}{h:Heap}{fa:Addr}{j:Nat}{d:DefI}(hset:SSet) (T:TxtOk K t p) (Z:K.In h) (g:h.Ns mainGlobals mg) (hj:t.ds[j]? = some d) (hps:d.ps=[x]) (hfa:mg d.name=some (.ref fa)) (n:Nat) :
  ∃fd:FuncData,(∀(s:Shared) (u:Value),BindsTo s fd ⟨[u],[]⟩ [(x,u)])/\∀base:Heap,K.In base->base.Ns mainGlobals mg->FnOk l.prog w K mg base (CXs l.prog w K) (3*n) fa fd [x] (spG p (Gk t n) j 1):=by
 obtain⟨D1,f,fd,a,F⟩:=T.def_ j d hj;have e:=hfa.symm.trans (mg_of Z g a);cases e;refine⟨fd,λ s u=>?_,λ base kb nb=>?_⟩
 ·obtain⟨oc,od,kV,doc,pm,an,cdv,ct,osl,efd,lk,hcd⟩:=F.ex;subst efd;have:=D1.bd kV doc pm an cdv ct [u] (by rw[hps];rfl);rw[hps] at this;exact .of_eq this
 ·have:=qFG (P:=l.prog) (w:=w) hset T kb nb n j d fa fd hj F;rw[hps] at this;exact this
noncomputable def qFH (K:PySem.W.Frag):Sp:=λ vs H Q _=>∃(a:Addr) (ns:List Int),vs=[.ref a]/\SqL K H a (ns.map V.int)/\ns.length<=63/\∀H',Q (.bl true) H'
theorem q8w {H:Hp}:∀ns:List Int,RepL p H (ns.map D.int) (ns.map V.int)
 |[]=>rfl
 |n::ns=>⟨.int n,ns.map V.int,rfl,rfl,q8w ns⟩
theorem qBD {G:Nat->List D->R D}{j:Nat}(hK:p.K=K) (hm:∀ns:List Int,ns.length<=63->G j [.lst (ns.map D.int)] = .ok (.bl true)) (vs:List V) (H:Hp) (Q:VK) (E:XK) (h:qFH K vs H Q E):spG p G j 1 vs H Q E:=by
 obtain⟨a,ns,rfl,hS,hl,hQ⟩:=h;have e:=hm ns hl;refine⟨[.lst (ns.map D.int)],[],rfl,List.nodup_nil,λ b hb=>absurd hb (by simp),⟨.ref a,[],rfl,⟨a,ns.map V.int,rfl,by rw[qGz,hK];exact hS,q8w ns⟩,rfl⟩,by rw[e];simp,λ r v H' er _ q=>?_,λ c C H' ex er _ _=>?_⟩
 ·rw[e] at er;cases er;cases (show v=_ from q);exact hQ H'
 ·rw[e] at er;cases er
theorem qBE {H:Hp}{s s':Shared}{e:Value}(h:CXs P w K [] H s (λ _ _ _=>False) e s'):False:=by obtain⟨_,_,_,_,_,_,z,_⟩:=h;exact z
end
theorem walk {l:PySem.W.OpenLaw}{q:Program}{loose:List Str}{XP:(Str->Option Value)->Heap->Prop}{YP:World->Heap->Prop}{d:DefRec}{K:Params->PySem.W.Frag}(n:Nat) (hn:l.most=some 63) (hdf:d.params.defaults=[]) (hr:Room (3*n) callerA)
  (hY:∀(w:World) (h:Heap),YP w h->(K w.params).In h)
  (F:∀(w:World) (mg:Str->Option Value) (fa:Addr) (h:Heap),(K w.params).In h->h.Ns mainGlobals mg->mg d.name=some (.ref fa)->
   ∃fd:FuncData,(∀(s:Shared) (u:Value),BindsTo s fd ⟨[u],[]⟩ [(x,u)])/\∀base:Heap,(K w.params).In base->base.Ns mainGlobals mg->FnOk l.prog w (K w.params) mg base (CXs l.prog w (K w.params)) (3*n) fa fd [x] (qFH (K w.params))) :
  PySem.W.WalkO q loose XP YP l.row.toRowW d [] (λ f vs=>PySem.call f vs) :=
 L2.qEJ (n:=63) (k:=3*n) (x:=x) (CX:=λ w=>CXs l.prog w (K w.params)) (sp:=λ w=>qFH (K w.params)) hn (by decide) hdf hr hY F (λ _ _ a ns hl _ hS=>⟨a,ns,rfl,hS,hl,λ _=>rfl⟩) λ _ _ _ _ _ z=>qBE z
end Snd
namespace SetT
open PySem PySem.SetTable
variable {l As:List Nat}{t:SetTable}{j m:Nat}{hs:List Int}{owner:Array (Option Nat)}
noncomputable def onM (m:Nat):SetTable:={(default:SetTable) with mask:=m}
noncomputable def startM (m:Nat) (h:Int):Probe:=(onM m).probeStart h
noncomputable def advM (m:Nat) (p:Probe):Probe:=(onM m).advance p
theorem qIu (t:SetTable) (h:Int):t.probeStart h=startM t.mask h:=rfl
theorem adv_eq (t:SetTable) (p:Probe):t.advance p=advM t.mask p:=rfl
noncomputable def path (m:Nat) (h:Int):Nat->Probe
 |0=>startM m h
 |n+1=>advM m (path m h n)
noncomputable def lp (m:Nat) (h:Int):Nat->Nat×Nat
 |0=>(bits h % (m+1),bits h)
 |k+1=>leap m (lp m h k).1 (lp m h k).2
noncomputable def cc (m:Nat) (h:Int):Nat->Nat
 |0=>0
 |k+1=>cc m h k+(runEnd m (lp m h k).1-(lp m h k).1)+1
theorem qBF (m i:Nat):runEnd m i-i<=9:=by unfold runEnd;split<;>lia
theorem q32 (m i:Nat):i<=runEnd m i:=by unfold runEnd;split<;>lia
theorem q6v (m i:Nat) (h:i<=m):runEnd m i<=m:=by unfold runEnd;split<;>lia
theorem qI1 (m:Nat) (h:Int):∀k,cc m h k<=10*k
 |0=>Qf _
 |k+1=>by have:=qI1 m h k;have:=qBF m (lp m h k).1;simp only[cc];lia
noncomputable def at_ (m:Nat) (h:Int) (k r:Nat):Probe:={j:=(lp m h k).1+r,more:=runEnd m (lp m h k).1-(lp m h k).1-r,i:=(lp m h k).1,perturb:=(lp m h k).2,dummy:=none}
theorem q33 (m:Nat) (h:Int) (k:Nat) (hk:path m h (cc m h k)=at_ m h k 0):∀r,r<=runEnd m (lp m h k).1-(lp m h k).1->path m h (cc m h k+r)=at_ m h k r
 |0,_=>hk
 |r+1,hr=>by have ih:=q33 m h k hk r (by lia);show advM m (path m h (cc m h k+r))=_;rw[ih];unfold advM SetTable.advance at_;simp only[onM];rw[if_pos (by lia)];rfl
theorem q4X (m:Nat) (h:Int):∀k,path m h (cc m h k)=at_ m h k 0
 |0=>rfl
 |k+1=>by have ih:=q33 m h k (q4X m h k) (runEnd m (lp m h k).1-(lp m h k).1) (Qf _);show advM m (path m h (cc m h k+(runEnd m (lp m h k).1-(lp m h k).1)))=_;rw[ih];unfold advM SetTable.advance at_;simp only[onM];rw[if_neg (by lia)];rfl
theorem qFI (h:Int):bits h<2^64:=by
 unfold bits;have h1:0<=h % (2^64:Int):=Int.emod_nonneg _ (by decide);have h2:h % (2^64:Int)<2^64:=Int.emod_lt_of_pos _ (by decide);have:((2:Int)^64).toNat=2^64:=by decide
 lia
theorem qBG (m:Nat) (h:Int):∀k,(lp m h k).2=bits h / 32^k
 |0=>by simp[lp]
 |k+1=>by show (lp m h k).2 / 32=_;rw[qBG m h k,Nat.div_div_eq_div_mul,Nat.pow_succ]
theorem qBH (m:Nat) (h:Int) (k:Nat) (hk:13<=k):(lp m h k).2=0:=by
 rw[qBG];refine Nat.div_eq_of_lt (Qv (qFI h) ?_)
 calc 2^64<=32^13:=by decide
  _<=32^k:=Nat.pow_le_pow_right (by decide) hk
theorem qI2 (m:Nat) (h:Int):∀k,(lp m h k).1<=m
 |0=>by have:=Jk (bits h) (show m+1 > 0 by lia);show bits h % (m+1)<=m;lia
 |k+1=>by have:=Jk ((lp m h k).1*5+1+(lp m h k).2 / 32) (show m+1 > 0 by lia);show ((lp m h k).1*5+1+(lp m h k).2 / 32) % (m+1)<=m;lia
noncomputable def stp (m i:Nat):Nat:=(i*5+1) % (m+1)
noncomputable def its (m:Nat):Nat->Nat->Nat
 |0,i=>i
 |d+1,i=>its m d (stp m i)
theorem q4Y (m:Nat):∀a b i,its m (a+b) i=its m b (its m a i)
 |0,b,i=>by rw[Nat.zero_add];rfl
 |a+1,b,i=>by rw[Nat.succ_add];exact q4Y m a b (stp m i)
theorem qDw (m:Nat) (h:Int) (k:Nat) (hk:13<=k):∀d,(lp m h (k+d)).1=its m d (lp m h k).1
 |0=>rfl
 |d+1=>by rw[q4Y m d 1,<-qDw m h k hk d];show (leap m (lp m h (k+d)).1 (lp m h (k+d)).2).1=stp m _;rw[qBH m h (k+d) (by lia)];rfl
def q26 (m:Nat):Prop:=m=7\/m=31\/m=127
noncomputable def orb (m:Nat):Nat->Nat->List Nat
 |0,_=>[]
 |n+1,i=>i::orb m n (stp m i)
theorem q7t (m:Nat):∀n i e,e∈orb m n i->∃d,d<n/\its m d i=e
 |0,_,_,h=>nomatch h
 |n+1,i,e,h=>by
  rcases Qh.mp h with rfl|h
  ·exact⟨0,by lia,rfl⟩
  ·obtain⟨d,hd,q⟩:=q7t m n _ e h;exact⟨d+1,by lia,q⟩
theorem cyc0 (m:Nat) (g:q26 m):its m (m+1) 0=0/\∀e,e<=m->e∈orb m (m+1) 0:=by
 have key:∀m,its m (m+1) 0=0->(Qp (m+1)).all (λ e=>(orb m (m+1) 0).contains e)=true->its m (m+1) 0=0/\∀e,e<=m->e∈orb m (m+1) 0:=λ m h1 h2 =>
  ⟨h1,λ e he=>by have:=Qs.mp h2 e (QA.mpr (by lia));exact List.contains_iff_mem.mp this⟩
 rcases g with rfl|rfl|rfl
 ·exact key 7 (by decide +kernel) (by decide +kernel)
 ·exact key 31 (by decide +kernel) (by decide +kernel)
 ·exact key 127 (by decide +kernel) (by decide +kernel)
theorem cyc (m:Nat) (g:q26 m) (i e:Nat) (hi:i<=m) (he:e<=m):∃d,d<=m/\its m d i=e:=by
 obtain⟨h0,hc⟩:=cyc0 m g;obtain⟨a,ha,qa⟩:=q7t m _ _ _ (hc i hi);obtain⟨b,hb,qb⟩:=q7t m _ _ _ (hc e he)
 by_cases hab:a<=b
 ·refine⟨b-a,by lia,?_⟩;rw[<-qa,<-q4Y,show a+(b-a)=b by lia,qb]
 ·refine⟨b+(m+1)-a,by lia,?_⟩;rw[<-qa,<-q4Y,show a+(b+(m+1)-a)=(m+1)+b by lia,q4Y,h0,qb]
theorem qDx (m:Nat) (g:q26 m) (h:Int) (e:Nat) (he:e<=m):∃k,k<=m+13/\(lp m h k).1=e:=by obtain⟨d,hd,q⟩:=cyc m g (lp m h 13).1 e (qI2 m h 13) he;exact⟨13+d,by lia,by rw[qDw m h 13 (by lia)];exact q⟩
theorem met (m:Nat) (g:q26 m) (h:Int) (e:Nat) (he:e<=m):∃n,n<=10*(m+13)/\(path m h n).j=e:=by obtain⟨k,hk,q⟩:=qDx m g h e he;refine⟨cc m h k,Qt (qI1 m h k) (by lia),?_⟩;rw[q4X];show (lp m h k).1+0=e;lia
theorem q3P (m:Nat) (h:Int):∀n,(path m h n).dummy=none
 |0=>rfl
 |n+1=>by show (advM m (path m h n)).dummy=none;unfold advM SetTable.advance;split<;>exact q3P m h n
theorem q5p (m:Nat) (h:Int):∀n,(path m h n).j+(path m h n).more<=m/\(path m h n).i<=m
 |0=>by have h1:=qI2 m h 0;have h2:=q6v m _ h1;have h3:=q32 m (lp m h 0).1;show (lp m h 0).1+(runEnd m (lp m h 0).1-(lp m h 0).1)<=m/\(lp m h 0).1<=m;lia
 |n+1=>by
  have ih:=q5p m h n;show (advM m (path m h n)).j+(advM m (path m h n)).more<=m/\(advM m (path m h n)).i<=m;unfold advM SetTable.advance;split
  ·simp only;lia
  ·have h1:(leap m (path m h n).i (path m h n).perturb).1<=m:=by have:=Jk ((path m h n).i*5+1+(path m h n).perturb / 32) (show m+1 > 0 by lia);show ((path m h n).i*5+1+(path m h n).perturb / 32) % (m+1)<=m;lia
   have h2:=q6v m _ h1;have h3:=q32 m (leap m (path m h n).i (path m h n).perturb).1;simp only[onM];lia
def Ris (l:List Nat):Prop:=l.Pairwise (· < ·)
theorem qD3 (l:List Nat) (i d:Nat) (h:i<l.length):l.toArray.getD i d=l[i]:=by simp[Array.getD,h]
theorem Ris.lt (r:Ris l) {i k:Nat}(h:i<k) (hk:k<l.length):l[i]'(by lia)<l[k]:=Q5.mp r i k (by lia) hk h
theorem q5q (l:List Nat) (r:Ris l) (j:Nat):∀(fuel lo hi:Nat),hi-lo<2^fuel->lo<=hi->hi<=l.length->(∀i,i<lo->(h:i<l.length)->l[i]<j)->(∀i,hi<=i->(h:i<l.length)->j<=l[i])->
  below.go l.toArray j fuel lo hi<=l.length/\(∀i,i<below.go l.toArray j fuel lo hi->(h:i<l.length)->l[i]<j)/\(∀i,below.go l.toArray j fuel lo hi<=i->(h:i<l.length)->j<=l[i])
 |0,lo,hi,hf,hlh,hh,h1,h2=>by
  have e:lo=hi:=by simp at hf;lia
  subst e;exact⟨hh,h1,h2⟩
 |fuel+1,lo,hi,hf,hlh,hh,h1,h2=>by
  unfold below.go
  by_cases c:lo<hi
  ·rw[if_pos c];simp only;have hm:(lo+hi) / 2<l.length:=(by lia);rw[qD3 l _ _ hm];have hp:2^(fuel+1)=2*2^fuel:=by rw[Nat.pow_succ];lia
   by_cases d:l[(lo+hi) / 2]<j
   ·rw[if_pos d];refine q5q l r j fuel _ hi (by lia) (by lia) hh (λ i hi' hl=>?_) h2
    by_cases e:i=(lo+hi) / 2
    ·subst e;exact d
    ·exact Nat.lt_trans (r.lt (show i<(lo+hi) / 2 by lia) hm) d
   ·rw[if_neg d];refine q5q l r j fuel lo _ (by lia) (by lia) (by lia) h1 (λ i hi' hl=>?_)
    by_cases e:i=(lo+hi) / 2
    ·subst e;lia
    ·have:=r.lt (show (lo+hi) / 2<i by lia) hl;lia
  ·rw[if_neg c];have e:lo=hi:=(by lia);subst e;exact⟨hh,h1,h2⟩
theorem q5B:∀n:Nat,n<2^n
 |0=>by decide
 |n+1=>by have:=q5B n;rw[Nat.pow_succ];lia
theorem q0x (l:List Nat) (r:Ris l) (j:Nat):below l.toArray j<=l.length/\(∀i,i<below l.toArray j->(h:i<l.length)->l[i]<j)/\(∀i,below l.toArray j<=i->(h:i<l.length)->j<=l[i]):=by
 unfold below;have e:l.toArray.size=l.length:=by simp
 rw[e];exact q5q l r j l.length 0 l.length (by have:=q5B l.length;lia) (by lia) (Qf _) (λ i h _=>by lia) (λ i h1 h2=>by lia)
theorem q1b (hp:t.place=l.toArray) (r:Ris l) {i:Nat}(h:l[i]? = some j):t.slot j = .live i:=by
 obtain⟨b1,b2,b3⟩:=q0x l r j;obtain⟨hi,e⟩:=Qc.mp h;have eb:below l.toArray j=i:=by
  by_cases c:below l.toArray j<i
  ·have:=b3 _ (Qf _) (by lia);have:=r.lt c hi;lia
  ·by_cases d:i<below l.toArray j
   ·have:=b2 i d hi;lia
   ·lia
 unfold slot;simp only[hp,eb];rw[if_pos (by simp[h])]
theorem q5C (hp:t.place=l.toArray) (hd:t.dummies=#[]) (h:j∉l):t.slot j = .empty:=by
 unfold slot;simp only[hp];rw[if_neg (λ q=>h ?_)]
 ·rw[hd,if_neg];unfold has;intro q;simp at q
 ·have q':l.toArray[below l.toArray j]? = some j:=by simpa using q
  have:l[below l.toArray j]? = some j:=by simpa using q'
  exact Qk this
theorem q2a {α:Type}(l:List α) (p:Nat) (x:α) (_hp:p<=l.length):insertAt l.toArray p x=(l.take p++x::l.drop p).toArray:=by unfold insertAt;apply Array.toList_inj.mp;simp;exact QV (by simp)
noncomputable abbrev Ent:=Nat×Int×Value
noncomputable def slots (Z:List Ent):List Nat:=Z.map (·.1)
structure WF (t:SetTable) (Z:List Ent):Prop where
 place:t.place=(slots Z).toArray
 ris:Ris (slots Z)
 dum:t.dummies=#[]
 good:q26 t.mask
 le:∀z∈Z,z.1<=t.mask
 few:Z.length<=t.mask
 way:∀z∈Z,∃n,(path t.mask z.2.1 n).j=z.1/\∀k,k<n->(path t.mask z.2.1 k).j∈slots Z
theorem q34:∀{a b:List Nat},a.Nodup->(∀x∈a,x∈b)->a.length<=b.length
 |[],_,_,_=>QK _
 |x::a,b,nd,h=>by
  have hx:=h x Qb;have nd':=QY.mp nd;have:=q34 (a:=a) (b:=b.erase x) nd'.2 λ y hy=>by have hne:y≠x:=λ q=>nd'.1 (q▸hy);exact (List.mem_erase_of_ne hne).mpr (h y (Qa _ hy))
  have e:=Jj hx;have hp:0<b.length:=List.length_pos_of_mem hx;simp only[Qd];lia
theorem q6w (l:List Nat) (m:Nat) (h:l.length<=m):∃e,e<=m/\e∉l:=by
 apply QH;intro q;have:=q34 (a:=Qp (m+1)) (b:=l) List.nodup_range λ x hx=>by apply QH;intro hn;exact q ⟨x,by have:=QA.mp hx;lia,hn⟩
 rw[QW] at this;lia
theorem least {P:Nat->Prop}[DecidablePred P]:∀n,P n->∃m,m<=n/\P m/\∀k,k<m->¬P k:=by
 intro n
 induction n using Nat.strongRecOn with
 |ind n ih =>
  intro h
  by_cases c:∃k,k<n/\P k
  ·obtain⟨k,hk,p⟩:=c;obtain⟨m,h1,h2,h3⟩:=ih k hk p;exact⟨m,by lia,h2,h3⟩
  ·exact⟨n,Qf _,h,λ k hk p=>c ⟨k,hk,p⟩⟩
def q1G (m:Nat) (h:Int) (l:List Nat) (N:Nat):Prop:=(path m h N).j∉l/\∀k,k<N->(path m h k).j∈l
theorem q5D (g:q26 m) (h:Int) (l:List Nat) (hl:l.length<=m):∃N,N<=10*(m+13)/\q1G m h l N:=by obtain⟨e,he,hn⟩:=q6w l m hl;obtain⟨n,h1,h2⟩:=met m g h e he;obtain⟨N,h3,h4,h5⟩:=least (P:=λ n=>(path m h n).j∉l) n (by rw[h2];exact hn);exact⟨N,by lia,h4,λ k hk=>QH λ q=>h5 k hk q⟩
def Cand (m:Nat) (h:Int) (Z:List Ent) (k:Nat):Prop:=∃z∈Z,z.1=(path m h k).j/\z.2.1=h
theorem q8x {t:SetTable}{Z:List Ent}(wf:WF t Z) {h:Int}{hash:Nat->Int}(hh:∀i z,Z[i]? = some z->hash i=z.2.1) {N:Nat}(ff:q1G t.mask h (slots Z) N) :
  ∀fuel n,n<=N->N-n<fuel->
   (∃k i z,n<=k/\k<N/\Z[i]? = some z/\z.1=(path t.mask h k).j/\z.2.1=h/\(∀k',n<=k'->k'<k->¬Cand t.mask h Z k')/\probe.go t hash h fuel (path t.mask h n)=some (.candidate (path t.mask h k).j i (path t.mask h (k+1))))\/
   ((∀k',n<=k'->k'<N->¬Cand t.mask h Z k')/\probe.go t hash h fuel (path t.mask h n)=some (.empty (path t.mask h N).j none))
 |0,n,_,hf=>by lia
 |fuel+1,n,hn,hf=>by
  by_cases e:n=N
  ·subst e;refine .inr ⟨λ k' h1 h2=>by lia,?_⟩;unfold probe.go;rw[q5C wf.place wf.dum ff.1];simp only[q3P]
  ·have hl:=ff.2 n (by lia);obtain⟨i,hi,ei⟩:=QR hl;have hs:(slots Z)[i]? = some (path t.mask h n).j:=(by rw[Qi hi,ei]);have hz:∃z,Z[i]? = some z/\z.1=(path t.mask h n).j:=by
    unfold slots at hs;rw[Qn] at hs;cases q:Z[i]? with
    |none=>rw[q] at hs;cases hs
    |some z=>rw[q] at hs;exact⟨z,rfl,QJ.inj hs⟩
   obtain⟨z,hz,ez⟩:=hz;unfold probe.go;rw[q1b wf.place wf.ris hs];simp only[hh i z hz]
   by_cases c:z.2.1=h
   ·refine .inl ⟨n,i,z,Qf _,by lia,hz,ez,c,λ k' h1 h2=>by lia,?_⟩;rw[if_pos (by simpa using c)];rfl
   ·rw[if_neg (by simpa using c)];have nc:¬Cand t.mask h Z n:=by
     rintro⟨y,hy,e1,e2⟩;obtain⟨i',hi',ei'⟩:=QR hy;have hs':(slots Z)[i']? = some (path t.mask h n).j:=by unfold slots;rw[Qn,Qi hi',ei'];exact congrArg some e1
     have:i'=i:=by have q1:=q1b wf.place wf.ris hs';rw[q1b wf.place wf.ris hs] at q1;cases q1;rfl
     subst this;rw[Qi hi',ei'] at hz;cases hz;exact c e2
    rcases q8x wf hh ff fuel (n+1) (by lia) (by lia) with ⟨k,i2,z2,a1,a2,a3,a4,a5,a6,a7⟩|⟨a1,a2⟩
    ·refine .inl ⟨k,i2,z2,by lia,a2,a3,a4,a5,λ k' h1 h2=>?_,a7⟩
     by_cases q:k'=n
     ·subst q;exact nc
     ·exact a6 k' (by lia) h2
    ·refine .inr ⟨λ k' h1 h2=>?_,a2⟩
     by_cases q:k'=n
     ·subst q;exact nc
     ·exact a1 k' (by lia) h2
theorem qFJ {Z:List Ent}(wf:WF t Z) {h:Int}{N:Nat}(ff:q1G t.mask h (slots Z) N) {z:Ent}(hz:z∈Z) (e:z.2.1=h):∃k,k<N/\z.1=(path t.mask h k).j:=by
 obtain⟨n,h1,h2⟩:=wf.way z hz;rw[e] at h1 h2;refine⟨n,?_,h1.symm⟩;apply QH;intro q
 by_cases c:n=N
 ·subst c;exact ff.1 (by rw[h1];exact List.mem_map_of_mem hz)
 ·exact ff.1 (h2 N (by lia))
noncomputable def insZ (Z:List Ent) (p:Nat) (z:Ent):List Ent:=Z.take p++z::Z.drop p
theorem q5r {Z:List Ent}{p:Nat}{z y:Ent}:y∈insZ Z p z↔y=z\/y∈Z:=by
 unfold insZ;rw[Qq,Qh];have:(y∈Z)↔(y∈Z.take p\/y∈Z.drop p):=by rw[<-Qq,Q6]
 rw[this];constructor
 ·rintro (h|h|h)
  ·exact .inr (.inl h)
  ·exact .inl h
  ·exact .inr (.inr h)
 ·rintro (h|h|h)
  ·exact .inr (.inl h)
  ·exact .inl h
  ·exact .inr (.inr h)
theorem q4Z (Z:List Ent) (p:Nat) (z:Ent):(insZ Z p z).Perm (z::Z):=by unfold insZ;refine List.perm_middle.trans ?_;rw[Q6]
theorem q2H {β:Type}(f:Ent->β) (Z:List Ent) (p:Nat) (z:Ent):(insZ Z p z).map f=(Z.map f).take p++f z::(Z.map f).drop p:=by unfold insZ;rw[Jp,Qz,List.map_take,List.map_drop]
theorem qFK (r:Ris l) (hj:j∉l):Ris (l.take (below l.toArray j)++j::l.drop (below l.toArray j)):=by
 obtain⟨b1,b2,b3⟩:=q0x l r j;unfold Ris;rw[List.pairwise_append,QC];have ht:∀a∈l.take (below l.toArray j),a<j:=λ a ha=>by obtain⟨i,hi,e⟩:=QR ha;rw[List.getElem_take] at e;rw[Je] at hi;rw[<-e];exact b2 i (by lia) (by lia)
 have hd:∀a∈l.drop (below l.toArray j),j<a:=λ a ha=>by obtain⟨i,hi,e⟩:=QR ha;rw[List.getElem_drop] at e;rw[QZ] at hi;have:=b3 (below l.toArray j+i) (by lia) (by lia);rw[e] at this;have hne:j≠a:=λ q=>hj (q▸List.mem_of_mem_drop ha);lia
 refine⟨List.Pairwise.sublist (List.take_sublist _ _) r,⟨hd,List.Pairwise.sublist (List.drop_sublist _ _) r⟩,λ a ha b hb=>?_⟩;rcases Qh.mp hb with rfl|hb
 ·exact ht a ha
 ·exact Nat.lt_trans (ht a ha) (hd b hb)
theorem WF.insert {Z:List Ent}(wf:WF t Z) {h:Int}{x:Value}{N:Nat}(ff:q1G t.mask h (slots Z) N) (few:Z.length<t.mask) (pl:Bool) :
  WF {(t.put (path t.mask h N).j).1 with plain:=pl} (insZ Z (t.put (path t.mask h N).j).2 ((path t.mask h N).j,h,x)):=by
 have hb:=(q0x (slots Z) wf.ris (path t.mask h N).j).1;have ep:(t.put (path t.mask h N).j).2=below (slots Z).toArray (path t.mask h N).j:=by show below t.place _=_;rw[wf.place]
 refine⟨?_,?_,?_,wf.good,λ z hz=>?_,?_,λ z hz=>?_⟩
 ·show insertAt t.place (below t.place (path t.mask h N).j) (path t.mask h N).j=_;rw[ep,wf.place,q2a _ _ _ hb];unfold slots;rw[q2H]
 ·rw[ep];unfold slots;rw[q2H];exact qFK wf.ris ff.1
 ·show (if has t.dummies _ then _ else t.dummies)=#[];rw[wf.dum];split
  ·rename_i q;unfold has at q;simp at q
  ·rfl
 ·rcases q5r.mp hz with rfl|hz
  ·have:=q5p t.mask h N;show (path t.mask h N).j<=t.mask;lia
  ·exact wf.le z hz
 ·rw[(q4Z _ _ _).length_eq,Qd];exact few
 ·have sub:∀a,a∈slots Z->a∈slots (insZ Z (t.put (path t.mask h N).j).2 ((path t.mask h N).j,h,x)):=λ a ha=>by obtain⟨y,hy,e⟩:=Qm.mp ha;exact Qm.mpr ⟨y,q5r.mpr (.inr hy),e⟩
  rcases q5r.mp hz with rfl|hz
  ·exact⟨N,rfl,λ k hk=>sub _ (ff.2 k hk)⟩
  ·obtain⟨n,h1,h2⟩:=wf.way z hz;exact⟨n,h1,λ k hk=>sub _ (h2 k hk)⟩
def Occ (owner:Array (Option Nat)) (j:Nat):Prop:=(owner.getD j (some 0)).isNone=false
theorem q6x (m:Nat) (h:Int) (owner:Array (Option Nat)):∀fuel k0,(∃K,k0<=K/\K<k0+fuel/\¬Occ owner (lp m h K).1)->(∀n,n<cc m h k0->Occ owner (path m h n).j)->
  ∃n,layClean.free m owner fuel (lp m h k0).1 (lp m h k0).2=some (path m h n).j/\¬Occ owner (path m h n).j/\∀k,k<n->Occ owner (path m h k).j
 |0,k0,⟨K,h1,h2,_⟩,_=>by lia
 |fuel+1,k0,⟨K,h1,h2,h3⟩,ho=>by
  unfold layClean.free;cases q:(Qp (runEnd m (lp m h k0).1+1-(lp m h k0).1)).find? (λ k=>(owner.getD ((lp m h k0).1+k) (some 0)).isNone) with
  |some r =>
   have hr:=List.find?_some q;have hm:=QA.mp (List.mem_of_find?_eq_some q);have hge:=q32 m (lp m h k0).1;have hp:=q33 m h k0 (q4X m h k0) r (by lia);refine⟨cc m h k0+r,by rw[hp];rfl,?_,λ k hk=>?_⟩
   ·rw[hp];show ¬(owner.getD ((lp m h k0).1+r) (some 0)).isNone=false;rw[hr];simp
   ·by_cases c:k<cc m h k0
    ·exact ho k c
    ·obtain⟨r',rfl⟩:∃r',k=cc m h k0+r':=⟨k-cc m h k0,by lia⟩
     rw[q33 m h k0 (q4X m h k0) r' (by lia)];show (owner.getD ((lp m h k0).1+r') (some 0)).isNone=false;have hlt:r'<r:=(by lia);rw[List.find?_eq_some_iff_append] at q;obtain⟨_,as,bs,e,hn⟩:=q;have hmem:r'∈as:=by
      have e1:(Qp (runEnd m (lp m h k0).1+1-(lp m h k0).1))[r']? = some r':=(by rw[Jl (by lia)]);have e2:(Qp (runEnd m (lp m h k0).1+1-(lp m h k0).1))[r]? = some r:=(by rw[Jl (by lia)]);rw[e] at e1 e2;have hl:as.length=r:=by have e3:(as++r::bs)[as.length]? = some r:=(by simp);have hlt2:as.length<(Qp (runEnd m (lp m h k0).1+1-(lp m h k0).1)).length:=(by rw[e];simp);rw[<-e,Jl (by simpa using hlt2)] at e3;exact QJ.inj e3
      rw[Qy (by lia)] at e1;exact Qk e1
     have:=hn r' hmem;simpa using this
  |none =>
   have hn:=List.find?_eq_none.mp q;have hge:=q32 m (lp m h k0).1;have run:∀r,r<=runEnd m (lp m h k0).1-(lp m h k0).1->Occ owner ((lp m h k0).1+r):=λ r hr=>by have:=hn r (QA.mpr (by lia));exact Bool.eq_false_iff.mpr this
   have hK:k0+1<=K:=by apply QH;intro z;have:K=k0:=(by lia);subst this;exact h3 (by have:=run 0 (by lia);simpa using this)
   refine q6x m h owner fuel (k0+1) ⟨K,hK,by lia,h3⟩ λ n hn'=>?_
   by_cases c:n<cc m h k0
   ·exact ho n c
   ·have e:cc m h (k0+1)=cc m h k0+(runEnd m (lp m h k0).1-(lp m h k0).1)+1:=rfl;obtain⟨r',rfl⟩:∃r',n=cc m h k0+r':=⟨n-cc m h k0,by lia⟩
    rw[q33 m h k0 (q4X m h k0) r' (by lia)];exact run r' (by lia)
structure Laid (m:Nat) (hs:List Int) (owner:Array (Option Nat)) (As:List Nat):Prop where
 size:owner.size=m+1
 len:As.length=hs.length
 nd:As.Nodup
 own:∀(j q:Nat),owner[j]? = some (some q)↔As[q]? = some j
 way:∀(q:Nat) (h:Int) (j:Nat),hs[q]? = some h->As[q]? = some j->∃n,(path m h n).j=j/\∀k,k<n->(path m h k).j∈As
theorem Laid.le (L:Laid m hs owner As) (hj:j∈As):j<=m:=by obtain⟨q,hq⟩:=List.getElem?_of_mem hj;have:=(L.own j q).mpr hq;have:=(Array.getElem?_eq_some_iff.mp this).1;rw[L.size] at this;lia
theorem Laid.occ (L:Laid m hs owner As) (hj:j<=m):Occ owner j↔j∈As:=by
 have hlt:j<owner.size:=by rw[L.size];lia
 have e:owner.getD j (some 0)=owner[j]:=by simp[Array.getD,hlt]
 unfold Occ;rw[e];constructor
 ·intro h;cases q:owner[j] with
  |none=>rw[q] at h;cases h
  |some k=>exact Qk ((L.own j k).mp (by rw[Array.getElem?_eq_getElem hlt,q]))
 ·intro h;obtain⟨q,hq⟩:=List.getElem?_of_mem h;have:=(L.own j q).mpr hq;rw[Array.getElem?_eq_getElem hlt] at this;rw[QJ.inj this];rfl
theorem qD4 (m:Nat):Laid m [] (Array.replicate (m+1) none) []:=by
 refine⟨by simp,rfl,List.nodup_nil,λ j q=>?_,λ q h j e=>by simp at e⟩;constructor
 ·intro e;rw[Array.getElem?_replicate] at e;split at e<;>simp at e
 ·intro e;simp at e
theorem qBI (g:q26 m) (L:Laid m hs owner As) (h:Int) (few:hs.length<=m) :
  ∃j,layClean.free m owner (turns m) (bits h % (m+1)) (bits h)=some j/\Laid m (hs++[h]) (owner.setIfInBounds j (some hs.length)) (As++[j]):=by
 obtain⟨e,he,hn⟩:=q6w As m (by rw[L.len];exact few);obtain⟨K,hK,eK⟩:=qDx m g h e he;obtain⟨n,f1,f2,f3⟩:=q6x m h owner (turns m) 0 ⟨K,QK _,by unfold turns;lia,by rw[eK,L.occ he];exact hn⟩ (λ n hn=>by simp[cc] at hn);have hj:(path m h n).j<=m:=by have:=q5p m h n;lia
 have hjn:(path m h n).j∉As:=λ z=>f2 ((L.occ hj).mpr z);refine⟨(path m h n).j,f1,by simp[L.size],by simp[L.len],?_,λ j q=>?_,λ q h' j e1 e2=>?_⟩
 ·rw[QD];refine⟨L.nd,by simp,λ a ha b hb=>?_⟩;have:b=(path m h n).j:=by simpa using hb
  subst this;exact λ z=>hjn (z▸ha)
 ·by_cases c:j=(path m h n).j
  ·subst c;rw[Array.getElem?_setIfInBounds_self_of_lt (by rw[L.size];lia)];constructor
   ·intro z;have:hs.length=q:=(by simpa using z);subst this;rw[QL (by rw[L.len];exact Qf _),L.len];simp
   ·intro z
    by_cases d:q<As.length
    ·rw[Qy d] at z;exact absurd (Qk z) hjn
    ·rw[QL (by lia)] at z;have:q-As.length=0:=by apply QH;intro y;rw[QX (by simp;lia)] at z;cases z
     have:=L.len;have:q=hs.length:=(by lia);subst this;rfl
  ·rw[Array.getElem?_setIfInBounds_ne (Ne.symm c),L.own];constructor
   ·intro z;rw[Qy (Qc.mp z).1];exact z
   ·intro z
    by_cases d:q<As.length
    ·rw[Qy d] at z;exact z
    ·rw[QL (by lia)] at z;have:j∈[(path m h n).j]:=Qk z;exact absurd (by simpa using this) c
 ·have hl:=L.len;have up:∀a,a∈As->a∈As++[(path m h n).j]:=λ a ha=>QM _ ha
  by_cases d:q<As.length
  ·rw[Qy (by lia)] at e1;rw[Qy d] at e2;obtain⟨n',w1,w2⟩:=L.way q h' j e1 e2;exact⟨n',w1,λ k hk=>up _ (w2 k hk)⟩
  ·have hq:q=As.length:=by have:=(Qc.mp e2).1;simp at this;lia
   subst hq;rw[QL (by lia)] at e1 e2;simp[hl] at e1 e2;subst e1 e2;exact⟨n,rfl,λ k hk=>up _ ((L.occ (by have:=q5p m h k;lia)).mp (f3 k hk))⟩
theorem q6y {m:Nat}(g:q26 m):∀(rest hs:List Int) (owner:Array (Option Nat)) (As:List Nat),Laid m hs owner As->hs.length+rest.length<=m->
  ∃owner' As',rest.foldl (λ (acc:Option (Array (Option Nat)×Nat)) h=>do
    let (owner,k) <-acc
    let j <-layClean.free m owner (turns m) (bits h % (m+1)) (bits h)
    pure (owner.setIfInBounds j (some k),k+1)) (some (owner,hs.length))=some (owner',hs.length+rest.length)/\Laid m (hs++rest) owner' As'
 |[],hs,owner,As,L,_=>⟨owner,As,rfl,by rw[QB];exact L⟩
 |h::rest,hs,owner,As,L,hl=>by simp only[Qd] at hl;obtain⟨j,e,L'⟩:=qBI g L h (by lia);have:=q6y g rest (hs++[h]) _ _ L' (by simp;lia);obtain⟨owner',As',e2,L2⟩:=this;refine⟨owner',As',?_,by simpa using L2⟩;rw[List.foldl_cons];simp only[Qj,Qx] at e2;simp only[bind,Option.bind,e,pure,Qd];rw[show hs.length+(rest.length+1)=hs.length+1+rest.length by lia];exact e2
theorem q35 (g:q26 m) (hs:List Int) (hl:hs.length<=m):∃owner As,layClean m hs.toArray=some owner/\Laid m hs owner As:=by obtain⟨owner,As,e,L⟩:=q6y g hs [] _ _ (qD4 m) (by simpa using hl);refine⟨owner,As,?_,by simpa using L⟩;unfold layClean;rw[List.foldl_toArray];simp only[QS,Nat.zero_add] at e;rw[e];rfl
noncomputable def q15 (m:Nat) (owner:Array (Option Nat)):List (Nat×Nat):=(Qp (m+1)).filterMap λ j=>(owner.getD j none).map (j,·)
theorem q0o (L:Laid m hs owner As) {q:Nat}:(j,q)∈q15 m owner↔As[q]? = some j:=by
 unfold q15;rw[List.mem_filterMap];constructor
 ·rintro⟨j',h1,h2⟩;have hlt:j'<owner.size:=by rw[L.size];exact QA.mp h1
  have e:owner.getD j' none=owner[j']:=by simp[Array.getD,hlt]
  rw[e] at h2;cases c:owner[j'] with
  |none=>rw[c] at h2;cases h2
  |some q' =>
   rw[c] at h2;have:(j',q')=(j,q):=(by simpa using h2);cases this;exact (L.own j q).mp (by rw[Array.getElem?_eq_getElem hlt,c])
 ·intro h;have hj:=L.le (Qk h);have hlt:j<owner.size:=by rw[L.size];lia
  refine⟨j,QA.mpr (by lia),?_⟩;have e:owner.getD j none=owner[j]:=by simp[Array.getD,hlt]
  have:=(L.own j q).mpr h;rw[Array.getElem?_eq_getElem hlt] at this;rw[e,QJ.inj this];rfl
theorem q5E (m:Nat) (owner:Array (Option Nat)):Ris ((q15 m owner).map (·.1)):=by unfold Ris q15;rw[List.pairwise_map];refine List.Pairwise.filterMap _ (λ a a' hlt b hb b' hb'=>?_) List.pairwise_lt_range;obtain⟨q,_,rfl⟩:=QO.mp hb;obtain⟨q',_,rfl⟩:=QO.mp hb';exact hlt
theorem q6z (L:Laid m hs owner As):((q15 m owner).map (·.2)).Perm (Qp hs.length):=by
 have nd:((q15 m owner).map (·.2)).Nodup:=by have r:=q5E m owner;unfold Ris at r;rw[List.pairwise_map] at r;unfold List.Nodup;rw[List.pairwise_map];refine List.Pairwise.imp_of_mem (λ {a b} ha hb hlt=>?_) r;intro e;obtain⟨j,q⟩:=a;obtain⟨j',q'⟩:=b;simp only at e hlt;subst e;have h1:=(q0o L).mp ha;have h2:=(q0o L).mp hb;rw[h1] at h2;have:=QJ.inj h2;lia
 rw[List.perm_ext_iff_of_nodup nd List.nodup_range];intro q;rw[Qm,QA];constructor
 ·rintro⟨⟨j,q'⟩,h,rfl⟩;have:=(Qc.mp ((q0o L).mp h)).1;rw[L.len] at this;exact this
 ·intro h;have hlt:q<As.length:=by rw[L.len];exact h
  exact⟨(As[q],q),(q0o L).mpr (Qi hlt),rfl⟩
theorem q2P {α β:Type}{f g:α->Option β}:∀{l:List α},(∀a∈l,f a=g a)->l.filterMap f=l.filterMap g
 |[],_=>rfl
 |a::l,h=>by rw[QI,QI,h a Qb,q2P λ b hb=>h b (Qa _ hb)]
theorem q5s {α:Type}(es:List α) (d:α):(Qp es.length).map (λ q=>es.getD q d)=es:=by
 apply List.ext_getElem
 ·simp
 ·intro i h1 h2;simp at h1 |-;rw[Qi h1];rfl
theorem q4a (t:SetTable) (es:List (Int×Value)) (wanted:Nat) (g:q26 (sizeAbove wanted-1)) (few:es.length<=sizeAbove wanted-1) :
  ∃t' order Z',t.relaid (es.toArray.map (·.1)) wanted=some (t',order)/\WF t' Z'/\order.filterMap (es.toArray[·]?)=(Z'.map (·.2)).toArray/\(Z'.map (·.2)).Perm es/\
   t'.mask=sizeAbove wanted-1/\t'.led=t.led/\t'.plain=t.plain:=by
 obtain⟨owner,As,e,L⟩:=q35 g (es.map (·.1)) (by rw[Qe];exact few);have hl:(es.map (·.1)).length=es.length:=Qe _
 let d:Int×Value:=(0,Value.none)
 let Z':List Ent:=(q15 (sizeAbove wanted-1) owner).map λ p=>(p.1,es.getD p.2 d)
 have hlt:∀p∈q15 (sizeAbove wanted-1) owner,p.2<es.length:=λ p hp=>by have:=(Qc.mp ((q0o L).mp hp)).1;rw[L.len,hl] at this;exact this
 have z1:slots Z'=(q15 (sizeAbove wanted-1) owner).map (·.1):=by show ((q15 (sizeAbove wanted-1) owner).map λ p=>(p.1,es.getD p.2 d)).map (·.1)=_;rw[Q2];rfl
 have z2:Z'.map (·.2)=((q15 (sizeAbove wanted-1) owner).map (·.2)).map (λ q=>es.getD q d):=by show ((q15 (sizeAbove wanted-1) owner).map λ p=>(p.1,es.getD p.2 d)).map (·.2)=_;rw[Q2,Q2];rfl
 have zp:(Z'.map (·.2)).Perm es:=by rw[z2];refine ((q6z L).map _).trans ?_;rw[hl,q5s]
 have zl:Z'.length=es.length:=by have:=zp.length_eq;rwa [Qe] at this
 refine⟨{mask:=sizeAbove wanted-1,place:=((q15 (sizeAbove wanted-1) owner).map (·.1)).toArray,dummies:=#[],finger:=t.finger,led:=t.led,moves:=t.movedTo (sizeAbove wanted-1),plain:=t.plain},
  ((q15 (sizeAbove wanted-1) owner).map (·.2)).toArray,Z',?_,?_,?_,zp,?_,?_,?_⟩
 ·show laid (sizeAbove wanted-1) t.finger (t.movedTo (sizeAbove wanted-1)) t.led t.plain (es.toArray.map (·.1))=_;unfold laid;rw[show es.toArray.map (·.1)=(es.map (·.1)).toArray by simp,e];rfl
 ·refine⟨?_,?_,rfl,g,λ z hz=>?_,by rw[zl];exact few,λ z hz=>?_⟩
  ·rw[z1]
  ·rw[z1];exact q5E _ _
  ·obtain⟨p,hp,rfl⟩:=Qm.mp hz;exact L.le (Qk ((q0o L).mp (show (p.1,p.2)∈_ from hp)))
  ·obtain⟨p,hp,rfl⟩:=Qm.mp hz;have ha:=(q0o L).mp (show (p.1,p.2)∈_ from hp);have hq:=hlt p hp;have he:(es.map (·.1))[p.2]? = some (es.getD p.2 d).1:=by rw[Qn,Qi hq];simp[Jq,hq]
   obtain⟨n,w1,w2⟩:=L.way p.2 _ p.1 he ha;refine⟨n,w1,λ k hk=>?_⟩;rw[z1];obtain⟨q,hq'⟩:=List.getElem?_of_mem (w2 k hk);exact Qm.mpr ⟨(_,q),(q0o L).mpr hq',rfl⟩
 ·rw[z2];apply Array.toList_inj.mp;simp only[Array.toList_filterMap];show List.filterMap (λ x=>es.toArray[x]?) ((q15 (sizeAbove wanted-1) owner).map (·.2))=_;refine (q2P (g:=some ∘ λ q=>es.getD q d) λ q hq=>?_).trans (by rw[List.filterMap_eq_map]);obtain⟨p,hp,rfl⟩:=Qm.mp hq;have:=hlt p hp;simp[Jq,this]
 ·rfl
 ·rfl
 ·rfl
theorem WF.size {Z:List Ent}(wf:WF t Z):t.place.size=Z.length:=by rw[wf.place];simp[slots]
theorem WF.fill {Z:List Ent}(wf:WF t Z):t.fill=Z.length:=by unfold SetTable.fill;rw[wf.size,wf.dum];rfl
end SetT
namespace Snd
open PySem PySem.Spec PySem.W PyProof.Rows L2 Ev SetT
def Ents (h:Heap) (Z:List Ent) (ds:List D):Prop:=Z.length=ds.length/\∀(i:Nat) (z:Ent) (d:D),Z[i]? = some z->ds[i]? = some d->Dv h d z.2.2/\hv d=z.2.1/\plN 8 d=true/\q02 d=true
structure SetIn (h:Heap) (a:Addr) (Z:List Ent) (t:SetTable) (ep:Nat):Prop where
 obj:∃o,h.get? a=some o/\o.ExactSet/\o.data = .set (Z.map (·.2)).toArray ep t
 wf:WF t Z
 plain:t.plain=true
theorem SetIn.fits {h:Heap}{a:Addr}{Z:List Ent}{t:SetTable}{ep:Nat}(S:SetIn h a Z t ep):t.fits (Z.map (·.2)).toArray.size=true:=by unfold SetTable.fits;rw[S.wf.size,S.wf.fill];have:=S.wf.few;simp[this]
section
variable {prog:Program}{w:World}{A:Around}{E:Value->Shared->Prop}{s:Shared}{a:Addr}{Z:List Ent}{t:SetTable}{ep:Nat}{ds:List D}{x:Value}{d:D}
theorem Ents.at {h:Heap}(e:Ents h Z ds) {i:Nat}{z:Ent}(hz:Z[i]? = some z):∃d,ds[i]? = some d/\Dv h d z.2.2/\hv d=z.2.1/\plN 8 d=true/\q02 d=true:=by
 have hi:=(Qc.mp hz).1;have hi2:i<ds.length:=by rw[<-e.1];exact hi
 exact⟨ds[i],by simp[hi2],e.2 i z ds[i] hz (by simp[hi2])⟩
theorem q0r {Q:(Array (Int×Value)×Nat×SetTable)->Shared->Prop}(S:SetIn s.heap a Z t ep) (h:Q ((Z.map (·.2)).toArray,ep,t) s):wpAny (model prog w) A (setState a) Q E s:=by obtain⟨o,ho,_,hd⟩:=S.obj;exact wpAny_setState_of ho hd S.fits h
theorem qD5 (wf:WF t Z):t.gaveWay=false:=by unfold SetTable.gaveWay;rcases wf.good with h|h|h<;>rw[h]<;>rfl
theorem if2 {α:Type}{M:Model}{c:Prop}[Decidable c] {a b:Sem α}{Q:α->Shared->Prop}(h1:c->wpAny M A a Q E s) (h2:¬c->wpAny M A b Q E s):wpAny M A (if c then a else b) Q E s:=by
 by_cases k:c
 ·rw[if_pos k];exact h1 k
 ·rw[if_neg k];exact h2 k
theorem qD6 {stored:List Value}{Q:Bool->Shared->Prop}(px:plN 8 d=true) (hx:q02 d=true) (Dx:Dv s.heap d x) (hs:∀y∈stored,∃e,Dv s.heap e y/\plN 8 e=true/\q02 e=true) (h:Q false s):wpAny (model prog w) A (searchCouldBeSeen x stored) Q E s:=by
 unfold searchCouldBeSeen;refine wpAny_bind ?_;refine wpAny_forIn_list _ (λ rest r s'=>r.1=none/\s'=s/\∀y∈rest,∃e,Dv s.heap e y/\plN 8 e=true/\q02 e=true) _ ?_ ?_ _ _ ⟨rfl,rfl,hs⟩
 ·rintro v rest r s' ⟨hr,rfl,hall⟩;obtain⟨e,z,pe,he⟩:=hall v Qb;have tl:=λ u hu'=>hall u (Qa _ hu');refine if2 (λ _=>wpAny_pure ⟨rfl,rfl,tl⟩) λ _=>?_
  ·refine wpAny_bind (qAP 8 8 (Qf _) px hx Dx ?_);simp only[Bool.not_true,QG,if_false];refine wpAny_bind (qAP 8 8 (Qf _) pe he z ?_);simp only[Bool.not_true,QG,if_false];refine wpAny_bind (q6U 8 8 (Qf _) px hx Dx ?_);simp only[QG,if_false];refine wpAny_bind (q6U 8 8 (Qf _) pe he z ?_);simp only[QG,if_false];exact wpAny_pure ⟨rfl,rfl,tl⟩
 ·rintro⟨r1,r2⟩ s' ⟨hr,rfl,_⟩;simp only at hr;subst hr;exact wpAny_pure h
theorem if3 {α:Type}{M:Model}{c:Prop}[Decidable c] {m:Sem Bool}{a b:Sem α}{Q:α->Shared->Prop}(hm:∀Q':Bool->Shared->Prop,Q' false s->wpAny M A m Q' E s) (h:wpAny M A b Q E s):wpAny M A (if c then m >>= λ z=>if z=true then a else b else b) Q E s :=
 if2 (λ _=>wpAny_bind (hm _ (by simp only[QG,if_false];exact h))) λ _=>h
def Tups (ds:List D):Prop:=∀d∈ds,∃l,d = .tup l
theorem q4b (S:SetIn s.heap a Z t ep) (en:Ents s.heap Z ds) (tu:Tups ds) (px:plN 8 d=true) (hx:q02 d=true) (Dx:Dv s.heap d x) (hu:A.units+8<cLine) {N:Nat}(ff:q1G t.mask (hv d) (slots Z) N) {Q:SetFound->Shared->Prop}
  (hy:d∈ds->Q (.there none) s) (hq:d∉ds->Q (.free (path t.mask (hv d) N).j false) s) (hN:N<=10*(t.mask+13)) :
  ∀(fuel n:Nat) (st:Option SetTable.Probe),st.getD (t.probeStart (hv d))=path t.mask (hv d) n->n<=N->N-n<fuel->(∀k,k<n->∀(i:Nat) (z:Ent),Z[i]? = some z->ds[i]? = some d->z.1=(path t.mask (hv d) k).j->False)->
   wpAny (model prog w) A (setSearchFrom a x (hv d) true fuel st) Q E s
 |0,n,_,_,_,hf,_=>by lia
 |fuel+1,n,st,hst,hn,hf,hno=>by
  unfold setSearchFrom;refine wpAny_bind (q0r S ?_);dsimp only;rw[qD5 S.wf,hst];simp only[QG,if_false];have hh:∀(i:Nat) (z:Ent),Z[i]? = some z->(((Z.map (·.2)).toArray[i]?.map (·.1)).getD 0)=z.2.1:=λ i z hz=>by simp[hz]
  generalize hg:SetTable.probe t _ (hv d) (path t.mask (hv d) n)=g;rcases q8x S.wf hh ff (10*SetTable.turns t.mask) n hn (by unfold SetTable.turns;lia) with ⟨k,i,z,h1,h2,h3,h4,h5,h6,h7⟩|⟨h1,h2⟩
  ·have hg':=hg.symm.trans h7;subst hg';dsimp only;obtain⟨e,e1,e2,e3,e4,e5⟩:=en.at h3;have hes:(Z.map (·.2)).toArray[i]? = some z.2:=(by simp[h3]);refine if3 (λ Q' hq'=>qD6 px hx Dx (λ y hy'=>?_) hq') ?_
   ·simp only[Qm] at hy';obtain⟨y',hy1,rfl⟩:=hy';have hm:y'∈(Z.map (·.2)).toArray:=(Array.mem_filter.mp (Array.mem_def.mpr hy1)).1;have hm2:y'∈Z.map (·.2):=(by simpa using hm);obtain⟨zz,hz1,rfl⟩:=Qm.mp hm2;obtain⟨i',hi',ei'⟩:=QR hz1;obtain⟨f,_,f2,f3,f4,f5⟩:=en.at (i:=i') (z:=zz) (by rw[Qi hi',ei']);exact⟨f,f2,f4,f5⟩
   rw[hes];dsimp only;refine wpAny_bind (wpAny_holding (q22 8 (A:=A) e4 px e2 Dx hu prog w E _ ?_));refine wpAny_bind (q0r S ?_)
   by_cases c:e=d
   ·subst c;rw[(q0Z e5 hx).mpr rfl];exact wpAny_pure (hy (Qk e1))
   ·have ne:eqb e d=false:=by
     cases q:eqb e d with
     |false=>rfl
     |true=>exact absurd ((q0Z e5 hx).mp q) c
    rw[ne];dsimp only;rw[if_neg (by decide)];have sm:t.sameMemory t.moves t.mask=some true:=(by unfold SetTable.sameMemory;simp);rw[sm];have hs:(slots Z)[i]? = some (path t.mask (hv d) k).j:=(by unfold slots;rw[Qn,h3];exact congrArg some h4);have sl:=q1b S.wf.place S.wf.ris hs;dsimp only;rw[if_pos rfl,sl];dsimp only;rw[hes];dsimp only;obtain⟨l,rfl⟩:=tu e (Qk e1);obtain⟨b,us,eb,x1,x2⟩:=e2;rw[eb];refine wpAny_bind (wpAny_isSame_ref_self (wpAny_bind (wpAny_pure ?_)));rw[if_pos rfl];dsimp only;rw[if_neg (by decide)];refine q4b S en tu px hx Dx hu ff hy hq hN fuel (k+1) _ rfl (by lia) (by lia) λ k' hk' i' z' hz' hd' ez'=>?_;have hz:=en.2 i' z' d hz' hd'
    by_cases c1:k'<n
    ·exact hno k' c1 i' z' hz' hd' ez'
    ·by_cases c2:k'=k
     ·subst c2;have hs':(slots Z)[i']? = some (path t.mask (hv d) k').j:=(by unfold slots;rw[Qn,hz'];exact congrArg some ez');have q1:=q1b S.wf.place S.wf.ris hs';rw[sl] at q1;cases q1;rw[e1] at hd';exact c (QJ.inj hd')
     ·exact h6 k' (by lia) (by lia) ⟨z',Qk hz',ez',hz.2.1.symm⟩
  ·have hg':=hg.symm.trans h2;subst hg';dsimp only;refine wpAny_pure (hq λ hm=>?_);obtain⟨i,hi,ei⟩:=QR hm;have hi2:i<Z.length:=(by rw[en.1];exact hi);have hdi:ds[i]? = some d:=(by rw[Qi hi,ei]);have hzi:Z[i]? = some Z[i]:=(by simp[hi2]);have hz:=en.2 i Z[i] d hzi hdi;obtain⟨k,k1,k2⟩:=qFJ S.wf ff (QU hi2) hz.2.1.symm
   by_cases c:k<n
   ·exact hno k c i _ hzi hdi k2
   ·exact h1 k (by lia) k1 ⟨_,QU hi2,k2,hz.2.1.symm⟩
end
end Snd
namespace Snd
open PySem PySem.Spec PySem.W PyProof.Rows L2 Ev SetT
variable {h:Heap}{Z:List Ent}
def Rl (h:Heap) (e:Int×Value) (d:D):Prop:=Dv h d e.2/\hv d=e.1/\plN 8 d=true/\q02 d=true
def Prs (h:Heap) (P:List ((Int×Value)×D)):Prop:=∀p∈P,Rl h p.1 p.2
theorem Prs.ents {P:List ((Int×Value)×D)}(q:Prs h P) (e:P.map (·.1)=Z.map (·.2)):Ents h Z (P.map (·.2)):=by
 have hl:P.length=Z.length:=by have:=congrArg List.length e;simpa using this
 refine⟨by simp[hl],λ i z d hz hd=>?_⟩;rw[Qn] at hd;cases hp:P[i]? with
 |none=>rw[hp] at hd;cases hd
 |some p =>
  rw[hp] at hd;have e1:p.2=d:=QJ.inj hd;have e2:(P.map (·.1))[i]? = some p.1:=by rw[Qn,hp];rfl
  rw[e,Qn,hz] at e2;have e3:z.2=p.1:=QJ.inj e2;have:=q p (Qk hp);rw[<-e3,e1] at this;exact this
theorem q4c {α β:Type}(f:α->β) {l m:List β}(p:l.Perm m):∀P:List α,P.map f=m->∃P':List α,P'.Perm P/\P'.map f=l:=by
 induction p with
 |nil=>exact λ P e=>⟨P,.refl _,e⟩
 |cons x _ ih =>
  intro P e;cases P with
  |nil=>cases e
  |cons y P =>
   simp only[Qz,List.cons.injEq] at e;obtain⟨P',p1,p2⟩:=ih P e.2;exact⟨y::P',p1.cons y,by rw[Qz,e.1,p2]⟩
 |swap x y l =>
  intro P e
  match P,e with
  |u::v::P,e =>
   simp only[Qz,List.cons.injEq] at e;exact⟨v::u::P,.swap _ _ _,by simp[e.1,e.2.1,e.2.2]⟩
 |trans _ _ ih1 ih2 =>
  intro P e;obtain⟨P1,p1,e1⟩:=ih2 P e;obtain⟨P2,p2,e2⟩:=ih1 P1 e1;exact⟨P2,p2.trans p1,e2⟩
structure SetD (M:D->Value->Prop) (h₀ h:Heap) (a:Addr) (ds:List D) (led:Bool):Prop where
 ex:∃Z t ep P,SetIn h a Z t ep/\Prs h₀ P/\P.map (·.1)=Z.map (·.2)/\(P.map (·.2)).Perm ds/\t.tooFull=false/\t.led=led/\∀p∈P,M p.2 p.1.2
 kp:∀b o,h₀.get? b=some o->h.get? b=some o
 nw:h₀.get? a=none
theorem Prs.keep {h':Heap}{P:List ((Int×Value)×D)}(q:Prs h P) (k:∀b o,h.get? b=some o->h'.get? b=some o):Prs h' P:=λ p hp=>let ⟨r1,r2⟩:=q p hp;⟨(q5k k).1 _ _ r1,r2⟩
theorem q8y {h₀ h':Heap}{a:Addr}(kp:∀b o,h₀.get? b=some o->h.get? b=some o) (nw:h₀.get? a=none) (k:Heap.SameBut a h h'):∀b o,h₀.get? b=some o->h'.get? b=some o:=λ b o e=>by rw[k.2 b (λ c=>by subst c;rw[nw] at e;cases e)];exact kp b o e
section
variable {prog:Program}{w:World}{A:Around}{E:Value->Shared->Prop}{s:Shared}{a:Addr}{ds:List D}{x:Value}{d:D}{led:Bool}
theorem q5F {m n:Nat}(g:q26 m) (h1:n*5≥m*3) (h2:(n-1)*5<m*3) (h3:n<=64):q26 (SetTable.sizeAbove (SetTable.grown n)-1)/\n<=SetTable.sizeAbove (SetTable.grown n)-1/\n*5<(SetTable.sizeAbove (SetTable.grown n)-1)*3:=by
 rcases g with g|g|g
 ·have:n=5:=by lia
  subst this;unfold q26;decide
 ·have:n=19:=by lia
  subst this;unfold q26;decide
 ·lia
theorem q40 {Z':List Ent}{t t':SetTable}{ep:Nat}(S:SetIn s.heap a Z t ep) (wf:WF t' Z') (pl:t'.plain=true) (hl:Z'.length<=64) {Q:Unit->Shared->Prop}
  (h:∀h',Heap.SameBut a s.heap h'->SetIn h' a Z' t' (ep+1)->Q () {s with heap:=h'}):wpAny (model prog w) A (storeSet a (Z'.map (·.2)).toArray t') Q E s:=by
 obtain⟨o,ho,hx,hd⟩:=S.obj;have hg:(s.heap.update a (Obj.putSet (Z'.map (·.2)).toArray t')).get? a=some {o with data:= .set (Z'.map (·.2)).toArray (ep+1) t'}:=by have:=Heap.get?_update_self (Obj.putSet (Z'.map (·.2)).toArray t') ho (by rw[putSet_of _ t' hd];rfl);rw[putSet_of _ t' hd] at this;exact this
 refine wpAny_storeSet_of ho hd (h _ (Heap.SameBut.update s.heap a _) ⟨⟨_,hg,hx,rfl⟩,wf,pl⟩) ?_;rw[sizeLine_eq];simp;lia
theorem qD7 {t:SetTable}{ep n:Nat}(S:SetIn s.heap a Z t ep) (hn:n=Z.length) (g:q26 (SetTable.sizeAbove (SetTable.grown n)-1)) (few:n<=SetTable.sizeAbove (SetTable.grown n)-1) (hl:n<=64) {Q:Unit->Shared->Prop}
  (h:∀h' Z' t',Heap.SameBut a s.heap h'->SetIn h' a Z' t' (ep+1)->(Z'.map (·.2)).Perm (Z.map (·.2))->t'.mask=SetTable.sizeAbove (SetTable.grown n)-1->t'.led=t.led->Q () {s with heap:=h'}):wpAny (model prog w) A (setRelay a (SetTable.grown n)) Q E s:=by
 obtain⟨t',order,Z',r1,r2,r3,r4,r5,r6,r7⟩:=q4a t (Z.map (·.2)) (SetTable.grown n) g (by rw[Qe,<-hn];exact few);unfold setRelay;refine wpAny_bind (q0r S ?_);dsimp only;have hs:¬(SetTable.sizeAbove (SetTable.grown n) > sizeLine):=by rw[sizeLine_eq];rcases g with g|g|g<;>lia
 rw[if_neg hs];refine wpAny_bind ?_;rw[r1];have hz:Z'.length=Z.length:=by have:=r4.length_eq;simpa using this
 change wpAny _ _ (if ((order.filterMap ((Z.map (·.2)).toArray[·]?)).size != (Z.map (·.2)).toArray.size)=true then (unsupported "internal:set-table-lost-an-element" >>= λ _=>pure (order.filterMap ((Z.map (·.2)).toArray[·]?),t')) else pure (order.filterMap ((Z.map (·.2)).toArray[·]?),t')) _ _ _;rw[r3,if_neg (by simp[hz])];exact wpAny_pure (q40 S r2 (by rw[r7];exact S.plain) (by lia) λ h' k S'=>h h' Z' t' k S' r4 r5 r6)
end
end Snd
namespace Snd
open PySem PySem.Spec PySem.W PyProof.Rows L2 Ev SetT
section
variable {prog:Program}{w:World}{A:Around}{E:Value->Shared->Prop}{s:Shared}{a:Addr}{ds:List D}{x:Value}{d:D}{led:Bool}{h₀:Heap}{M:D->Value->Prop}
theorem q70 (t:SetTable) (j:Nat) (h:t.plain=true):({(t.put j).1 with plain:=true}:SetTable)=(t.put j).1:=by obtain⟨a,b,c,e,f,g,p⟩:=t;cases h;rfl
theorem qFL (S:SetD M h₀ s.heap a ds led) (tu:Tups (d::ds)) (px:plN 8 d=true) (hx:q02 d=true) (Dx0:Dv h₀ d x) (mx:M d x) (hu:A.units+8<cLine) (hl:ds.length<64) {Q:Bool->Shared->Prop}
  (hy:d∈ds->Q false s) (hq:d∉ds->∀h',Heap.SameBut a s.heap h'->SetD M h₀ h' a (d::ds) led->Q true {s with heap:=h'}):wpAny (model prog w) A (setAddHashed a x (hv d)) Q E s:=by
 obtain⟨⟨Z,t,ep,P,S,pr,e1,e2,tf,le,mm⟩,kp,nw⟩:=S;have Dx:=(q5k kp).1 _ _ Dx0;have en:=(pr.keep kp).ents e1;have tu':Tups (P.map (·.2)):=λ e he=>tu e (Qa _ (e2.mem_iff.mp he));have hlen:Z.length=ds.length:=by have h1:=congrArg List.length e1;have h2:=e2.length_eq;simp at h1 h2;lia
 have tf':Z.length*5<t.mask*3:=by have:=tf;unfold SetTable.tooFull at this;rw[S.wf.fill] at this;simpa using this
 obtain⟨N,n1,n2⟩:=q5D S.wf.good (hv d) (slots Z) (by have:=S.wf.few;simpa[slots] using this);have hm:t.mask<=127:=by rcases S.wf.good with h|h|h<;>lia
 obtain⟨l,rfl⟩:=tu d Qb;unfold setAddHashed setAddHashedIn;refine wpAny_holding (wpAny_bind (q0r S ?_));dsimp only;have bs:byScan x (Z.map (·.2)).toArray=false:=by obtain⟨b,us,rfl,_⟩:=Dx;rfl
 rw[bs];simp only[QG,if_false];unfold setSearch;refine wpAny_bind (q4b S en tu' px hx Dx hu n2 (λ hm=>?_) (λ hm=>?_) n1 100000 0 none rfl (QK _) (by lia) (λ k hk=>by lia))
 ·exact wpAny_pure (hy (e2.mem_iff.mp hm))
 ·dsimp only;refine wpAny_bind (q0r S ?_);dsimp only;rw[show (t.put (path t.mask (hv (.tup l)) N).j).1.plain=true from S.plain];rw[if_pos rfl];refine wpAny_bind (qEU 8 8 (Qf _) px hx Dx ?_);rw[if_pos rfl];generalize hz:(path t.mask (hv (.tup l)) N).j=j;have wf:=S.wf.insert (x:=x) n2 (by have:=S.wf.good;rcases this with h|h|h<;>lia) true;rw[q70 _ _ S.plain] at wf;rw[hz] at wf;have hp:(t.put j).2<=Z.length:=by have:=(q0x (slots Z) S.wf.ris j).1;show SetTable.below t.place j<=_;rw[S.wf.place];simpa[slots] using this
  have ei:SetTable.insertAt (Z.map (·.2)).toArray (t.put j).2 (hv (.tup l),x)=((insZ Z (t.put j).2 (j,hv (.tup l),x)).map (·.2)).toArray:=by rw[q2a _ _ _ (by simpa using hp),q2H]
  have hlz:(insZ Z (t.put j).2 (j,hv (.tup l),x)).length=Z.length+1:=by have:=(q4Z Z (t.put j).2 (j,hv (.tup l),x)).length_eq;simpa using this
  rw[ei]
  let P':List ((Int×Value)×D):=P.take (t.put j).2++((hv (.tup l),x),.tup l)::P.drop (t.put j).2
  have pp:P'.Perm (((hv (.tup l),x),.tup l)::P):=by refine List.perm_middle.trans (.cons _ ?_);rw[Q6]
  have q1:P'.map (·.1)=(insZ Z (t.put j).2 (j,hv (.tup l),x)).map (·.2):=by rw[q2H,<-e1];simp[P',List.map_take,List.map_drop]
  have q2:(P'.map (·.2)).Perm (.tup l::ds):=List.Perm.trans (pp.map (λ p=>p.2)) (List.Perm.trans (by rw[Qz]) (e2.cons (D.tup l)));have pr':Prs h₀ P':=λ p hp'=>by
   rcases Qh.mp (pp.mem_iff.mp hp') with h|h
   ·subst h;exact⟨Dx0,rfl,px,hx⟩
   ·exact pr p h
  have mm':∀p∈P',M p.2 p.1.2:=λ p hp'=>by
   rcases Qh.mp (pp.mem_iff.mp hp') with h|h
   ·subst h;exact mx
   ·exact mm p h
  have hno:D.tup l∉ds:=λ h=>hm (e2.mem_iff.mpr h);refine wpAny_bind (q40 S wf S.plain (by lia) λ h' k S'=>?_);have kp2:=q8y kp nw k;have hf:(t.put j).1.tooFull=decide ((Z.length+1)*5≥t.mask*3):=by unfold SetTable.tooFull;rw[wf.fill,hlz];rfl
  by_cases c:(Z.length+1)*5≥t.mask*3
  ·rw[if_pos (by rw[hf];simpa using c)];have hsz:(Z.map (·.2)).toArray.size+1=Z.length+1:=(by simp);obtain⟨g1,g2,g3⟩:=q5F S.wf.good c (by simpa using tf') (by lia);rw[hsz];refine wpAny_bind (qD7 S' hlz.symm g1 g2 (by lia) λ h2 Z2 t2 k2 S2 p2 m2 l2=>?_);obtain⟨P2,o1,o2⟩:=q4c (·.1) p2 P' q1;refine wpAny_pure (hq hno h2 (k.trans k2) ⟨⟨Z2,t2,_,P2,S2,λ p hp'=>pr' p (o1.mem_iff.mp hp'),o2,List.Perm.trans (o1.map (λ p=>p.2)) q2,?_,?_,λ p hp'=>mm' p (o1.mem_iff.mp hp')⟩,q8y kp2 nw k2,nw⟩)
   ·unfold SetTable.tooFull;rw[S2.wf.fill,m2];have hz2:Z2.length=Z.length+1:=(by have:=p2.length_eq;simp[hlz] at this;lia);rw[hz2];simpa using g3
   ·rw[l2];exact le
  ·rw[if_neg (by rw[hf];simpa using c)];exact wpAny_pure (hq hno h' k ⟨⟨_,_,_,P',S',pr',q1,q2,by rw[hf];simpa using c,le,mm'⟩,kp2,nw⟩)
end
end Snd
namespace Snd
open PySem PySem.Spec PySem.W PyProof.Rows L2 Ev SetT
theorem q5G {t:SetTable}{Z:List Ent}(wf:WF t Z) {h:Int}{hash:Nat->Int}(hh:∀i,(hash i==h)=false) {N:Nat}(ff:q1G t.mask h (slots Z) N) :
  ∀fuel n,n<=N->N-n<fuel->SetTable.probe.go t hash h fuel (path t.mask h n)=some (.empty (path t.mask h N).j none)
 |0,n,_,hf=>by lia
 |fuel+1,n,hn,hf=>by
  by_cases e:n=N
  ·subst e;unfold SetTable.probe.go;rw[q5C wf.place wf.dum ff.1];simp only[q3P]
  ·have hl:=ff.2 n (by lia);obtain⟨i,hi,ei⟩:=QR hl;have hs:(slots Z)[i]? = some (path t.mask h n).j:=(by rw[Qi hi,ei]);unfold SetTable.probe.go;rw[q1b wf.place wf.ris hs];simp only[hh i,QG,if_false];exact q5G wf hh ff fuel (n+1) (by lia) (by lia)
theorem qBJ {t:SetTable}{Z:List Ent}(wf:WF t Z) {h:Int}{N:Nat}(ff:q1G t.mask h (slots Z) N) (hN:N<=10*(t.mask+13)):t.freeSlot h=some ((path t.mask h N).j,false):=by unfold SetTable.freeSlot;have:=q5G wf (h:=h) (hash:=λ _=>h+1) (λ i=>by simp;lia) ff (10*SetTable.turns t.mask) 0 (QK _) (by unfold SetTable.turns;lia);rw[show t.probe (λ _=>h+1) h (t.probeStart h)=_ from this];rfl
theorem q71 (t:SetTable) (es:List (Int×Value)) (wanted:Nat) (g:q26 (SetTable.sizeAbove wanted-1)) (few:es.length<=SetTable.sizeAbove wanted-1) {t':SetTable}{order:Array Nat}
  (h:t.relaid (es.toArray.map (·.1)) wanted=some (t',order)):order.toList.Perm (Qp es.length):=by
 obtain⟨owner,As,e,L⟩:=q35 g (es.map (·.1)) (by rw[Qe];exact few);have h2:SetTable.laid (SetTable.sizeAbove wanted-1) t.finger (t.movedTo (SetTable.sizeAbove wanted-1)) t.led t.plain (es.toArray.map (·.1))=some (t',order):=h;unfold SetTable.laid at h2;rw[show es.toArray.map (·.1)=(es.map (·.1)).toArray by simp,e] at h2;have h3:order=((q15 (SetTable.sizeAbove wanted-1) owner).map (·.2)).toArray:=(congrArg (·.2) (QJ.inj h2)).symm;rw[h3];have:=q6z L;rw[Qe] at this;exact this
theorem q7u {Z:List Ent}{t:SetTable}{n:Nat}(hn:n=Z.length) (g:q26 (SetTable.sizeAbove (SetTable.grown n)-1)) (few:n<=SetTable.sizeAbove (SetTable.grown n)-1) :
  ∃Z' t',relayAll t (Z.map (·.2)).toArray (SetTable.grown n)=((Z'.map (·.2)).toArray,t',false)/\WF t' Z'/\(Z'.map (·.2)).Perm (Z.map (·.2))/\t'.mask=SetTable.sizeAbove (SetTable.grown n)-1/\t'.led=t.led/\t'.plain=t.plain:=by
 have fw:(Z.map (·.2)).length<=SetTable.sizeAbove (SetTable.grown n)-1:=by rw[Qe,<-hn];exact few
 obtain⟨t',order,Z',r1,r2,r3,r4,r5,r6,r7⟩:=q4a t (Z.map (·.2)) (SetTable.grown n) g fw;refine⟨Z',t',?_,r2,r4,r5,r6,r7⟩;have hp:=q71 t (Z.map (·.2)) (SetTable.grown n) g fw r1;unfold relayAll;rw[r1];dsimp only;rw[r3];have c1:coversAll order (Z.map (·.2)).toArray.size=true:=by unfold coversAll;rw[List.isPerm_iff];simpa using hp
 have c2:t'.fits (Z'.map (·.2)).toArray.size=true:=by unfold SetTable.fits;rw[r2.size,r2.fill];have:=r2.few;simp[this]
 rw[c1,c2];rfl
end Snd
namespace Snd
open PySem PySem.Spec PySem.W PyProof.Rows L2 Ev SetT
def Ints (ds:List D):Prop:=∀d∈ds,∃i,d = .int i
section
variable {prog:Program}{w:World}{A:Around}{E:Value->Shared->Prop}{s:Shared}{a:Addr}{ds:List D}{x:Value}{n:Int}{led:Bool}{h₀:Heap}{M:D->Value->Prop}
theorem qBK {M:Model}{Q:Unit->Shared->Prop}(h:Q () s):wpAny M A (match false with|true=>rule "set.scan.the-table-gave-way" | false=>pure ()) Q E s:=wpAny_pure h
theorem add_int (S:SetD M h₀ s.heap a ds led) (tu:Ints ds) (Dx0:Dv h₀ (.int n) x) (mx:M (.int n) x) (hl:ds.length<64) {Q:Bool->Shared->Prop}
  (hy : .int n∈ds->Q false s) (hq : .int n∉ds->∀h',Heap.SameBut a s.heap h'->SetD M h₀ h' a (.int n::ds) led->Q true {s with heap:=h'}):wpAny (model prog w) A (setAddHashed a x (hv (.int n))) Q E s:=by
 obtain⟨⟨Z,t,ep,P,S,pr,e1,e2,tf,le,mm⟩,kp,nw⟩:=S;have en:=(pr.keep kp).ents e1;have px:plN 8 (.int n)=true:=rfl;have hx:q02 (.int n)=true:=rfl;have hlen:Z.length=ds.length:=by have h1:=congrArg List.length e1;have h2:=e2.length_eq;simp at h1 h2;lia
 have tf':Z.length*5<t.mask*3:=by have:=tf;unfold SetTable.tooFull at this;rw[S.wf.fill] at this;simpa using this
 obtain⟨N,n1,n2⟩:=q5D S.wf.good (hv (.int n)) (slots Z) (by have:=S.wf.few;simpa[slots] using this);have fsl:=qBJ S.wf n2 n1;obtain⟨tk,rfl⟩:=Dx0;have hel:ElemsOf (intKind prog w) (Z.map (·.2)):=λ e he=>by obtain⟨z,hz,rfl⟩:=Qm.mp he;obtain⟨i,hi,ei⟩:=QR hz;obtain⟨d,d1,d2,d3,d4,d5⟩:=en.at (i:=i) (z:=z) (by rw[Qi hi,ei]);obtain⟨m,rfl⟩:=tu d (e2.mem_iff.mp (Qk d1));obtain⟨tk',d6⟩:=d2;rw[d6];exact⟨⟨m,by simp[intKind,Value.isInt],d3.symm⟩,rfl⟩
 have his:∀p∈P,(intKind prog w).is n p.1.2=true↔p.2 = .int n:=λ p hp=>by obtain⟨m,em⟩:=tu p.2 (e2.mem_iff.mp (Qm.mpr ⟨p,hp,rfl⟩));have:=((pr.keep kp) p hp).1;rw[em] at this;obtain⟨tk',q⟩:=this;rw[q,em];simp[intKind,Value.isInt]
 unfold setAddHashed setAddHashedIn;obtain⟨o,ho,hex,hd⟩:=S.obj;refine wpAny_holding (wpAny_bind (q0r S ?_));dsimp only;rw[byScan_of (knd:=intKind prog w) rfl (by show (Z.map (·.2)).toArray.size<4096;simp;lia) (by simpa using hel)];rw[if_pos rfl];unfold setAddByScan;refine wpAny_bind (wpAny_bind (wpAny_rule ?_));refine wpAny_bind (wpAny_setScan_of (knd:=intKind prog w) (k:=n) (by simp[intKind,Value.isInt]) ho hd S.fits (by simpa using hel) ?_);cases hr:List.findIdx? (λ e=>(intKind prog w).is n e.2) (Z.map (·.2)).toArray.toList with
 |some j =>
  dsimp only;obtain⟨hj,hpj,_⟩:=List.findIdx?_eq_some_iff_getElem.mp hr;refine wpAny_pure (wpAny_pure (hy ?_));have hm:(Z.map (·.2)).toArray.toList[j]∈P.map (·.1):=by rw[e1];exact QU hj
  obtain⟨p,hp,ep'⟩:=Qm.mp hm;rw[<-ep'] at hpj;exact e2.mem_iff.mp (Qm.mpr ⟨p,hp,(his p hp).mp hpj⟩)
 |none =>
  dsimp only;have hno:D.int n∉ds:=λ h=>by
   obtain⟨p,hp,ep'⟩:=Qm.mp (e2.mem_iff.mpr h);have h1:=(his p hp).mpr ep';have h2:p.1∈(Z.map (·.2)).toArray.toList:=by have:p.1∈P.map (λ p=>p.1):=Qm.mpr ⟨p,hp,rfl⟩;rw[e1] at this;exact this
   have:=List.findIdx?_eq_none_iff.mp hr _ h2;rw[h1] at this;cases this
  generalize hz:(path t.mask (hv (.int n)) N).j=j at fsl;have wf:=S.wf.insert (x:= .int n tk) n2 (by have:=S.wf.good;rcases this with h|h|h<;>lia) true;rw[q70 _ _ S.plain] at wf;rw[hz] at wf;have hp:(t.put j).2<=Z.length:=by have:=(q0x (slots Z) S.wf.ris j).1;show SetTable.below t.place j<=_;rw[S.wf.place];simpa[slots] using this
  have ei:SetTable.insertAt (Z.map (·.2)).toArray (t.put j).2 (hv (.int n),.int n tk)=((insZ Z (t.put j).2 (j,hv (.int n),.int n tk)).map (·.2)).toArray:=by rw[q2a _ _ _ (by simpa using hp),q2H]
  have hlz:(insZ Z (t.put j).2 (j,hv (.int n),.int n tk)).length=Z.length+1:=by have:=(q4Z Z (t.put j).2 (j,hv (.int n),.int n tk)).length_eq;simpa using this
  have hft:(t.put j).1.fits ((insZ Z (t.put j).2 (j,hv (.int n),.int n tk)).map (·.2)).toArray.size=true:=by unfold SetTable.fits;rw[wf.size,wf.fill];have:=wf.few;simp[this]
  have hL:layNew t (Z.map (·.2)).toArray (hv (.int n)) (.int n tk)=(((insZ Z (t.put j).2 (j,hv (.int n),.int n tk)).map (·.2)).toArray,(t.put j).1,false,false):=by unfold layNew;rw[fsl];dsimp only;rw[ei];unfold SetTable.orStandIn;rw[hft];rfl
  let P':List ((Int×Value)×D):=P.take (t.put j).2++((hv (.int n),.int n tk),.int n)::P.drop (t.put j).2
  have pp:P'.Perm (((hv (.int n),.int n tk),.int n)::P):=by refine List.perm_middle.trans (.cons _ ?_);rw[Q6]
  have q1:P'.map (·.1)=(insZ Z (t.put j).2 (j,hv (.int n),.int n tk)).map (·.2):=by rw[q2H,<-e1];simp[P',List.map_take,List.map_drop]
  have q2:(P'.map (·.2)).Perm (.int n::ds):=List.Perm.trans (pp.map (λ p=>p.2)) (List.Perm.trans (by rw[Qz]) (e2.cons (D.int n)));have pr':Prs h₀ P':=λ p hp'=>by
   rcases Qh.mp (pp.mem_iff.mp hp') with h|h
   ·subst h;exact⟨⟨tk,rfl⟩,rfl,px,hx⟩
   ·exact pr p h
  have mm':∀p∈P',M p.2 p.1.2:=λ p hp'=>by
   rcases Qh.mp (pp.mem_iff.mp hp') with h|h
   ·subst h;exact mx
   ·exact mm p h
  rw[hL];dsimp only;refine wpAny_bind (qBK ?_);rw[show (t.put j).1.plain=true from S.plain];rw[if_pos rfl,hashByValue_scannable 8 (x:= .int n tk) rfl];refine wpAny_bind (wpAny_pure ?_);rw[if_pos (show plainKind (.int n tk)=true from rfl)];refine wpAny_bind (q40 S wf S.plain (by lia) λ h' k S'=>?_);have kp2:=q8y kp nw k;have hf:(t.put j).1.tooFull=decide ((Z.length+1)*5≥t.mask*3):=by unfold SetTable.tooFull;rw[wf.fill,hlz];rfl
  by_cases c:(Z.length+1)*5≥t.mask*3
  ·rw[if_pos (by rw[hf];simpa using c)];obtain⟨g1,g2,g3⟩:=q5F S.wf.good c (by simpa using tf') (by lia);have hsz:((insZ Z (t.put j).2 (j,hv (.int n),.int n tk)).map (·.2)).toArray.size=Z.length+1:=(by simp[hlz]);rw[hsz];obtain⟨Z2,t2,y1,y2,y3,y4,y5,y6⟩:=q7u (Z:=insZ Z (t.put j).2 (j,hv (.int n),.int n tk)) (t:=(t.put j).1) hlz.symm g1 g2;rw[y1];dsimp only;have hz2:Z2.length=Z.length+1:=(by have:=y3.length_eq;simp[hlz] at this;lia);refine wpAny_bind (qBK ?_);refine wpAny_bind (q40 S' y2 (by rw[y6];exact S.plain) (by lia) λ h2 k2 S2=>?_);obtain⟨P2,o1,o2⟩:=q4c (·.1) y3 P' q1;refine wpAny_pure (wpAny_pure (hq hno h2 (k.trans k2) ⟨⟨Z2,t2,_,P2,S2,λ p hp'=>pr' p (o1.mem_iff.mp hp'),o2,List.Perm.trans (o1.map (λ p=>p.2)) q2,?_,?_,λ p hp'=>mm' p (o1.mem_iff.mp hp')⟩,q8y kp2 nw k2,nw⟩))
   ·unfold SetTable.tooFull;rw[S2.wf.fill,y4,hz2];simpa using g3
   ·rw[y5];exact le
  ·rw[if_neg (by rw[hf];simpa using c)];exact wpAny_pure (wpAny_pure (hq hno h' k ⟨⟨_,_,_,P',S',pr',q1,q2,by rw[hf];simpa using c,le,mm'⟩,kp2,nw⟩))
end
end Snd
namespace Snd
open PySem PySem.Spec PySem.W PyProof.Rows L2 Ev SetT
section
variable {prog:Program}{w:World}{A:Around}{E:Value->Shared->Prop}{s:Shared}{a:Addr}{ds xs:List D}{us:List Value}{led:Bool}{h₀:Heap}{M:D->Value->Prop}
def Kin (xs:List D):Prop:=Tups xs\/Ints xs
theorem qJp {d:D}{x:Value}(S:SetD M h₀ s.heap a ds led) (kn:Kin (d::ds)) (px:plN 8 d=true) (hx:q02 d=true) (Dx:Dv h₀ d x) (mx:M d x) (hu:A.units+10<cLine) (hl:ds.length<64) {Q:Bool->Shared->Prop}
  (hy:d∈ds->∀tk,Q false {s with toks:=tk}) (hq:d∉ds->∀h' tk,Heap.SameBut a s.heap h'->SetD M h₀ h' a (d::ds) led->Q true {s with heap:=h',toks:=tk}):wpAny (model prog w) A (setAdd a x) Q E s:=by
 unfold setAdd;refine wpAny_holding (wpAny_bind (qCB 8 px hx ((q5k S.kp).1 _ _ Dx) (by lia) λ tk=>?_));rcases kn with kn|kn
 ·exact qFL (s:={s with toks:=tk}) S kn px hx Dx mx (by lia) hl (λ h=>hy h tk) λ h h' k S'=>hq h h' tk k S'
 ·obtain⟨n,rfl⟩:=kn d Qb;exact add_int (s:={s with toks:=tk}) S (λ e he=>kn e (Qa _ he)) Dx mx hl (λ h=>hy h tk) λ h h' k S'=>hq h h' tk k S'
theorem SetD.move {h h':Heap}{wr:List Addr}(S:SetD M h₀ h a ds led) (ha:a∉wr) (hw:∀b∈wr,h₀.get? b=none) (k:∀b o,b∉wr->h.get? b=some o->h'.get? b=some o):SetD M h₀ h' a ds led:=by obtain⟨⟨Z,t,ep,P,⟨⟨o,ho,r⟩,wf,pl⟩,q⟩,kp,nw⟩:=S;refine⟨⟨Z,t,ep,P,⟨⟨o,k a o ha ho,r⟩,wf,pl⟩,q⟩,λ b o e=>k b o (λ hb=>?_) (kp b o e),nw⟩;rw[hw b hb] at e;cases e
theorem q8z {i:Nat}{d e:D}(h:xs[i]? = some d):e∈xs.take (i+1)↔e=d\/e∈xs.take i:=by rw[List.take_succ,h,Qq];simp;exact Or.comm
theorem q41 {R:Result->Shared->Prop}{I:Addr}{fp wr:List Addr}{n:Nat}{P:Nat->Value->Prop}{St:Nat->Heap->Prop}(W:Walks prog w A.in1 I fp wr n P St) (haf:a∉fp) (hw:∀b∈wr,h₀.get? b=none)
  (dx:DvL h₀ xs us) (mx:∀(i:Nat) d v,xs[i]? = some d->us[i]? = some v->M d v) (hP:∀i v,P i v->us[i]? = some v) (hn:n=us.length) (kn:Kin xs) (hh:q09 xs=true) (hp:∀d∈xs,plN 8 d=true) (hu:A.units+11<cLine) (hl:∀l:List D,l.Nodup->(∀d∈l,d∈xs)->l.length<64) :
  ∀(k i:Nat) (s:Shared) (ds:List D),n-i=k->i<=n->St i s.heap->SetD M h₀ s.heap a ds led->ds.Nodup->(∀d,d∈ds↔d∈xs.take i)->
   (∀h' tk ds',(∀b o,b∉a::wr->s.heap.get? b=some o->h'.get? b=some o)->SetD M h₀ h' a ds' led->ds'.Nodup->(∀d,d∈ds'↔d∈xs)->R (.ok (.ret .none)) {s with heap:=h',toks:=tk})->
   codeAny (model prog w) A (.builtin "set.update.loop" ⟨[.ref a,.ref I],[]⟩) R s:=by
 have haw:a∉wr:=λ h=>haf (W.sub _ h);have hxl:=dx.length;intro k
 induction k with
 |zero =>
  intro i s ds hk hi hst S nd hm hR;have:i=n:=by lia
  subst this;refine codeAny_builtin F.entry_set_update_loop ?_;rw[Around.under_plainId F.plain_set_update_loop _];show wpAny _ A.in1 (pyNext (.ref I) >>= _) _ _ s;refine wpAny_bind (W.done s _ _ hst λ h' tk hm'=>?_);show wpAny _ A.in1 (ret Value.none) _ _ _;refine wpAny_pure (hR h' tk ds (λ b o hb e=>hm' b o (λ h=>hb (Qa _ h)) e) (S.move haw hw hm') nd λ d=>?_);rw[hm d,QV (by lia)]
 |succ k ih =>
  intro i s ds hk hi hst S nd hm hR;refine codeAny_builtin F.entry_set_update_loop ?_;rw[Around.under_plainId F.plain_set_update_loop _];show wpAny _ A.in1 (pyNext (.ref I) >>= _) _ _ s;refine wpAny_bind (W.item i s _ _ (by lia) hst λ v h1 tk1 hv hst' hm'=>?_);have hv':=hP i v hv;have hix:i<xs.length:=by lia
  have hdi:xs[i]? = some xs[i]:=by simp[hix]
  obtain⟨v',hv2,Dx⟩:=dx.get hdi;rw[hv'] at hv2;cases hv2;have S1:=S.move haw hw hm';have sub:∀d∈ds,d∈xs:=λ d hd=>List.mem_of_mem_take ((hm d).mp hd);have hmem:xs[i]∈xs:=QU hix;have kn':Kin (xs[i]::ds):=by
   rcases kn with kn|kn
   ·exact .inl λ d hd=>(Qh.mp hd).elim (λ h=>kn d (h▸hmem)) λ h=>kn d (sub d h)
   ·exact .inr λ d hd=>(Qh.mp hd).elim (λ h=>kn d (h▸hmem)) λ h=>kn d (sub d h)
  show wpAny _ A.in1 (holding [v] (setAdd a v) >>= _) _ _ _;refine wpAny_bind (wpAny_holding (qJp (s:={s with heap:=h1,toks:=tk1}) S1 kn' (hp _ hmem) (q0K.mp hh _ hmem) Dx (mx i _ _ hdi hv') (by rw[Around.in1_units];lia) (hl ds nd sub) (λ hd tk=>?_) λ hd h2 tk k2 S2=>?_))
  ·refine wpAny_pure ⟨plainId_quiet F.plain_set_update_loop _,ih (i+1) _ ds (by lia) (by lia) hst' S1 nd (λ d=>?_) λ h3 tk3 ds3 k3 S3 nd3 m3=>?_⟩
   ·rw[q8z hdi,hm d];exact⟨.inr,λ h=>h.elim (λ e=>e▸(hm _).mp hd) id⟩
   ·exact hR h3 tk3 ds3 (λ b o hb e=>k3 b o hb (hm' b o (λ h=>hb (Qa _ h)) e)) S3 nd3 m3
  ·refine wpAny_pure ⟨plainId_quiet F.plain_set_update_loop _,ih (i+1) _ (xs[i]::ds) (by lia) (by lia) (W.frame _ _ _ hst' λ b hb o e=>?_) S2 (QY.mpr ⟨hd,nd⟩) (λ d=>?_) λ h3 tk3 ds3 k3 S3 nd3 m3=>?_⟩
   ·show h2.get? b=some o;rw[k2.2 b (λ h:b=a=>haf (by rw[<-h];exact hb))];exact e
   ·rw[q8z hdi,Qh,hm d]
   ·refine hR h3 tk3 ds3 (λ b o hb e=>k3 b o hb ?_) S3 nd3 m3;show h2.get? b=some o;rw[k2.2 b (λ h:b=a=>hb (by rw[h];exact Qb))];exact hm' b o (λ h=>hb (Qa _ h)) e
end
end Snd
namespace Snd
open PySem PySem.Spec PySem.W PyProof.Rows L2 Ev SetT
noncomputable def byT (w:World):Bool:=w.params.followText "set-order"
noncomputable def set0 (w:World):Obj:={cls:= .type "set",dict:=none,data:= .set #[] 0 (.fresh 0 0 (!byT w))}
section
variable {prog:Program}{w:World}{A:Around}{E:Value->Shared->Prop}{s:Shared}{a:Addr}{ds xs:List D}{us:List Value}{led:Bool}{h₀:Heap}{M:D->Value->Prop}
theorem qFM (v:Value) {Q₁:Value->Shared->Prop}(h:Q₁ (.ref s.heap.objs.size) {s with heap:=s.heap.push (set0 w)}):codeAny (model prog w) A (.call (.builtin "set.__new__") ⟨[.type "set",v],[]⟩) (wants Q₁ E) s:=by
 refine codeAny_of_tree (show wpAny _ A.in1 (checkBuiltinCall "set.__new__" ⟨[.type "set",v],[]⟩ >>= λ _=>again (.builtin "set.__new__" ⟨[.type "set",v],[]⟩)) _ _ s from ?_);refine wpAny_bind (wpAny_of_eq (F.newCall_set_1 v) (wpAny_pure (And.intro (plainId_quiet F.plain_set_new _) (codeAny_builtin F.entry_set_new ?_))));rw[(Around.under_plainId F.plain_set_new _)];unfold Builtin.«set.__new__»;unfold Builtin.Frozenset.newClass;have hss:=sub_set_self;obtain⟨hp,ge,dr,tk,os⟩:=s;dsimp only
 wp_walk
 refine wpAny_askSetting (wpAny_pure ?_);dsimp only;simp only[newObj];exact wpAny_bind (wpAny_alloc (wpAny_pure (wpAny_pure h)))
theorem qI3 (hn:h₀.get? h₀.objs.size=none):SetD M h₀ (h₀.push (set0 w)) h₀.objs.size [] (!byT w):=by refine⟨⟨[],.fresh 0 0 (!byT w),0,[],⟨⟨set0 w,Heap.get?_push_size _ rfl,⟨rfl,rfl,rfl⟩,rfl⟩,⟨rfl,List.Pairwise.nil,rfl,.inl rfl,λ z hz=>by simp at hz,QK _,λ z hz=>by simp at hz⟩,rfl⟩,λ p hp=>by simp at hp,rfl,.nil,rfl,rfl,λ p hp=>by simp at hp⟩,λ b o e=>Heap.get?_push_of_some _ e,hn⟩
structure Src (prog:Program) (w:World) (ty:String) (l:Addr) (us:List Value) (h:Heap) (St:Addr->Nat->Heap->Prop):Prop where
 obj:∃o n,h.get? l=some o/\o.cls = .type ty/\o.data = .seq us.toArray n
 sub1:isSubtype (.type ty) (.type "set")=pure false
 sub2:isSubtype (.type ty) (.type "frozenset")=pure false
 ne:(Value.type ty==Value.type "dict")=false
 walks:∀{A:Around}(I:Addr),A.handled=none->l≠I->Walks prog w A I [I,l] [I] us.length (λ i v=>us[i]? = some v) (St I)
 iter:∀{A:Around}{E:Value->Shared->Prop}{s:Shared}{Q:Value->Shared->Prop},(∀o,h.get? l=some o->s.heap.get? l=some o)->
  (∀o:Obj,St s.heap.objs.size 0 (s.heap.push o)->Q (.ref s.heap.objs.size) {s with heap:=s.heap.push o})->wpAny (model prog w) A (pyIter (.ref l)) Q E s
theorem src_list {l:Addr}{h:Heap}(hl:h.IsList l us.toArray):Src prog w "list" l us h (λ I i h=>h.IsListIter I l i/\h.IsList l us.toArray):=by
 have hl':=hl;obtain⟨o,ho,hc,n,hd⟩:=hl';refine⟨⟨o,n,ho,hc,hd⟩,F.sub_list_set,F.sub_list_frozenset,by decide,λ I hh ne=>by simpa using Walks.list hh I l ne us.toArray,λ k hq=>?_⟩;have hl2:Heap.IsList _ l us.toArray:=⟨o,k o ho,hc,n,hd⟩
 exact wpAny_pyIter_list hl2 (hq _ ⟨⟨_,Heap.get?_push_size _ rfl,rfl,rfl⟩,o,Heap.get?_push_of_some _ (k o ho),hc,n,hd⟩)
theorem src_tuple {l:Addr}{h:Heap}(hl:h.IsTuple l us.toArray):Src prog w "tuple" l us h (λ I i h=>h.IsTupleIter I l i/\h.IsTuple l us.toArray):=by
 have hl':=hl;obtain⟨o,ho,hc,n,hd⟩:=hl';refine⟨⟨o,n,ho,hc,hd⟩,F.sub_tuple_set,F.sub_tuple_frozenset,by decide,λ I hh ne=>by simpa using Walks.tuple hh I l ne us.toArray,λ k hq=>?_⟩;have hl2:Heap.IsTuple _ l us.toArray:=⟨o,k o ho,hc,n,hd⟩
 exact wpAny_pyIter_tuple hl2 (hq _ ⟨⟨_,Heap.get?_push_size _ rfl,rfl,rfl⟩,o,Heap.get?_push_of_some _ (k o ho),hc,n,hd⟩)
end
end Snd
namespace Snd
open PySem PySem.Spec PySem.W PyProof.Rows L2 Ev SetT
section
variable {prog:Program}{w:World}{A:Around}{E:Value->Shared->Prop}{s:Shared}{a:Addr}{ds xs:List D}{us:List Value}{led:Bool}{h₀:Heap}
theorem q9f (h:Heap):h.get? h.objs.size=none:=by
 cases e:h.get? h.objs.size with
 |none=>rfl
 |some o=>exact absurd (Heap.lt_size e) (Q8 _)
def Made (w:World) (xs:List D) (us:List Value) (s:Shared) (h':Heap):Prop:=∃ds,SetD (λ d v=>∃i:Nat,xs[i]? = some d/\us[i]? = some v) s.heap h' s.heap.objs.size ds (!byT w)/\ds.Nodup/\∀d,d∈ds↔d∈xs
theorem qI4 {ty:String}{l:Addr}{St:Addr->Nat->Heap->Prop}{Q:Unit->Shared->Prop}(S:Src prog w ty l us s.heap St) (hh:A.handled=none)
  (dx:DvL s.heap xs us) (kn:Kin xs) (hx:q09 xs=true) (hp:∀d∈xs,plN 8 d=true) (hu:A.units+16<cLine) (hl:∀l:List D,l.Nodup->(∀d∈l,d∈xs)->l.length<64)
  (h:∀(h':Heap) (tk:Nat),Made w xs us s h'->Q () {s with heap:=h',toks:=tk}) :
  wpAny (model prog w) A (pyIter (.ref l)) (λ a s'=>wpAny (model prog w) A (runValue (.builtin "set.update.loop" ⟨[.ref s.heap.objs.size,a],[]⟩) >>= λ _=>pure ()) Q E s') E {s with heap:=s.heap.push (set0 w)}:=by
 obtain⟨ol,nl,hol,_⟩:=S.obj;have hlt:=Heap.lt_size hol;refine S.iter (λ o e=>Heap.get?_push_of_some _ e) λ o hst=>?_;have hsz:(s.heap.push (set0 w)).objs.size=s.heap.objs.size+1:=Heap.size_push _ _;refine wpAny_bind (wpAny_runValue ?_);refine q41 (M:=λ d v=>∃i:Nat,xs[i]? = some d/\us[i]? = some v) (h₀:=s.heap) (led:=!byT w) (S.walks (s.heap.push (set0 w)).objs.size (by simp[hh]) (by rw[hsz];exact QE (Nat.lt_succ_of_lt hlt))) ?_ ?_ dx (λ i d v e1 e2=>⟨i,e1,e2⟩) (λ i v e=>e) rfl kn hx hp (by lia) hl (us.length-0) 0 _ [] rfl (QK _) hst ?_ List.nodup_nil (λ d=>by simp) λ h' tk ds' k S' nd m=>?_
 ·rw[hsz];simp only[Qh,List.not_mem_nil,or_false,not_or];exact⟨QE (Nat.lt_succ_self _),Nat.ne_of_gt hlt⟩
 ·intro b hb;rw[Qu.mp hb,hsz];cases e:s.heap.get? (s.heap.objs.size+1) with
  |none=>rfl
  |some o'=>exact absurd (Heap.lt_size e) (Nat.not_lt.mpr (Jg _))
 ·obtain⟨⟨Z,t,ep,P,⟨⟨o',ho,r⟩,wf,pl⟩,q⟩,kp,nw⟩:=qI3 (M:=λ d v=>∃i:Nat,xs[i]? = some d/\us[i]? = some v) (w:=w) (q9f s.heap);exact⟨⟨Z,t,ep,P,⟨⟨o',Heap.get?_push_of_some _ ho,r⟩,wf,pl⟩,q⟩,λ b o' e=>Heap.get?_push_of_some _ (kp b o' e),nw⟩
 ·show wpAny _ _ _ _ _ _;exact wpAny_pure (h h' tk ⟨ds',S',nd,m⟩)
end
end Snd
namespace Snd
open PySem PySem.Spec PySem.W PyProof.Rows L2 Ev SetT
section
variable {prog:Program}{w:World}{A:Around}{E:Value->Shared->Prop}{s:Shared}{a:Addr}{ds xs:List D}{us:List Value}{led:Bool}{h₀:Heap}
set_option maxHeartbeats 3200000 in
theorem qI5 {ty:String}{l:Addr}{St:Addr->Nat->Heap->Prop}{Q:Value->Shared->Prop}(S:Src prog w ty l us s.heap St) (hh:A.handled=none)
  (dx:DvL s.heap xs us) (kn:Kin xs) (hx:q09 xs=true) (hp:∀d∈xs,plN 8 d=true) (hu:A.units+20<cLine) (hl:∀l:List D,l.Nodup->(∀d∈l,d∈xs)->l.length<64)
  (h:∀(h':Heap) (tk:Nat),Made w xs us s h'->Q (.ref s.heap.objs.size) {s with heap:=h',toks:=tk}):wpAny (model prog w) A (call (.type "set") [.ref l]) Q E s:=by
 obtain⟨c0,tl0,mro0⟩:=F.called_set.mro;have made0:=F.called_set.made;have sub0:=F.called_set.sub;refine wpAny_call (codeAny_of_tree (show wpAny _ _ (callAny (.type "set") _) _ _ _ from ?_));refine wpAny_pure (And.intro (Code.quiet_builtin _ (by decide +kernel)) (codeAny_builtin F.entry_type_call ?_));rw[(Around.under_plain (weight_type_call_type "set" [.ref l] []) rfl)];have ht:=F.called_set.notType;have hcc:=F.called_set.canCreate;have htc:=F.typeCall_set_1 (.ref l)
 repeat (any_goals (first|assumption|wp_step))
 refine codeAny_mono (qFM (.ref l) (E:=E) (Q₁:=λ v s₁=>v = .ref s.heap.objs.size/\s₁={s with heap:=s.heap.push (set0 w)}) ⟨rfl,rfl⟩) λ r s₁ hr=>?_;cases r with
 |error e=>exact hr
 |ok fl =>
  cases fl with
  |ret v =>
   obtain⟨rfl,rfl⟩:=hr;have g0:(s.heap.push (set0 w)).get? s.heap.objs.size=some (set0 w):=Heap.get?_push_size _ rfl;have T0:Shared.TypeIs {s with heap:=s.heap.push (set0 w)} (.ref s.heap.objs.size) "set":=⟨_,g0,rfl⟩
   have li:=F.called_set.init.lookup;have bi:=F.called_set.init.bind (.ref s.heap.objs.size)
   repeat (any_goals (first|assumption|wp_step))
   refine codeAny_mono (codeAny_call_builtin (R:=wants (λ r s₂=>r = .none/\∃h' tk,s₂={s with heap:=h',toks:=tk}/\Made w xs us s h') E) F.called_set.init.plain F.entry_set_init (check_set_init_1 T0 ?_)) λ r₂ s₂ hr₂=>?_
   ·obtain⟨ol,nl,hol,hcl,hdl⟩:=S.obj;have e1:=S.sub1;have e2:=S.sub2;have e3:=S.ne;obtain⟨ocl,odi,oda,osl⟩:=ol;simp only at hcl hdl;subst hcl hdl;have hol':=Heap.get?_push_of_some (set0 w) hol;unfold Builtin.«set.__init__»;unfold noKeywords Builtin.Frozenset.updateFrom;generalize hPI:pyIter=PI
    wp_walk
    subst hPI;exact qI4 S (by simp[hh]) dx kn hx hp (by simp;lia) hl λ h' tk m=>wpAny_pure ⟨rfl,h',tk,rfl,m⟩
   ·cases r₂ with
    |error e=>exact hr₂
    |ok fl₂ =>
     cases fl₂ with
     |ret r =>
      obtain⟨rfl,h',tk,rfl,m⟩:=hr₂
      repeat (any_goals (first|assumption|wp_step))
      exact h _ _ m
     |_=>exact hr₂.elim
  |_=>exact hr.elim
end
end Snd
namespace Snd
open PySem PySem.Spec PySem.W PyProof.Rows L2 Ev SetT
theorem q3Q:Slot "set_iterator" "__next__" "set_iterator.__next__":=by
 refine .of (owner := "set_iterator") (n := "__next__") ?_ (by decide +kernel) (by decide +kernel) (by decide +kernel) ?_ ?_
 ·rw[typeLookup_type,builtinLookup_eq_fast];kernel_rfl
 ·first
   |exact .inl (by decide +kernel)
   |exact .inr (by decide +kernel)
 ·rw[isSubtype_type];kernel_rfl
theorem qBL:Slot "set_iterator" "__iter__" "set_iterator.__iter__":=by
 refine .of (owner := "set_iterator") (n := "__iter__") ?_ (by decide +kernel) (by decide +kernel) (by decide +kernel) ?_ ?_
 ·rw[typeLookup_type,builtinLookup_eq_fast];kernel_rfl
 ·first
   |exact .inl (by decide +kernel)
   |exact .inr (by decide +kernel)
 ·rw[isSubtype_type];kernel_rfl
theorem q72:entryFor table "set_iterator.__next__" = some Builtin.«set_iterator.__next__»:=entryFor_of_tree (by kernel_rfl)
theorem qBM:entryFor table "set_iterator.__iter__" = some Builtin.«dict_keyiterator.__iter__»:=entryFor_alias (id' := "dict_keyiterator.__iter__") (by kernel_rfl) (by decide +kernel) (by decide +kernel) (by kernel_rfl)
theorem q9g:entryFor table "set.__iter__" = some Builtin.«frozenset.__iter__»:=entryFor_alias (id' := "frozenset.__iter__") (by kernel_rfl) (by decide +kernel) (by decide +kernel) (by kernel_rfl)
theorem q73 (a:Value):argsOk "set_iterator.__next__" ⟨[a],[]⟩:=by unfold argsOk;kernel_rfl
theorem qBN (a:Value):argsOk "set_iterator.__iter__" ⟨[a],[]⟩:=by unfold argsOk;kernel_rfl
end Snd
namespace Snd
open PySem PySem.Spec PySem.W PyProof.Rows L2 Ev SetT
noncomputable def wkO (w:World) (a:Addr) (ep:Nat) (Z:List Ent):List (Int×Value):=if byT w then (pickOrder (w.params.setOrder a ep) (Z.map (·.2)).toArray).toList else Z.map (·.2)
noncomputable def wkS (w:World) (Z:List Ent) (i:Nat):Nat:=if byT w then 0 else match i with
 |0=>0
 |k+1=>match Z[k]? with
  |some z=>z.1+1
  |none=>0
def ItAt (h:Heap) (I a:Addr) (slot i n ep:Nat):Prop:=∃o,h.get? I=some o/\o.cls = .type "set_iterator"/\o.data = .fields #[.int slot 0,.int i 0,.ref a,.int n 0,.int ep 0]
theorem qBO {α:Type}(next:Nat->Nat):∀(n k:Nat) (left:List α) (out:Array α),left.length=n->((pickOrder.go next n k left out).toList).Perm (out.toList++left)
 |0,k,left,out,h=>by have:left=[]:=Q1.mp h;subst this;simp[pickOrder.go]
 |n+1,k,left,out,h=>by unfold pickOrder.go;have hlt:next k % left.length<left.length:=Jk _ (by lia);rw[Qi hlt];dsimp only;refine (qBO next n (k+1) _ _ (by rw[List.length_eraseIdx];simp[hlt];lia)).trans ?_;rw[Array.toList_push,QN];refine List.Perm.append_left _ ?_;rw[List.eraseIdx_eq_take_drop_succ];refine (List.perm_middle (l₁:=left.take (next k % left.length)) (l₂:=left.drop (next k % left.length+1))).symm.trans ?_;rw[<-List.drop_eq_getElem_cons hlt,Q6]
theorem q90 (w:World) (a:Addr) (ep:Nat) (Z:List Ent):(wkO w a ep Z).Perm (Z.map (·.2)):=by
 unfold wkO;split
 ·have:=qBO (w.params.setOrder a ep) (Z.map (·.2)).toArray.size 0 (Z.map (·.2)) #[] (by simp);simpa[pickOrder] using this
 ·exact .refl _
theorem below_at {t:SetTable}{Z:List Ent}(wf:WF t Z) {i:Nat}(hi:i<=Z.length) {w:World}(hb:byT w=false):SetTable.below t.place (wkS w Z i)=i:=by
 have hls:(slots Z).length=Z.length:=by simp[slots]
 rw[wf.place];cases i with
 |zero =>
  have e:wkS w Z 0=0:=by unfold wkS;rw[hb];rfl
  rw[e];obtain⟨b1,b2,b3⟩:=q0x (slots Z) wf.ris 0;apply QH;intro q;have h0:=b2 0 (by lia) (by lia);lia
 |succ k =>
  have hk:k<Z.length:=by lia
  have e:wkS w Z (k+1)=Z[k].1+1:=by unfold wkS;rw[hb];simp[hk]
  rw[e];obtain⟨b1,b2,b3⟩:=q0x (slots Z) wf.ris (Z[k].1+1);have ek:(slots Z)[k]'(by lia)=Z[k].1:=by simp[slots]
  apply QH;intro q;rcases Nat.lt_or_gt_of_ne q with q|q
  ·have:=b3 k (by lia) (by lia);lia
  ·have h1:=b2 (k+1) q (by lia);have h2:=wf.ris.lt (i:=k) (k:=k+1) (by lia) (by lia);lia
end Snd
namespace Snd
open PySem PySem.Spec PySem.W PyProof.Rows L2 Ev SetT
section
variable {prog:Program}{w:World}{A:Around}{E:Value->Shared->Prop}{s:Shared}{a I:Addr}{Z:List Ent}{t:SetTable}{ep i:Nat}
theorem q7v {Q:Bool->Shared->Prop}(h:Q (byT w) s):wpAny (model prog w) A setsByText Q E s:=by unfold setsByText;exact wpAny_bind (wpAny_askSetting (wpAny_pure h))
theorem q91 (S:SetIn s.heap a Z t ep) (le:t.led=!byT w) (hi:i<=Z.length) {Q:Option (Value×Nat)->Shared->Prop}(h:Q (((wkO w a ep Z)[i]?).map λ e=>(e.2,wkS w Z (i+1))) s):wpAny (model prog w) A (setNext a (wkS w Z i) i ep) Q E s:=by
 unfold setNext;refine wpAny_bind (q0r S (wpAny_bind (q7v ?_)));cases hb:byT w with
 |true =>
  rw[if_pos rfl];have e0:∀j,wkS w Z j=0:=λ j=>by unfold wkS;rw[hb];rfl
  simp only[bne_self_eq_false,QG,if_false];unfold setWalk;refine wpAny_bind (wpAny_bind (q0r S (wpAny_bind (q7v ?_))));rw[hb];refine wpAny_bind (wpAny_askSetting (wpAny_pure (wpAny_pure ?_)));unfold wkO at h;rw[hb,e0] at h;rw[e0];simp only[if_true,Array.getElem?_toList] at h;exact h
 |false =>
  rw[if_neg (by decide)];refine wpAny_ite_split (λ hd=>?_) λ _=>?_
  ·exfalso;have:(!t.plain&&decide ((Z.map (·.2)).toArray.size > 1))=true:=hd;rw[S.plain] at this;cases this
  refine wpAny_bind ?_;change wpAny _ _ (if (!t.led&&!(Z.map (·.2)).toArray.isEmpty)=true then unsupported "set:maker-not-led" else pure ()) _ _ _;rw[le,hb];rw[if_neg (by simp)];refine wpAny_pure (wpAny_pure ?_);rw[below_at S.wf hi hb];unfold wkO at h;rw[hb] at h;simp only[QG,if_false] at h
  by_cases c:i<Z.length
  ·have e1:(Z.map (·.2)).toArray[i]? = some Z[i].2:=(by simp[c]);have e2:t.place[i]? = some Z[i].1:=(by rw[S.wf.place];simp[slots,c]);have e3:wkS w Z (i+1)=Z[i].1+1:=(by unfold wkS;rw[hb];simp[c]);rw[e1,e2];rw[e3] at h;simpa[c] using h
  ·have e1:(Z.map (·.2)).toArray[i]? = none:=(by simp;lia);rw[e1];have e4:(Z.map (·.2))[i]? = none:=(by simp;lia);rw[e4] at h;exact h
end
end Snd
namespace Snd
open PySem PySem.Spec PySem.W PyProof.Rows L2 Ev SetT
section
variable {prog:Program}{w:World}{A:Around}{E:Value->Shared->Prop}{s:Shared}{a I:Addr}{Z:List Ent}{t:SetTable}{ep i:Nat}
theorem q5t:(wkO w a ep Z).length=Z.length:=by have:=(q90 w a ep Z).length_eq;simpa using this
theorem q3R {Q:Array (Int×Value)->Shared->Prop}(S:SetIn s.heap a Z t ep) (h:Q (Z.map (·.2)).toArray s):wpAny (model prog w) A (setEntries a) Q E s:=by unfold setEntries;exact wpAny_bind (q0r S (wpAny_pure h))
theorem qFN (S:SetIn s.heap a Z t ep) (le:t.led=!byT w) (hit:ItAt s.heap I a (wkS w Z i) i Z.length ep) {e:Int×Value}(he:(wkO w a ep Z)[i]? = some e) {Q:Option Value->Shared->Prop}
  (hQ:∀h',ItAt h' I a (wkS w Z (i+1)) (i+1) Z.length ep->Heap.SameBut I s.heap h'->Q (some e.2) {s with heap:=h'}):wpAny (model prog w) A (pyNext (.ref I)) Q E s:=by
 obtain⟨o,ho,hc,hd⟩:=hit;have hT:s.TypeIs (.ref I) "set_iterator":=⟨o,ho,hc⟩
 have hi:i<Z.length:=by rw[<-q5t (w:=w) (a:=a) (ep:=ep)];exact (Qc.mp he).1
 unfold pyNext;refine wpAny_bind (wpAny_attempt (wpAny_callSpecial?_slot (name:=Str.ofString "__next__") hT q3Q (wpAny_call_entry q3Q hT q72 ?_ (q73 _))));show wpAny _ _ (fieldsOf (.ref I) >>= _) _ _ s;refine wpAny_bind (wpAny_fieldsOf ho hd ?_);show wpAny _ _ (setEntries a >>= _) _ _ s;refine wpAny_bind (q3R S ?_);rw[if_neg (by simp)];show wpAny _ _ (setNext a (wkS w Z i) i ep >>= _) _ _ s;refine wpAny_bind (q91 S le (by lia) ?_);rw[he];dsimp only[Option.map];have g1:=Heap.get?_update_self (Obj.mapFields (·.setIfInBounds 0 (rawInt (wkS w Z (i+1))))) ho (Obj.isFreed_of_fields (Obj.data_mapFields hd _));have d1:=Obj.data_mapFields hd (·.setIfInBounds 0 (rawInt (wkS w Z (i+1))));refine wpAny_bind (wpAny_setField ho hd (by simp) (wpAny_bind (wpAny_setField g1 d1 (by simp) (wpAny_pure ⟨e.2,rfl,wpAny_pure (hQ _ ?_ ?_)⟩))))
 ·refine⟨_,Heap.get?_update_self _ g1 (Obj.isFreed_of_fields (Obj.data_mapFields d1 _)),?_,?_⟩
  ·exact (Obj.cls_mapFields ..).trans ((Obj.cls_mapFields ..).trans hc)
  ·rw[Obj.data_mapFields d1];simp[rawInt]
 ·exact (Heap.SameBut.update ..).trans (Heap.SameBut.update ..)
end
end Snd
namespace Snd
open PySem PySem.Spec PySem.W PyProof.Rows L2 Ev SetT
section
variable {prog:Program}{w:World}{A:Around}{E:Value->Shared->Prop}{s:Shared}{a I:Addr}{Z:List Ent}{t:SetTable}{ep i:Nat}
theorem qI6 (hh:A.handled=none) (S:SetIn s.heap a Z t ep) (le:t.led=!byT w) (hit:ItAt s.heap I a (wkS w Z Z.length) Z.length Z.length ep) {Q:Option Value->Shared->Prop}
  (hQ:∀h',Heap.ExtBut I s.heap h'->Q none {s with heap:=h'}):wpAny (model prog w) A (pyNext (.ref I)) Q E s:=by
 obtain⟨o,ho,hc,hd⟩:=hit;have hT:s.TypeIs (.ref I) "set_iterator":=⟨o,ho,hc⟩
 have he:(wkO w a ep Z)[Z.length]? = none:=by rw[Q3,q5t];exact Qf _
 unfold pyNext;refine wpAny_bind (wpAny_attempt (wpAny_callSpecial?_slot (name:=Str.ofString "__next__") hT q3Q (wpAny_call_entry q3Q hT q72 ?_ (q73 _))));show wpAny _ _ (fieldsOf (.ref I) >>= _) _ _ s;refine wpAny_bind (wpAny_fieldsOf ho hd ?_);show wpAny _ _ (setEntries a >>= _) _ _ s;refine wpAny_bind (q3R S ?_);rw[if_neg (by simp)];show wpAny _ _ (setNext a (wkS w Z Z.length) Z.length ep >>= _) _ _ s;refine wpAny_bind (q91 S le (Qf _) ?_);rw[he];dsimp only[Option.map];refine wpAny_bind (wpAny_setField ho hd (by simp) ?_);refine wpAny_bind (show wpAny _ _ (newExc (.type "StopIteration") []) _ _ _ from ?_);simp only[newExc,newTuple];refine wpAny_bind (wpAny_newObj_type ?_ (by size_fits));refine wpAny_bind (m:=firstArgMember _ _) (wpAny_of_eq (a:=Value.none) (by simp only[firstArgMember];rfl) ?_);refine wpAny_newObj_type ?_ (by size_fits);simp only[raiseNew];refine wpAny_bind (wpAny_handled ?_);rw[show A.in1.handled=none from hh];refine (wpAny_bind (wpAny_pure (wpAny_throw ?_)));refine (wpAny_bind (wpAny_isInstance (b:=true) (T := "StopIteration") ⟨_,Heap.get?_push_size _ rfl,rfl⟩ isSubtype_stop ?_));exact wpAny_pure (hQ _ (((Heap.SameBut.update ..).extBut.push _).push _))
theorem qFO (hit:s.TypeIs (.ref I) "set_iterator") {Q:Value->Shared->Prop}(h:Q (.ref I) s):wpAny (model prog w) A (pyIter (.ref I)) Q E s:=by refine wpAny_pyIter_slot hit qBL (wpAny_call_entry qBL hit qBM ?_ (qBN _));show wpAny _ _ (ret (.ref I)) _ _ s;exact wpAny_pure ⟨_,rfl, "set_iterator",_,hit,q3Q.lookup,h⟩
theorem qBP (S:SetIn s.heap a Z t ep) {Q:Value->Shared->Prop}
  (h:Q (.ref s.heap.objs.size) {s with heap:=s.heap.push {cls:= .type "set_iterator",data:= .fields #[.int 0 0,.int 0 0,.ref a,.int Z.length 0,.int ep 0]}}):wpAny (model prog w) A (pyIter (.ref a)) Q E s:=by
 obtain⟨o,ho,hx,hd⟩:=S.obj;have hT:s.TypeIs (.ref a) "set":=⟨o,ho,hx.1⟩
 refine wpAny_pyIter_slot hT F.slot_set_iter (wpAny_call_entry F.slot_set_iter hT q9g ?_ (F.args_set_iter_1 _));unfold Builtin.«frozenset.__iter__»;show wpAny _ _ (Builtin.Frozenset.sizeOf a >>= _) _ _ s;unfold Builtin.Frozenset.sizeOf;refine wpAny_bind (wpAny_bind (q3R S (wpAny_pure ?_)));unfold setDrawn;refine wpAny_bind (wpAny_bind (q0r S (wpAny_bind (q7v (wpAny_pure ?_)))));have e0:(!byT w&&(!t.plain&&decide ((Z.map (·.2)).toArray.size > 1)))=false:=by rw[S.plain];simp
 refine wpAny_ite_split (λ z=>absurd (show (!byT w&&(!t.plain&&decide ((Z.map (·.2)).toArray.size > 1)))=true from z) (by rw[e0];decide)) λ _=>?_;refine wpAny_bind (wpAny_pure ?_);unfold setEpoch;refine wpAny_bind (wpAny_bind (q0r S (wpAny_pure ?_)));unfold newFields;refine wpAny_bind (wpAny_newObj_type ?_);have T1:Shared.TypeIs {s with heap:=s.heap.push {cls:= .type "set_iterator",data:= .fields #[.int 0 0,.int 0 0,.ref a,.int Z.length 0,.int ep 0]}} (.ref s.heap.objs.size) "set_iterator":=⟨_,Heap.get?_push_size _ rfl,rfl⟩
 rw[show (Z.map (·.2)).toArray.size=Z.length by simp];exact wpAny_pure ⟨_,rfl, "set_iterator",_,T1,q3Q.lookup,h⟩
theorem qD8 (hT:s.TypeIs (.ref a) "set") {Q:Bool->Shared->Prop}(h:Q false s):wpAny (model prog w) A (Builtin.List.listLengthHint (.ref a)) Q E s:=by
 unfold Builtin.List.listLengthHint;refine wpAny_bind (wpAny_specialOf hT F.slot_set_len.lookup ?_);generalize hid:("set.__len__":String)=id0
 wp_delta
 rw[show splitId id0=some ("set", "__len__") by subst hid;decide +kernel];subst hid;refine wpAny_bind (wpAny_isInstance (T := "set") (b:=true) hT sub_set_self ?_);refine wpAny_ite_split (λ z=>absurd z (by decide)) λ _=>wpAny_ite_split (λ _=>?_) λ z=>absurd (by decide +kernel) z;exact wpAny_bind (wpAny_typeOf hT (wpAny_pure h))
theorem ItAt.at {h h':Heap}{sl n:Nat}(x:ItAt h I a sl i n ep) (k:∀o,h.get? I=some o->h'.get? I=some o):ItAt h' I a sl i n ep:=let ⟨o,e,r⟩:=x;⟨o,k o e,r⟩
theorem SetIn.at {h h':Heap}(S:SetIn h a Z t ep) (k:∀o,h.get? a=some o->h'.get? a=some o):SetIn h' a Z t ep:=let ⟨⟨o,e,r⟩,wf,pl⟩:=S;⟨⟨o,k o e,r⟩,wf,pl⟩
theorem qBQ (hh:A.handled=none) (le:t.led=!byT w) (hne:a≠I) :
  Walks prog w A I [I,a] [I] Z.length (λ i v=>∃e,(wkO w a ep Z)[i]? = some e/\v=e.2) (λ i h=>ItAt h I a (wkS w Z i) i Z.length ep/\SetIn h a Z t ep) where
 sub:=λ b hb=>Qh.mpr (.inl (Qu.mp hb))
 frame:=λ i h h' st k=>And.intro (st.1.at λ o e=>k I (by simp) o e) (st.2.at λ o e=>k a (by simp) o e)
 item:=λ i s Q E hi st hQ=>by
  have hl:i<(wkO w a ep Z).length:=by rw[q5t];exact hi
  refine qFN st.2 le st.1 (Qi hl) λ h' it' k=>hQ _ h' s.toks ⟨_,Qi hl,rfl⟩ ⟨it',st.2.at λ o e=>?_⟩ λ b o hb e=>?_
  ·rw[k.2 a hne];exact e
  ·rw[k.2 b (λ z=>hb (by simp[z]))];exact e
 done:=λ s Q E st hQ=>qI6 hh st.2 le st.1 λ h' k=>hQ h' s.toks λ b o hb e=>k b o (λ z=>hb (by simp[z])) e
 self:=λ i s Q E st hQ=>let ⟨o,ho,hc,_⟩:=st.1;qFO ⟨o,ho,hc⟩ hQ
theorem qFP (le:t.led=!byT w):KdlSrc prog w "set" a a Z.length (λ i v=>∃e,(wkO w a ep Z)[i]? = some e/\v=e.2) (λ h=>SetIn h a Z t ep) where
 type:=λ s S=>let ⟨o,ho,hx,_⟩:=S.obj;⟨o,ho,hx.1⟩
 there:=λ h S=>let ⟨o,ho,_⟩:=S.obj;⟨Heap.lt_size ho,Heap.lt_size ho⟩
 keep:=λ h h' S k=>S.at λ o e=>k a (.inl rfl) o e
 notList:=by decide
 notTuple:=by decide
 hint:=λ A E s Q S hq=>let ⟨o,ho,hx,_⟩:=S.obj;qD8 ⟨o,ho,hx.1⟩ hq
 iter:=λ A s hh S=>by
  obtain⟨o,ho,hx,hd⟩:=S.obj;have e0:wkS w Z 0=0:=by unfold wkS;split<;>rfl
  refine⟨{cls:= .type "set_iterator",data:= .fields #[.int 0 0,.int 0 0,.ref a,.int Z.length 0,.int ep 0]},_,λ E Q hq=>qBP S hq,qBQ hh le (QE (Heap.lt_size ho)),⟨_,Heap.get?_push_size _ rfl,rfl,?_⟩,S.at λ o e=>Heap.get?_push_of_some _ e⟩;rw[e0];rfl
end
end Snd
namespace Snd
open PySem PySem.Spec PySem.W PyProof.Rows L2 Ev SetT
theorem q1c:∀{l:List D}{d:D},q09 l=true->(d∈dedup l↔d∈l)
 |[],d,_=>by simp[dedup]
 |x::l,d,h=>by
  have hx:=q0K.mp h;have hl:q09 l=true:=q0K.mpr λ e he=>hx e (Qa _ he);unfold dedup;split
  ·rename_i c;obtain⟨y,hy,ey⟩:=List.any_eq_true.mp c;have exy:=(q0Z (hx x Qb) (hx y (Qa _ hy))).mp ey;rw[q1c hl,Qh];exact⟨.inr,λ q=>q.elim (λ e=>by rw[e,exy];exact hy) id⟩
  ·rw[Qh,Qh,q1c hl]
theorem sub_len:∀{a b:List D},a.Nodup->(∀x∈a,x∈b)->a.length<=b.length
 |[],_,_,_=>QK _
 |x::a,b,nd,h=>by
  have nd':=QY.mp nd;obtain⟨b1,b2,rfl⟩:=List.append_of_mem (h x Qb);have:=sub_len (a:=a) (b:=b1++b2) nd'.2 λ y hy=>by
   have hne:y≠x:=λ q=>nd'.1 (q▸hy);have:=h y (Qa _ hy);simp only[Qq,Qh] at this |-;rcases this with q|q|q
   ·exact .inl q
   ·exact absurd q hne
   ·exact .inr q
  simp only[Qj,Qd] at this |-;lia
theorem q5H:∀{a b:List D},a.Nodup->b.Nodup->(∀x,x∈a↔x∈b)->a.Perm b
 |[],b,_,_,h=>by
  cases b with
  |nil=>exact .nil
  |cons y b=>exact absurd ((h y).mpr Qb) (by simp)
 |x::a,b,na,nb,h=>by
  have na':=QY.mp na;obtain⟨b1,b2,rfl⟩:=List.append_of_mem ((h x).mp Qb);have pm:(b1++x::b2).Perm (x::(b1++b2)):=List.perm_middle;have nb':=QY.mp (pm.nodup_iff.mp nb);refine (List.Perm.cons x (q5H na'.2 nb'.2 λ y=>?_)).trans pm.symm;have hy:=h y;rw[pm.mem_iff,Qh,Qh] at hy;constructor
  ·intro q;exact (hy.mp (.inr q)).resolve_left λ e=>na'.1 (e▸q)
  ·intro q;exact (hy.mpr (.inr q)).resolve_left λ e=>nb'.1 (e▸q)
theorem SoOk.perm {a b:List D}(h:SoOk a) (p:b.Perm a):SoOk b:=by have m:∀d∈b,d∈a:=λ d hd=>p.mem_iff.mp hd;exact⟨by rw[p.length_eq];exact h.len,λ d hd=>h.hsh d (m d hd),λ d hd=>h.pln d (m d hd),λ x hx y hy=>h.cmp x (m x hx) y (m y hy),p.symm.pairwise h.dif λ e q=>e q.symm⟩
theorem q9h {a b:List D}(h:SoOk a) (p:b.Perm a):q1y b=q1y a:=by have m:∀d∈q1y b,d∈a:=λ d hd=>p.mem_iff.mp ((q0v b).mem_iff.mp hd);exact q3H (((q0v b).trans p).trans (q0v a).symm) (λ d hd=>h.hsh d (m d hd)) (λ x hx y hy=>h.cmp x (m x hx) y (m y hy)) (q1z (h.perm p).hsh) (q1z h.hsh)
theorem qBR {p:Pm}{Hf:Hp}{xs:List D}{vs:List V}{us:List Value}(r:RepL p Hf xs vs) (rv:Vals vs us):∀(P:List ((Int×Value)×D)),(∀q∈P,∃i:Nat,xs[i]? = some q.2/\us[i]? = some q.1.2)->
  ∃vs2,RepL p Hf (P.map (·.2)) vs2/\Vals vs2 (P.map (·.1.2))
 |[],_=>⟨[],rfl,.nil⟩
 |q::P,h=>by obtain⟨vs2,h1,h2⟩:=qBR r rv P λ x hx=>h x (Qa _ hx);obtain⟨i,e1,e2⟩:=h q Qb;obtain⟨v,e3,rp⟩:=r.get e1;obtain⟨u,e4,rl⟩:=rv.get e3;rw[e2] at e4;cases e4;exact⟨v::vs2,⟨v,vs2,rfl,rp,h1⟩,.cons rl h2⟩
end Snd
namespace Snd
open PySem PySem.Spec PySem.W PyProof.Rows L2 Ev SetT
section
variable {X:Cx}{p:Pm}{G:Nat->List D->R D}{sub:Nat->Nat->Bool}
theorem qI7 (hK:p.K=X.K) {pins:List (Addr×Obj)}{s:Shared}{σ:L2.St}{H:Hp}{O:List Addr}{d:D}{v:V}{u:Value}{xs:List D}(I:Inv X pins σ H s) (rv:RelV v u) (q:RepB p H (fz O H) d v) (hi:q1M d = .ok xs) :
  ∃l us vs ty St,u = .ref l/\Src X.prog X.w ty l us s.heap St/\RepL p (fz O H) xs vs/\Vals vs us/\vs.length<=sizeLine:=by
 cases d<;>first
  |(exfalso;simpa[q1M] using hi)
  |skip
 ·cases hi;obtain⟨a,vs,rfl,s1,z,r1⟩:=q;cases rv;obtain⟨its,rv,tp,hz⟩:=I.tuple (hK▸q0V.sqT s1:SqT X.K H a vs);exact⟨a,its,vs,_,_,rfl,src_tuple tp,r1,rv,hz⟩
 ·cases hi;obtain⟨a,vs,rfl,s1,r1⟩:=q;cases rv;obtain⟨its,rv,pt,hz⟩:=I.list (hK▸s1:SqL X.K H a vs);exact⟨a,its,vs,_,_,rfl,src_list pt.isList,r1,rv,hz⟩
theorem qFQ (hK:p.K=X.K) (hc:X.calm=true) (hu:X.A.units+64<cLine) {E:Value->Shared->Prop}{pins:List (Addr×Obj)}{s:Shared}{σ:L2.St}{H:Hp}{os:List (List Addr)}{d r:D}{v:V}{u:Value}(I:Inv X pins σ H s) (t:Th os.flatten H) (rv:RelV v u) (q:RepB p H (fz os.flatten H) d v) (h:biD sub .sortedSet [d] = .ok r) :
  wpAny (model X.prog X.w) X.A (call (.type "set") [u]) (λ x s2=>wpAny (model X.prog X.w) X.A (call (.builtin "sorted") [x]) (EP (X.wish E) pins σ (Fin p os.flatten H r)) E s2) E s:=by
 cases hi:q1M d with
 |stuck=>exact absurd (show (q1M d).bind _ = .ok r from h) (by rw[hi];intro z;cases z)
 |err c=>exact absurd (show (q1M d).bind _ = .ok r from h) (by rw[hi];intro z;cases z)
 |ok xs =>
  have h':(if q09 xs&&plL xs&&decide (xs.length<=1000)&&q1t (dedup xs) then R.ok (D.lst (q1y (dedup xs))) else .stuck) = .ok r:=by rw[<-h];show _=(q1M d).bind _;rw[hi];rfl
  split at h'
  ·rename_i cs;cases h';simp only[Qg] at cs;obtain⟨⟨⟨c1,c2⟩,c3⟩,so⟩:=cs;obtain⟨sk,kd⟩:=qEs so;obtain⟨l,us,vs,ty,St,rfl,S,r1,rvs,hz⟩:=qI7 hK I rv q hi;have dx:DvL s.heap xs us:=(q2O hK I).2 xs vs us (r1.mono q0V) rvs;have hA:=I.ok.hd hc;have hpl:∀d∈xs,plN 8 d=true:=λ d hd=>q1R.mp c2 d hd;have kn:Kin xs:=by
    rcases kd with kd|kd
    ·refine .inr λ d hd=>?_;have:=kd d ((q1c c1).mpr hd);cases d<;>first|exact⟨_,rfl⟩|cases this
    ·refine .inl λ d hd=>?_;have:=kd d ((q1c c1).mpr hd);cases d<;>first|exact⟨_,rfl⟩|cases this
   have hl:∀l:List D,l.Nodup->(∀d∈l,d∈xs)->l.length<64:=λ l nd hm=>Nat.lt_of_le_of_lt (sub_len nd λ d hd=>(q1c c1).mpr (hm d hd)) sk.len;refine qI5 S hA dx kn c1 hpl (by lia) hl λ h1 tk1 ⟨ds,SD,nd,mem⟩=>?_;obtain⟨⟨Z,tb,ep,P,Si,pr,e1,e2,tf,le,mm⟩,kp,nw⟩:=SD;obtain⟨P2,p1,p2⟩:=q4c (·.1) (e1▸q90 X.w s.heap.objs.size ep Z) P rfl;have I1:Inv X pins σ H {s with heap:=h1,toks:=tk1}:=I.kept kp;have pm:(P2.map (·.2)).Perm (dedup xs):=((p1.map (λ q=>q.2)).trans e2).trans (q5H nd sk.dif λ x=>(mem x).trans (q1c c1).symm);have sk2:=sk.perm pm;obtain⟨vs2,w1,w2⟩:=qBR r1 rvs P2 λ q hq=>mm q (p1.mem_iff.mp hq);have hz2:vs2.length<=sizeLine:=by have:=sk2.len;rw[<-w1.length,sizeLine_eq];lia
   have kd2:(∀d∈P2.map (·.2),q47 d=true)\/∀d∈P2.map (·.2),q1X d=true:=by
    rcases kd with kd|kd
    ·exact .inl λ d hd=>kd d (pm.mem_iff.mp hd)
    ·exact .inr λ d hd=>kd d (pm.mem_iff.mp hd)
   have hwl:(wkO X.w s.heap.objs.size ep Z).length=P2.length:=(by rw[<-p2];simp);have hZl:Z.length=P2.length:=(by rw[<-q5t (w:=X.w) (a:=s.heap.objs.size) (ep:=ep)];exact hwl);refine Srt.qAj (s:={s with heap:=h1,toks:=tk1}) (Gv:=λ us'=>us'=P2.map (·.1.2)) sk2.len sk2.ord (λ us' e=>by rw[e];simp) (λ R hR=>?_) (λ us' e h2 h'' tk k=>?_) λ us' q D h'' tk e eu Pq U k nD g=>?_
   ·refine PySem.W.kdu_collect (A:=X.A.in1) (qFP (t:=tb) (Z:=Z) (ep:=ep) le) (by simp[hA]) Si (by rw[hZl,sizeLine_eq];have:=sk2.len;simp at this;lia) λ h3 tk3 acc k3 it=>hR _ h3 tk3 ?_ k3;obtain⟨a1,a2⟩:=it;apply List.ext_getElem?;intro i;cases ea:acc.toList[i]? with
    |none =>
     have:P2.length<=i:=by have:=Q3.mp ea;rw[Array.length_toList,a1,hZl] at this;exact this
     rw[QX (by simpa using this)]
    |some v' =>
     rw[Array.getElem?_toList] at ea;obtain⟨e',f1,f2⟩:=a2 i v' ea;rw[<-p2,Qn] at f1;rw[Qn];cases ep2:P2[i]? with
     |none=>rw[ep2] at f1;cases f1
     |some q'=>rw[ep2] at f1;cases f1;rw[f2];rfl
   ·subst e;exact qEt (s:={s with heap:=h'',toks:=tk}) (by show X.A.units+1+1+8<cLine;lia) sk2 kd2 ((q5k k).2 _ _ ((q2O hK I1).2 _ vs2 _ (w1.mono q0V) w2)) h2
   ·subst eu;rw[<-q9h sk pm,<-qAk sk2 Pq U];exact q7k I1 t w1 w2 hz2 Pq rfl k nD g
  ·cases h'
end
end Snd
namespace Snd
open PySem PySem.Spec PySem.W PyProof.Rows L2 Ev SetT
theorem qBS:bootBuiltins "set" = some (.type "set"):=by kernel_rfl
theorem sset:SSet:=by
 intro X p G sub a la q q2 q3 pos hK hc hu m1 m2 ha oa g1 g2 pins s σ H ρ os I R hs;have hst:starEach [a] X.env=[(false,eval a X.env)]:=q0w oa;have hst2:starEach [.Call (.Name "set" q2) [a] [] q3] X.env=[(false,eval (.Call (.Name "set" q2) [a] [] q3) X.env)]:=q0w rfl;refine wpAny_Call_Name_kw (q1r I g1 m1 PyProof.Rows.boot_sorted ?_);refine PyProof.Rows.callWith_builtin1 ?_ hst2 rfl;rw[hst2];show wpAny _ _ (spliced ((false,eval (.Call (.Name "set" q2) [a] [] q3) X.env)::backTo pos [])) _ _ s;refine Calls.spliced_cons (wpAny_mono (Q:=λ x s2=>wpAny (model X.prog X.w) X.A (call (.builtin "sorted") [x]) (Gd X p pins σ os H (ev G sub (.bi .sortedSet [la]) ρ)) (Er X p pins σ H (ev G sub (.bi .sortedSet [la]) ρ)) s2) (E:=Er X p pins σ H (ev G sub (.bi .sortedSet [la]) ρ)) ?_ (λ x s2 h=>Calls.spliced_nil h) λ _ _ z=>z);refine wpAny_Call_Name_kw (q1r I g2 m2 qBS ?_);refine PyProof.Rows.callWith_type1 (q7i ha hst I R (q8e hs) (λ u s1 h=>?_) (λ _ _=>q8d)) hst rfl;obtain⟨d,v,H1,e1,I1,r1,x1,q1⟩:=h;have e0:ev G sub (.bi .sortedSet [la]) ρ=biD sub .sortedSet [d]:=by rw[q0U,q2y (f:=λ d=>biD sub .sortedSet [d]) la ρ _ (λ _=>rfl),e1];rfl
 rw[e0] at hs |-;rcases q23 sub .sortedSet [d] with z|⟨r,z⟩
 ·exact absurd z hs
 ·rw[z];exact wpAny_mono (qFQ hK hc hu (E:=Er X p pins σ H (.ok r)) I1 (R.ext x1).th r1 q1 z) (λ x s2 h2=>wpAny_mono h2 (λ w s3 h3=>q6V x1 rfl h3) λ _ _ z=>z) λ _ _ z=>z
end Snd
namespace Mk
open PySem Ev
noncomputable def q3m (c:Int):Ev.L:= .op .add (.op .add (.op .add (.var 1) (.con (.int c))) (.op .mul (.con (.int 4)) (.var 5))) (.var 7)
noncomputable def q4d:List Ev.S:=[.ifs (.or (.not (.e (.call 0 [(.var 3)]))) (.or (.e (.cm .le (.var 3) (.var 2))) (.e (.cm .ge (.var 3) (.var 0))))) [.ret (.con (.bl false))] [],.set 2 (.var 3)]
noncomputable def q5I:List Ev.S:=[.expr (.call 3 [(.var 1),(.var 3)])]
noncomputable def q5J:List Ev.S:=[.ifs (.e (.cm .ge (.idx (.var 2) (.op .sub (.var 4) (.con (.int 1)))) (.idx (.var 2) (.var 4)))) [.raise 1] []]
noncomputable def q92:Ev.S:= .ifs (.or (.not (.e (.bi .isTup [(.var 0)]))) (.e (.cm .ne (.bi .len [(.var 0)]) (.con (.int 2))))) [.raise 1] []
noncomputable def q5K:Ev.S:= .ifs (.or (.not (.e (.call 0 [(.var 1)]))) (.or (.e (.cm .lt (.var 1) (.con (.int 0)))) (.e (.cm .gt (.var 1) (.con (.int 10)))))) [.raise 1] []
noncomputable def q93:Ev.S:= .ifs (.or (.not (.e (.bi .isLst [(.var 2)]))) (.e (.cm .gt (.bi .len [(.var 2)]) (.con (.int 1300))))) [.raise 1] []
noncomputable def q3i:List Ev.L:=[(.con (.int 1)),(.con (.int 2)),(.con (.int 4)),(.con (.int 8)),(.con (.int 16)),(.con (.int 32)),(.con (.int 64))]
noncomputable def qFR:Ev.S:= .set 8 (.call 12 [(.var 0),q3m 10,(.var 6)])
noncomputable def qD9:Ev.S:= .ifs (.e (.cm .gt (.op .mod (.call 11 [(.var 0),q3m 40]) (.con (.int 3))) (.con (.int 0)))) [.set 8 (.sl 0 (.var 8) [] [(.op .add (.con (.int 1)) (.op .mod (.call 11 [(.var 0),q3m 41]) (.con (.int 2))))])] []
noncomputable def qFS:Ev.S:= .app 4 (.tup [(.var 5),(.ite (.e (.cm .gt (.op .mod (.call 11 [(.var 0),(.op .add (.op .add (.var 1) (.con (.int 70))) (.var 5))]) (.con (.int 4))) (.con (.int 0)))) (.var 8) (.tup []))])
noncomputable def q74:List Ev.S:=[qFR,qD9,qFS]
noncomputable def qFT:Ev.L:= .comp 0 (.var 0) (.rng [(.var 3)]) [(.e (.cm .ne (.var 0) (.var 6)))]
noncomputable def qDA:Ev.L:= .idx (.lst [(.con (.int 1)),(.con (.int 1)),(.con (.int 2)),(.con (.int 2)),(.con (.int 3)),(.con (.int 0))]) (.op .mod (.call 11 [(.var 0),(.op .add (.op .add (.var 1) (.con (.int 1))) (.var 5))]) (.con (.int 6)))
noncomputable def q3S:List Ev.S:=[.set 6 qFT,.forr 0 [7] (.rng [qDA]) q74]
noncomputable def qDB:Ev.S:= .set 3 (.op .mod (.call 11 [(.var 0),(.var 1)]) (.op .add (.var 2) (.con (.int 1))))
noncomputable def q2I:List Ev.S:=[.ret (.and (.bi .isInt [(.var 0)]) (.not (.bi .isBool [(.var 0)])))]
noncomputable def q94:List Ev.S:=[.ifs (.not (.e (.bi .isTup [(.var 1)]))) [.ret (.con (.bl false))] [],.set 2 (.neg (.con (.int 1))),.forr 0 [3] (.e (.var 1)) q4d,.ret (.con (.bl true))]
noncomputable def q3j:List Ev.S:=[q92,.set 1 (.idx (.var 0) (.con (.int 0))),.set 2 (.idx (.var 0) (.con (.int 1))),q5K,q93,.forr 0 [3] (.e (.var 2)) q5I,.forr 0 [4] (.rng [(.con (.int 1)),(.bi .len [(.var 2)])]) q5J]
noncomputable def q0p:List Ev.S:=[.ifs (.or (.not (.e (.bi .isTup [(.var 1)]))) (.e (.cm .ne (.bi .len [(.var 1)]) (.con (.int 2))))) [.raise 1] [],.set 2 (.idx (.var 1) (.con (.int 0))),.set 3 (.idx (.var 1) (.con (.int 1))),.ifs (.or (.not (.e (.call 0 [(.var 2)]))) (.or (.e (.cm .lt (.var 2) (.con (.int 0)))) (.e (.cm .ge (.var 2) (.var 0))))) [.raise 1] [],.ifs (.not (.e (.call 1 [(.var 0),(.var 3)]))) [.raise 1] [],.ifs (.e (.cm .mem (.var 2) (.var 3))) [.raise 1] []]
noncomputable def q1d:List Ev.S:=[.expr (.call 2 [(.var 0)]),.set 1 (.idx (.var 0) (.con (.int 0))),.setO 2 (.lst [(.bi .fmt [(.con (.str "things ")),(.var 1),(.con (.str ""))])]),.ext 2 (.comp 0 (.call 5 [(.var 0)]) (.e (.idx (.var 0) (.con (.int 1)))) []),.fz 2 (.ret (.bi .join [(.con (.str "\n")),(.var 2)]))]
noncomputable def q18:List Ev.S:=[.set 1 (.idx (.var 0) (.con (.int 0))),.ret (.bi .join [(.con (.str " ")),(.op .add (.lst [(.bi .fmt [(.con (.str "")),(.var 1),(.con (.str ":"))])]) (.comp 0 (.bi .strI [(.var 0)]) (.e (.idx (.var 0) (.con (.int 1)))) []))])]
noncomputable def q4e:List Ev.S:=[.set 1 (.bi .split [(.var 0),(.con (.str "\n"))]),.set 2 (.tup [(.call 7 [(.idx (.var 1) (.con (.int 0)))]),(.comp 0 (.call 8 [(.var 0)]) (.e (.sl 0 (.var 1) [(.con (.int 1))] [])) [])]),.tryR [.expr (.call 2 [(.var 2)])] 1 5,.ret (.var 2)]
noncomputable def q0b:List Ev.S:=[.set 1 (.bi .split [(.var 0),(.con (.str " "))]),.ifs (.or (.e (.cm .ne (.bi .len [(.var 1)]) (.con (.int 2)))) (.e (.cm .ne (.idx (.var 1) (.con (.int 0))) (.con (.str "things"))))) [.raise 5] [],.ret (.call 9 [(.idx (.var 1) (.con (.int 1)))])]
noncomputable def q0y:List Ev.S:=[.set 1 (.bi .split [(.var 0),(.con (.str " "))]),.ifs (.not (.e (.bi .endsw [(.idx (.var 1) (.con (.int 0))),(.con (.str ":"))]))) [.raise 5] [],.set 2 (.bi .tuple [(.comp 0 (.call 9 [(.var 0)]) (.e (.sl 0 (.var 1) [(.con (.int 1))] [])) [])]),.ret (.tup [(.call 9 [(.sl 0 (.idx (.var 1) (.con (.int 0))) [] [(.neg (.con (.int 1)))])]),(.var 2)])]
noncomputable def q0s:List Ev.S:=[.set 1 (.comp 0 (.bi .strI [(.var 0)]) (.rng [(.op .add (.con (.int 10)) (.con (.int 1)))]) []),.ifs (.e (.cm .nmem (.var 0) (.var 1))) [.raise 5] [],.ret (.bi .index [(.var 1),(.var 0)])]
noncomputable def q1A:List Ev.S:=[.ifs (.e (.var 0)) [.ret (.idx (.var 0) (.op .mod (.var 1) (.bi .len [(.var 0)])))] [],.ret (.con (.int 0))]
noncomputable def q27:List Ev.S:=[.set 2 (.op .mod (.op .add (.call 10 [(.var 0),(.var 1)]) (.op .mul (.con (.int 104729)) (.op .add (.var 1) (.con (.int 1))))) (.con (.int 4294967291))),.set 2 (.op .mod (.op .mul (.var 2) (.con (.int 48271))) (.con (.int 4294967279))),.ret (.op .mod (.op .add (.op .mul (.op .fdiv (.var 2) (.con (.int 64))) (.con (.int 69621))) (.var 2)) (.con (.int 4294967231)))]
noncomputable def q1O:List Ev.S:=[.set 3 (.op .fdiv (.call 11 [(.var 0),(.var 1)]) (.con (.int 8))),.ret (.bi .tuple [(.comp 0 (.idx (.var 3) (.var 0)) (.rng [(.bi .len [(.var 2)])]) [(.e (.cm .eq (.op .mod (.op .fdiv (.var 4) (.idx (.lst q3i) (.var 0))) (.con (.int 2))) (.con (.int 1))))])])]
noncomputable def q1H:List Ev.S:=[qDB,.setO 4 (.lst []),.forr 0 [5] (.rng [(.var 3)]) q3S,.ret (.tup [(.var 3),(.bi .sortedSet [(.bor 4)])])]
noncomputable def q0g:List Ev.S:=[.ifs (.e (.cm .isN (.var 0) (.con .non))) [.ret (.con (.str "ok"))] [],.set 1 (.lst [(.bi (.isExc 4) [(.var 0)]),(.bi (.isExc 1) [(.var 0)]),(.bi (.isExc 2) [(.var 0)])]),.set 1 (.op .add (.var 1) (.lst [(.bi (.isExc 5) [(.var 0)]),(.bi (.isExc 3) [(.var 0)])])),.ifs (.or (.e (.cm .ne (.bi .count [(.var 1),(.con (.bl true))]) (.con (.int 1)))) (.not (.e (.bi .isVal [(.var 0)])))) [.ret (.con (.str "wrong"))] [],.ret (.idx (.lst [(.con (.str "number")),(.con (.str "rules")),(.con (.str "state")),(.con (.str "text")),(.con (.str "unlike"))]) (.bi .index [(.var 1),(.con (.bl true))]))]
noncomputable def q1e:List Ev.S:=[.setO 1 (.lst [(.op .add (.con (.str "things ")) (.bi .strI [(.idx (.var 0) (.con (.int 0)))]))]),.forr 2 [2,3] (.e (.idx (.var 0) (.con (.int 1)))) [.app 1 (.op .add (.op .add (.bi .strI [(.var 2)]) (.con (.str ":"))) (.bi .join [(.con (.str "")),(.comp 0 (.op .add (.con (.str " ")) (.bi .strI [(.var 0)])) (.e (.var 3)) [])]))],.fz 1 (.ret (.bi .join [(.con (.str "\n")),(.var 1)]))]
noncomputable def q0h:List Ev.S:=[.setO 1 (.lst []),.forr 0 [2] (.e (.var 0)) [.ifs (.or (.e (.cm .eq (.var 2) (.con (.str "")))) (.or (.e (.cm .gt (.bi .len [(.var 2)]) (.con (.int 2)))) (.or (.not (.e (.bi .all [(.comp 0 (.cm .mem (.var 0) (.con (.str "0123456789"))) (.e (.var 2)) [])]))) (.e (.cm .ne (.bi .strI [(.bi .toInt [(.var 2)])]) (.var 2)))))) [.ret (.con .non)] [],.app 1 (.bi .toInt [(.var 2)])],.retO 1]
noncomputable def q0n:List Ev.S:=[.set 1 (.bi .split [(.var 0),(.con (.str "\n"))]),.set 2 (.call 16 [(.lst [(.sl 0 (.idx (.var 1) (.con (.int 0))) [(.con (.int 7))] [])])]),.ifs (.or (.e (.cm .ne (.sl 0 (.idx (.var 1) (.con (.int 0))) [] [(.con (.int 7))]) (.con (.str "things ")))) (.e (.cm .isN (.var 2) (.con .non)))) [.ret (.con .non)] [],.setO 3 (.lst []),.forr 0 [4] (.e (.sl 0 (.var 1) [(.con (.int 1))] [])) [.set 5 (.bi .split [(.var 4),(.con (.str " "))]),.set 6 (.call 16 [(.lst [(.sl 0 (.idx (.var 5) (.con (.int 0))) [] [(.neg (.con (.int 1)))])])]),.set 7 (.call 16 [(.sl 0 (.var 5) [(.con (.int 1))] [])]),.ifs (.or (.e (.cm .ne (.sl 0 (.idx (.var 5) (.con (.int 0))) [(.neg (.con (.int 1)))] []) (.con (.str ":")))) (.or (.e (.cm .isN (.var 6) (.con .non))) (.e (.cm .isN (.var 7) (.con .non))))) [.ret (.con .non)] [],.app 3 (.tup [(.idx (.var 6) (.con (.int 0))),(.bi .tuple [(.var 7)])])],.fz 3 (.ret (.tup [(.idx (.var 2) (.con (.int 0))),(.var 3)]))]
noncomputable def q0c:List Ev.S:=[.set 1 (.con .non),.tryE [.expr (.call 2 [(.var 0)])] 1 2 1,.ret (.cm .isN (.var 1) (.con .non))]
noncomputable def q9i:List Ev.S:=[.set 1 (.call 13 [(.var 0),(.con (.int 0)),(.con (.int 5))]),.set 2 (.call 15 [(.var 1)]),.ifs (.or (.e (.cm .ne (.call 4 [(.var 1)]) (.var 2))) (.e (.cm .ne (.call 6 [(.var 2)]) (.var 1)))) [.ret (.con (.bl false))] [],.forr 0 [3] (.rng [(.op .add (.con (.int 1)) (.op .mod (.call 11 [(.var 0),(.con (.int 100))]) (.con (.int 2))))]) [.set 4 (.call 11 [(.var 0),(.op .add (.con (.int 101)) (.var 3))]),.set 5 (.op .mod (.op .fdiv (.var 4) (.con (.int 8))) (.op .add (.bi .len [(.var 2)]) (.con (.int 1)))),.set 6 (.idx (.con (.str "012 :\nths49-")) (.op .mod (.op .fdiv (.var 4) (.con (.int 4096))) (.con (.int 12)))),.set 7 (.lst [(.op .add (.op .add (.sl 0 (.var 2) [] [(.var 5)]) (.var 6)) (.sl 0 (.var 2) [(.var 5)] [])),(.op .add (.op .add (.sl 0 (.var 2) [] [(.var 5)]) (.var 6)) (.sl 0 (.var 2) [(.op .add (.var 5) (.con (.int 1)))] [])),(.op .add (.sl 0 (.var 2) [] [(.var 5)]) (.sl 0 (.var 2) [(.op .add (.var 5) (.con (.int 1)))] []))]),.set 2 (.idx (.var 7) (.op .mod (.var 4) (.con (.int 3))))],.set 8 (.con .non),.set 9 (.con .non),.tryE [.set 9 (.call 6 [(.var 2)])] 0 10 8,.set 11 (.call 17 [(.var 2)]),.ifs (.and (.e (.cm .notN (.var 11) (.con .non))) (.e (.call 18 [(.var 11)]))) [.ret (.and (.cm .isN (.var 8) (.con .non)) (.cm .eq (.var 9) (.var 11)))] [],.ifs (.e (.cm .ne (.call 14 [(.var 8)]) (.con (.str "text")))) [.ret (.con (.bl false))] [],.set 8 (.con .non),.tryE [.expr (.call 4 [(.tup [(.con (.int 1)),(.lst [(.tup [(.con (.int 0)),(.tup [(.con (.int 0))])])])])])] 0 10 8,.ret (.cm .eq (.call 14 [(.var 8)]) (.con (.str "rules")))]
noncomputable def subC (a b:Nat):Bool:=a==b || b==0
noncomputable def dsM:List (Nat×Nat×List Ev.S):=[(1,1,q2I),(2,4,q94),(1,5,q3j),(2,4,q0p),(1,3,q1d),(1,2,q18),(1,3,q4e),(1,2,q0b),(1,3,q0y),(1,2,q0s),(2,2,q1A),(2,3,q27),(3,4,q1O),(3,9,q1H),(1,2,q0g),(1,4,q1e),(1,3,q0h),(1,8,q0n),(1,3,q0c),(1,12,q9i)]
noncomputable def Gm:Nat->Nat->List D->R D
 |0,_,_=> .stuck
 |n+1,f,xs=>match dsM[f]? with
  |some d=>if xs.length=d.1 then Ev.run (Gm n) subC d.2.1 d.2.2 xs else .stuck
  |none=> .stuck
end Mk
namespace Mk
open Ev
variable {nd:List (List Nat)}
theorem q95:∀(N:Nat) (l:List Nat),l.Nodup->(∀x∈l,x<N)->l.length<=N
 |0,l,_,h=>by
  cases l with
  |nil=>simp
  |cons a l=>exact absurd (h a Qb) (by lia)
 |N+1,l,d,h=>by
  have h1:=q95 N (l.erase N) (d.erase N) λ x hx=>by have h2:=(d.mem_erase_iff).mp hx;have h3:=h x h2.2;have h4:=h2.1;lia
  by_cases m:N∈l
  ·rw[Jj m] at h1;lia
  ·rw[List.erase_of_not_mem m] at h1;lia
end Mk
namespace Mk
open Ev
variable {nd:List (List Nat)}
noncomputable def iL (zs:List Int):List D:=zs.map D.int
@[simp] theorem iL_nil:iL []=[]:=rfl
@[simp] theorem q7w (z:Int) (l:List Int):iL (z::l) = .int z::iL l:=rfl
@[simp] theorem qI8 (l:List Int):(iL l).length=l.length:=Qe _
theorem qJq (l:List Nat):nL l=iL (l.map λ (a:Nat)=>(a:Int)):=by simp[nL,iL,nI]
@[simp] theorem plN_iL (k:Nat) (l:List Int):(iL l).all (plN k)=true:=by simp[iL]
@[simp] theorem pl_ti (l:List Int):pl (.tup (iL l))=true:=by unfold pl;simp
@[simp] theorem plL_i (l:List Int):plL (iL l)=true:=q1R.mpr λ d hd=>by obtain⟨a,_,rfl⟩:=Qm.mp hd;rfl
@[simp] theorem hshL_i (l:List Int):q09 (iL l)=true:=q0K.mpr λ d hd=>by obtain⟨a,_,rfl⟩:=Qm.mp hd;simp[q02]
@[simp] theorem qDC (a b:Int):eqb (.int a) (.int b)=decide (a=b):=by simp[eqb]
theorem qJr (l:List Int) (i:Int):(iL l).any (λ y=>eqb y (.int i))=decide (i∈l):=by
 induction l with
 |nil=>simp
 |cons a l ih =>
  rw[q7w,List.any_cons,ih,qDC]
  by_cases h:a=i
  ·subst h;simp
  ·have:¬i=a:=λ e=>h e.symm;simp[h,this]
theorem qI9 (i:Int) (l:List Int):cmD .mem (.int i) (.tup (iL l)) = .ok (.bl (decide (i∈l))):=by have e2:cmD .mem (.int i) (.tup (iL l))=(memD (.int i) (.tup (iL l))).bind λ r=> .ok (.bl r):=rfl;rw[e2,memD];simp[qJr]
@[simp] theorem le_i (a b:Int):cmD .le (.int a) (.int b) = .ok (.bl (decide (a<=b))):=rfl
@[simp] theorem gt_i (a b:Int):cmD .gt (.int a) (.int b) = .ok (.bl (decide (b<a))):=rfl
@[simp] theorem ge_i (a b:Int):cmD .ge (.int a) (.int b) = .ok (.bl (!decide (a<b))):=by simp[cmD,q02,q0e,ltb]
@[simp] theorem lt_i (a b:Int):cmD .lt (.int a) (.int b) = .ok (.bl (decide (a<b))):=by simp[cmD,q02,q0e,ltb]
theorem q4f (k:Nat) (i:Int):Gm (k+1) 0 [.int i] = .ok (.bl true):=by show Ev.run (Gm k) subC 1 q2I [.int i]=_;simp[Ev.run,q2I]
noncomputable def q1I (c:Int):Int->List Int->Bool
 |_,[]=>true
 |a,t::ts=>decide (a<t)&&decide (t<c)&&q1I c t ts
theorem q41 (k:Nat) (c:Int) (x:Option Sl):∀(zs:List Int) (a:Int) (y:Option Sl),∃a' y',q0m (exs (Gm (k+1)) subC q4d) 0 [3] (iL zs) [some (.val (.int c)),x,some (.val (.int a)),y] =
  .ok [some (.val (.int c)),x,a',y'] (if q1I c a zs=true then .nx else .ret (.bl false))
 |[],a,y=>⟨some (.val (.int a)),y,rfl⟩
 |t::zs,a,y=>by
  obtain⟨a',y',e⟩:=q41 k c x zs t (some (.val (.int t)));rw[q7w,q1Y]
  by_cases h1:a<t
  ·by_cases h2:t<c
   ·refine⟨a',y',?_⟩;have h3:¬t<=a:=(by lia);have e0:q1I c a (t::zs)=q1I c t zs:=(by simp[q1I,h1,h2]);rw[e0,<-e];simp[q4d,q4f,h3,h2]
   ·have h3:¬t<=a:=(by lia);exact⟨some (.val (.int a)),some (.val (.int t)),by simp[q4d,q4f,h3,h2,q1I]⟩
  ·have h3:t<=a:=(by lia);exact⟨some (.val (.int a)),some (.val (.int t)),by simp[q4d,q4f,h3,h1,q1I]⟩
theorem qFU (k:Nat) (c:Int) (zs:List Int):Gm (k+2) 1 [.int c,.tup (iL zs)] = .ok (.bl (q1I c (-1) zs)):=by obtain⟨a',y',e⟩:=q41 k c (some (.val (.tup (iL zs)))) zs (-1) none;show Ev.run (Gm (k+1)) subC 4 [.ifs (.not (.e (.bi .isTup [(.var 1)]))) [.ret (.con (.bl false))] [],.set 2 (.neg (.con (.int 1))),.forr 0 [3] (.e (.var 1)) q4d,.ret (.con (.bl true))] [.int c,.tup (iL zs)]=_;have e':q0m (exs (Gm (k+1)) subC q4d) 0 [3] (iL zs) [some (.val (.int c)),some (.val (.tup (iL zs))),some (.val (.int (-1))),none]=_:=e;cases q:q1I c (-1) zs<;>simp[Ev.run,e',q]
noncomputable abbrev Wy:=Int×Option (List Int)
noncomputable def wyD:Wy->D
 |(t,some zs)=> .tup [.int t,.tup (iL zs)]
 |(t,none)=> .tup [.int t]
noncomputable def wyB (c:Int):Wy->Bool
 |(t,some zs)=>decide (0<=t)&&decide (t<c)&&q1I c (-1) zs&&!decide (t∈zs)
 |_=>false
theorem nth0 (a:D) (l:List D):nth (a::l) 0 = .ok a:=by simp[nth]
theorem nth1 (a b:D) (l:List D):nth (a::b::l) 1 = .ok b:=by simp[nth]
theorem idx0 (a:D) (l:List D):idxD (.tup (a::l)) (.int 0) = .ok a:=nth0 a l
theorem idx1 (a b:D) (l:List D):idxD (.tup (a::b::l)) (.int 1) = .ok b:=nth1 a b l
theorem qJs (k:Nat) (c:Int) (w:Wy):Gm (k+3) 3 [.int c,wyD w]=if wyB c w=true then .ok .non else .err 1:=by
 show Ev.run (Gm (k+2)) subC 4 q0p [.int c,wyD w]=_;obtain⟨t,_|zs⟩:=w
 ·simp[Ev.run,q0p,wyD,wyB,num2]
 ·have e1:=q4f (k+1) t;have e2:=qFU k c zs
  by_cases h1:t<0
  ·have:¬0<=t:=(by lia);simp[Ev.run,q0p,wyD,wyB,num2,idx0,idx1,e1,e2,h1,this]
  ·have h1':0<=t:=by lia
   by_cases h2:t<c
   ·cases q:q1I c (-1) zs
    ·simp[Ev.run,q0p,wyD,wyB,num2,idx0,idx1,e1,e2,h1,h1',h2,q]
    ·by_cases h3:t∈zs<;>simp[Ev.run,q0p,wyD,wyB,num2,idx0,idx1,e1,e2,h1,h1',h2,q,qI9,h3]
   ·simp[Ev.run,q0p,wyD,wyB,num2,idx0,idx1,e1,e2,h1,h1',h2]
theorem q75 (k:Nat) (c:Int) (a b e:Option Sl):∀(ws:List Wy) (x:Option Sl),∃x',q0m (exs (Gm (k+3)) subC q5I) 0 [3] (ws.map wyD) [a,some (.val (.int c)),b,x,e] =
  if ws.all (wyB c)=true then .ok [a,some (.val (.int c)),b,x',e] .nx else .err 1 [a,some (.val (.int c)),b,x',e]
 |[],x=>⟨x,rfl⟩
 |w::ws,x=>by
  have e1:=qJs k c w;rw[Qz,q1Y];cases q:wyB c w
  ·refine⟨some (.val (wyD w)),?_⟩;simp[q5I,e1,q]
  ·obtain⟨x',e2⟩:=q75 k c a b e ws (some (.val (wyD w)));refine⟨x',?_⟩;rw[List.all_cons,q,Bool.true_and,<-e2];simp[q5I,e1,q]
theorem qDy:∀(a b:List Int),q0Y (iL a) (iL b)=true
 |[],_=>by simp[q0Y]
 |_::_,[]=>by simp[q0Y]
 |a::l,b::m=>by
  simp only[q7w,q0Y,qDC];split
  ·exact qDy l m
  ·simp[q0e]
noncomputable def wyW:Wy->Bool
 |(_,some _)=>true
 |_=>false
theorem qIA {c:Int}{w:Wy}(h:wyB c w=true):wyW w=true:=by
 obtain⟨t,_|zs⟩:=w
 ·simp[wyB] at h
 ·rfl
theorem qDD (w:Wy):pl (wyD w)=true:=by
 obtain⟨t,_|zs⟩:=w
 ·rfl
 ·unfold pl wyD;simp
theorem qBT (w:Wy):q02 (wyD w)=true:=by obtain⟨t,_|zs⟩:=w<;>simp[wyD,q02,q09]
theorem qDz (v w:Wy) (hv:wyW v=true) (hw:wyW w=true):q0e (wyD v) (wyD w)=true:=by
 obtain⟨t,_|zs⟩:=v
 ·cases hv
 obtain⟨u,_|ys⟩:=w
 ·cases hw
 simp only[wyD,q0e,q0Y,qDC];split
 ·split
  ·rfl
  ·simp[q0e,qDy]
 ·simp[q0e]
theorem qJt (v w:Wy) (hv:wyW v=true) (hw:wyW w=true):cmD .ge (wyD v) (wyD w) = .ok (.bl (!ltb (wyD v) (wyD w))):=by
 have h:cmD .ge (wyD v) (wyD w)=if pl (wyD v)&&pl (wyD w)&&q02 (wyD v)&&q02 (wyD w)&&q0e (wyD v) (wyD w) then .ok (.bl (!ltb (wyD v) (wyD w))) else .stuck:=rfl
 rw[h,qDD,qDD,qBT,qBT,qDz v w hv hw];rfl
open Classical in
theorem q76 {G:Nat->List D->R D}(a b e:Option Sl) (ws:List Wy) (hw:∀w∈ws,wyW w=true):∀(ps:List Nat) (x:Option Sl),(∀p∈ps,p+1<ws.length)->∃x',q0m (exs G subC q5J) 0 [4] (nL (ps.map (·+1))) [a,b,some (.val (.lst (ws.map wyD))),e,x] =
  if (∀p∈ps,∀v w,ws[p]? = some v->ws[p+1]? = some w->ltb (wyD v) (wyD w)=true) then .ok [a,b,some (.val (.lst (ws.map wyD))),e,x'] .nx else .err 1 [a,b,some (.val (.lst (ws.map wyD))),e,x']
 |[],x,_=>⟨x,by simp[q4F]⟩
 |p::ps,x,hp=>by
  have h1:=hp p Qb;obtain⟨v,hv⟩:∃v,ws[p]? = some v:=⟨_,Qi (by lia)⟩
  obtain⟨w,hw2⟩:∃w,ws[p+1]? = some w:=⟨_,Qi h1⟩
  have e1:idxD (.lst (ws.map wyD)) (nI p) = .ok (wyD v):=q9V _ _ _ (by rw[Qn,hv];rfl);have e2:idxD (.lst (ws.map wyD)) (nI (p+1)) = .ok (wyD w):=q9V _ _ _ (by rw[Qn,hw2];rfl);have e3:=qJt v w (hw v (Qk hv)) (hw w (Qk hw2));have e4:opD .sub (nI (p+1)) (nI 1) = .ok (nI p):=qJG _ _ (by lia);rw[Qz,q5Z,q1Y]
  by_cases q:ltb (wyD v) (wyD w)=true
  ·obtain⟨x',e5⟩:=q76 (G:=G) a b e ws hw ps (some (.val (nI (p+1)))) λ r hr=>hp r (Qa _ hr);refine⟨x',?_⟩;have e6:(∀r∈p::ps,∀v w,ws[r]? = some v->ws[r+1]? = some w->ltb (wyD v) (wyD w)=true)↔(∀r∈ps,∀v w,ws[r]? = some v->ws[r+1]? = some w->ltb (wyD v) (wyD w)=true):=by rw[Q9];exact⟨λ h=>h.2,λ h=>⟨λ v' w' a1 a2=>by rw[hv] at a1;rw[hw2] at a2;cases a1;cases a2;exact q,h⟩⟩
   simp only[e6];rw[<-e5];simp[q5J,num1,e4,e1,e2,e3,q]
  ·refine⟨some (.val (nI (p+1))),?_⟩;rw[if_neg λ h=>q (h p Qb v w hv hw2)];simp[q5J,num1,e4,e1,e2,e3,q]
noncomputable def rulD (n:Int) (ws:List Wy):D:= .tup [.int n,.lst (ws.map wyD)]
def Rise (ws:List Wy):Prop:=∀p,p+1<ws.length->∀v w,ws[p]? = some v->ws[p+1]? = some w->ltb (wyD v) (wyD w)=true
theorem rng2 (l:Nat) (h:l<=1000000):rngD [.int 1,nI l] = .ok (nL ((Qp (l-1)).map (·+1))):=by
 unfold rngD nI;simp only;rw[if_pos (by lia)];congr 1;have:((l:Int)-1).toNat=l-1:=by lia
 rw[this];simp only[nL,Q2];refine List.map_congr_left λ a _=>?_;simp only[Function.comp,nI];congr 1;lia
theorem len_eq (ws:List Wy):(ws.map wyD).length=ws.length:=Qe _
section
variable {G:Nat->List D->R D}
theorem qJu (a b:D) (ρ:Env):ex G subC q92 (some (.val (.tup [a,b]))::ρ) = .ok (some (.val (.tup [a,b]))::ρ) .nx:=by simp[q92,num2]
theorem qJv (h9:∀i,G 0 [.int i] = .ok (.bl true)) (x:Option Sl) (n:Int) (ρ:Env):ex G subC q5K (x::some (.val (.int n))::ρ)=if 0<=n/\n<=10 then .ok (x::some (.val (.int n))::ρ) .nx else .err 1 (x::some (.val (.int n))::ρ):=by
 by_cases h0:n<0
 ·have:¬0<=n:=by lia
  simp[q5K,h9,h0,this]
 have h0':0<=n:=by lia
 by_cases h1:10<n
 ·have:¬n<=10:=by lia
  simp[q5K,h9,h0,h0',h1,this]
 have h1':n<=10:=by lia
 simp[q5K,h9,h0,h0',h1,h1']
theorem qJw (x y:Option Sl) (l:List D) (ρ:Env) (h:l.length<=1300):ex G subC q93 (x::y::some (.val (.lst l))::ρ) = .ok (x::y::some (.val (.lst l))::ρ) .nx:=by
 have h3:decide ((1300:Int)<(l.length:Int))=false:=decide_eq_false (by lia);have e:cmD .gt (nI l.length) (.int 1300) = .ok (.bl false):=by rw[nI,gt_i,h3]
 simp[q93,e]
end
open Classical in
theorem qIB {G:Nat->List D->R D}(a b e:Option Sl) (ws:List Wy) (hl:ws.length<=1300) (hw:∀w∈ws,wyW w=true):∃x',ex G subC (.forr 0 [4] (.rng [(.con (.int 1)),(.bi .len [(.var 2)])]) q5J) [a,b,some (.val (.lst (ws.map wyD))),e,none] =
  if Rise ws then .ok [a,b,some (.val (.lst (ws.map wyD))),e,x'] .nx else .err 1 [a,b,some (.val (.lst (ws.map wyD))),e,x']:=by
 obtain⟨x2,e3⟩:=q76 (G:=G) a b e ws hw (Qp (ws.length-1)) none (λ p hp=>by rw[QA] at hp;lia);refine⟨x2,?_⟩;have e4:=rng2 ws.length (by lia);have e5:(∀p∈Qp (ws.length-1),∀v w,ws[p]? = some v->ws[p+1]? = some w->ltb (wyD v) (wyD w)=true)↔Rise ws :=
  ⟨λ h p hp=>h p (QA.mpr (by lia)),λ h p hp=>h p (by rw[QA] at hp;lia)⟩
 have e7:evi G subC (.rng [(.con (.int 1)),(.bi .len [(.var 2)])]) [a,b,some (.val (.lst (ws.map wyD))),e,none] = .ok (nL ((Qp (ws.length-1)).map (·+1))):=by have e8:evs G subC [(.con (.int 1)),(.bi .len [(.var 2)])] [a,b,some (.val (.lst (ws.map wyD))),e,none] = .ok [.int 1,nI (ws.map wyD).length]:=rfl;rw[q21,e8,q00,len_eq,e4]
 rw[q3I,e7,q0A,e3]
 by_cases r:Rise ws
 ·rw[if_pos (e5.mpr r),if_pos r]
 ·rw[if_neg (λ g=>r (e5.mp g)),if_neg r]
open Classical in
theorem qBU (k:Nat) (n:Int) (ws:List Wy) (hl:ws.length<=1300):Gm (k+4) 2 [rulD n ws]=if (0<=n/\n<=10)/\ws.all (wyB n)=true/\Rise ws then .ok .non else .err 1:=by
 have e1:=q4f (k+2);show Ev.run (Gm (k+3)) subC 5 [q92,.set 1 (.idx (.var 0) (.con (.int 0))),.set 2 (.idx (.var 0) (.con (.int 1))),q5K,q93,.forr 0 [3] (.e (.var 2)) q5I,.forr 0 [4] (.rng [(.con (.int 1)),(.bi .len [(.var 2)])]) q5J] [rulD n ws]=_;have hl':(ws.map wyD).length<=1300:=by rw[len_eq];exact hl
 simp only[Ev.run,q0k,q1Q,rulD,q6N,q8I,List.cons_append,List.nil_append,qJu,qAC,q0L,q1u,q1C,q06,q8J,List.getElem?_cons_zero,q00,idx0,idx1,q0A,Qd,QS,Qo,List.set_cons_succ,List.set_cons_zero,Nat.reduceAdd,Nat.reduceSub,qJv e1]
 by_cases h:0<=n/\n<=10
 ·simp only[if_pos h,qAC,qJw _ _ _ _ hl'];obtain⟨x1,e2⟩:=q75 k n (some (.val (rulD n ws))) (some (.val (.lst (ws.map wyD)))) none ws none;unfold rulD at e2;have e8:ex (Gm (k+3)) subC (.forr 0 [3] (.e (.var 2)) q5I) [some (.val (.tup [.int n,.lst (ws.map wyD)])),some (.val (.int n)),some (.val (.lst (ws.map wyD))),none,none]=_:=e2;rw[e8];cases q:ws.all (wyB n)
  ·simp
  ·have hw:∀w∈ws,wyW w=true:=λ w hw=>qIA (Qs.mp q w hw);obtain⟨x2,e3⟩:=qIB (G:=Gm (k+3)) (some (.val (rulD n ws))) (some (.val (.int n))) x1 ws hl hw;unfold rulD at e3;rw[if_pos rfl,qAC,e3]
   by_cases r:Rise ws
   ·rw[if_pos r,if_pos ⟨h,rfl,r⟩,qAC]
   ·rw[if_neg r,if_neg λ g=>r g.2.2,qAD]
 ·rw[if_neg h,if_neg λ g=>h g.1,qAD]
end Mk
namespace Mk
open Ev
noncomputable abbrev Wn:=Nat×List Nat
noncomputable def toW (w:Wn):Wy:=((w.1:Int),some (w.2.map λ (a:Nat)=>(a:Int)))
noncomputable def wD (w:Wn):D:= .tup [nI w.1,.tup (nL w.2)]
theorem q3T (w:Wn):wyD (toW w)=wD w:=by unfold wyD toW wD;rw[qJq];rfl
theorem q7x (ws:List Wn):(ws.map toW).map wyD=ws.map wD:=by rw[Q2];exact List.map_congr_left λ w _=>q3T w
noncomputable def rD (n:Nat) (ws:List Wn):D:= .tup [nI n,.lst (ws.map wD)]
theorem qFV (n:Nat) (ws:List Wn):rD n ws=rulD n (ws.map toW):=by unfold rD rulD;rw[q7x];rfl
structure Good (n:Nat) (ws:List Wn):Prop where
 n5:n<=5
 len:ws.length<=60
 ok:∀w∈ws,wyB n (toW w)=true
 rise:Rise (ws.map toW)
theorem q77 {c:Int}:∀{zs:List Int}{a:Int},q1I c a zs=true↔(a::zs).Pairwise (· < ·)/\∀z∈zs,z<c
 |[],a=>by simp[q1I]
 |t::zs,a=>by
  rw[q1I,Qg,Qg,q77 (zs:=zs) (a:=t),decide_eq_true_eq,decide_eq_true_eq];constructor
  ·rintro⟨⟨h1,h2⟩,h3,h4⟩;refine⟨QC.mpr ⟨λ z hz=>?_,h3⟩,λ z hz=>?_⟩
   ·rcases Qh.mp hz with rfl|hz
    ·exact h1
    ·exact Int.lt_trans h1 ((QC.mp h3).1 z hz)
   ·rcases Qh.mp hz with rfl|hz
    ·exact h2
    ·exact h4 z hz
  ·rintro⟨h1,h2⟩;have h3:=QC.mp h1;exact⟨⟨h3.1 t Qb,h2 t Qb⟩,h3.2,λ z hz=>h2 z (Qa _ hz)⟩
def Ris (n:Nat) (l:List Nat):Prop:=l.Pairwise (· < ·)/\∀x∈l,x<n
theorem qFW {n:Nat}{l:List Nat}:q1I n (-1) (l.map λ (a:Nat)=>(a:Int))=true↔Ris n l:=by
 rw[q77,QC,List.pairwise_map];constructor
 ·rintro⟨⟨_,h1⟩,h2⟩;exact⟨h1.imp λ h=>by lia,λ x hx=>by have:=h2 x (Qm.mpr ⟨x,hx,rfl⟩);lia⟩
 ·rintro⟨h1,h2⟩;refine⟨⟨λ z hz=>?_,h1.imp λ h=>by lia⟩,λ z hz=>?_⟩
  ·obtain⟨x,hx,rfl⟩:=Qm.mp hz;show (-1:Int)<(x:Int);lia
  ·obtain⟨x,hx,rfl⟩:=Qm.mp hz;have:=h2 x hx;show (x:Int)<(n:Int);lia
theorem qDE {n:Nat}{w:Wn}:wyB n (toW w)=true↔w.1<n/\Ris n w.2/\w.1∉w.2:=by
 unfold wyB toW;simp only[Qg,qFW,decide_eq_true_eq,Bool.not_eq_true',decide_eq_false_iff_not,Qm];constructor
 ·rintro⟨⟨⟨h1,h2⟩,h3⟩,h4⟩;exact⟨by lia,h3,λ h=>h4 ⟨w.1,h,rfl⟩⟩
 ·rintro⟨h1,h2,h3⟩;refine⟨⟨⟨by lia,by lia⟩,h2⟩,λ⟨x,hx,e⟩=>h3 ?_⟩;have:x=w.1:=by lia
  exact this▸hx
section
variable {n:Nat}{ws:List Wn}(g:Good n ws)
include g
theorem qBV (k:Nat):Gm (k+4) 2 [rD n ws] = .ok .non:=by rw[qFV,qBU k n (ws.map toW) (by rw[Qe];have:=g.len;lia)];have:=g.n5;refine if_pos ⟨⟨by lia,by lia⟩,?_,g.rise⟩;rw[List.all_map];exact Qs.mpr λ w hw=>g.ok w hw
end
end Mk
namespace Mk
open Ev
theorem q1k (k f:Nat) (xs:List D) (a b:Nat) (l:List S) (h:dsM[f]? = some (a,b,l)) (hl:xs.length=a):Gm (k+1) f xs=Ev.run (Gm k) subC b l xs:=by rw[Gm,h];exact if_pos hl
end Mk
namespace Mk
open Ev
variable {G:Nat->List D->R D}{s:S}{l:List S}{ρ ρ':Env}
theorem q01 (h:ex G subC s ρ = .ok ρ' .nx):exs G subC (s::l) ρ=exs G subC l ρ':=by rw[q0k,h,qAC]
theorem q0J {d:D}(h:ex G subC s ρ = .ok ρ' (.ret d)):exs G subC (s::l) ρ = .ok ρ' (.ret d):=by rw[q0k,h,qGg]
theorem q1S {c:Nat}(h:ex G subC s ρ = .err c ρ'):exs G subC (s::l) ρ = .err c ρ':=by rw[q0k,h,qAD]
theorem q0T {n:Nat}{ds:List D}{d:D}(h0:vals ds++Qo (n-ds.length) none=ρ) (h:exs G subC l ρ = .ok ρ' (.ret d)):Ev.run G subC n l ds = .ok d:=by unfold Ev.run;rw[h0,h]
theorem q1T {n:Nat}{ds:List D}{c:Nat}(h0:vals ds++Qo (n-ds.length) none=ρ) (h:exs G subC l ρ = .err c ρ'):Ev.run G subC n l ds = .err c:=by unfold Ev.run;rw[h0,h]
theorem q1f {α:Type}{elt:Env->R D}{cond:Env->R Bool}{k:Nat}{ρ:Env}{f g:α->D}{us:α->List D}{p:α->Bool}:∀{xs:List α},
  (∀x∈xs,unp k (f x) = .ok (us x)/\cond (vals (us x)++ρ) = .ok (p x)/\(p x=true->elt (vals (us x)++ρ) = .ok (g x)))->q0H elt cond k ρ (xs.map f) = .ok ((xs.filter p).map g)
 |[],_=>rfl
 |x::xs,h=>by
  obtain⟨h1,h2,h3⟩:=h x Qb;have ih:=q1f (elt:=elt) (cond:=cond) (k:=k) (ρ:=ρ) (f:=f) (g:=g) (us:=us) (p:=p) (xs:=xs) λ e he=>h e (Qa _ he);rw[Qz,q0H,h1,q00,h2,q00];cases hp:p x with
  |true=>rw[if_pos rfl,h3 hp,q00,ih];simp[Jf,hp]
  |false=>rw[if_neg (by simp),ih];simp[Jf,hp]
theorem q78 {α:Type}(f:α->Bool):∀l:List α,bools? (l.map λ x=>D.bl (f x))=some (l.map f)
 |[]=>rfl
 |x::l=>by simp[bools?,q78 f l]
theorem filter_tt {α:Type}(l:List α):l.filter (λ _=>true)=l:=List.filter_eq_self.mpr λ _ _=>rfl
theorem q96 (l:List Nat):nL l=l.map nI:=rfl
variable {n:Nat}{ws:List Wn}
end Mk
namespace Mk
open Ev
variable {n:Nat}{ws:List Wn}
theorem q97:∀{l:List D},l.Pairwise (λ a b=>eqb a b=false)->dedup l=l
 |[],_=>rfl
 |x::l,h=>by
  obtain⟨h1,h2⟩:=QC.mp h;have:l.any (eqb x)=false:=by rw[List.any_eq_false];intro d hd;simp[h1 d hd]
  rw[dedup,this,q97 h2];rfl
end Mk
namespace Mk
open Ev
theorem num3:D.int 3=nI 3:=rfl
theorem num4:D.int 4=nI 4:=rfl
theorem num5:D.int 5=nI 5:=rfl
theorem qJx:cmD .isN .non .non = .ok (.bl true):=rfl
theorem qJy (c:Nat):cmD .isN (.exc c) .non = .ok (.bl false):=rfl
theorem q79 (G:Nat->List D->R D):Ev.run G subC 2 q0g [.exc 1] = .ok (.str (PySem.Str.ofString "rules")):=by kernel_rfl
noncomputable def q98:D:= .str (PySem.Str.ofString "rules")
theorem qIC (k:Nat):Gm (k+1) 14 [.exc 1] = .ok q98:=(q1k k 14 [.exc 1] 1 2 q0g rfl rfl).trans (q79 _)
end Mk
namespace Mk
open Ev
variable {ρ:Env}
variable {n:Nat}{ws:List Wn}{G:Nat->List D->R D}
theorem q1l {xs:List L}{ds:List D}(h:evs G subC xs ρ = .ok ds) (hl:ds.length<=1000):ev G subC (.tup xs) ρ = .ok (.tup ds):=by rw[q8F,h,q00,if_pos (by rw[q14];lia)]
theorem q12 {xs:List L}{ds:List D}(h:evs G subC xs ρ = .ok ds) (hl:ds.length<=1000):ev G subC (.lst xs) ρ = .ok (.lst ds):=by rw[qAL,h,q00,if_pos (by rw[q14];lia)]
theorem evs2 {a b:L}{x y:D}(h1:ev G subC a ρ = .ok x) (h2:ev G subC b ρ = .ok y):evs G subC [a,b] ρ = .ok [x,y]:=by rw[q0E,h1,q00,q0E,h2,q00,q0R];rfl
theorem evs1 {a:L}{x:D}(h1:ev G subC a ρ = .ok x):evs G subC [a] ρ = .ok [x]:=by rw[q0E,h1,q00,q0R];rfl
end Mk
namespace Mk
open Ev
variable {n:Nat}{ws:List Wn}{G:Nat->List D->R D}
theorem qDF (zs:List Int) (i:Nat):∃c:Int,Ev.run G subC 2 q1A [.lst (iL zs),nI i] = .ok (.int c):=by
 cases zs with
 |nil=>exact⟨0,by simp[Ev.run,q1A]⟩
 |cons z zs =>
  have hl:0<(z::zs).length:=by simp
  have hlt:=Jk i hl;have h1:opD .mod (nI i) (nI (z::zs).length) = .ok (nI (i % (z::zs).length)):=q6M _ _ hl;generalize hA:i % (z::zs).length=A at h1 hlt;refine⟨(z::zs)[A],?_⟩;have h2:idxD (.lst (iL (z::zs))) (nI A) = .ok (.int ((z::zs)[A])):=q9V _ _ _ (by unfold iL;rw[Qn,Qi hlt];rfl)
  have t:tst G subC (.e (.var 0)) [some (.val (.lst (iL (z::zs)))),some (.val (nI i))] = .ok true:=rfl;refine q0T (ρ:=[some (.val (.lst (iL (z::zs)))),some (.val (nI i))]) (ρ':=[some (.val (.lst (iL (z::zs)))),some (.val (nI i))]) rfl ?_;rw[q1A];refine q0J ?_;rw[q1v,t,q0A,if_pos rfl];refine q0J ?_;have h3:biD subC .len [.lst (iL (z::zs))] = .ok (nI (z::zs).length):=by rw[q3J,qI8]
  rw[q1D,q1u,q1C,q0P,q1C,q0U,q0E,q1C,q0R];show (((R.ok (D.lst (iL (z::zs)))).bind λ x=>((R.ok (nI i)).bind λ x=>((((R.ok (D.lst (iL (z::zs)))).bind λ x=>(R.ok ([]:List D)).bind λ xs=>R.ok (x::xs)).bind λ ds=>biD subC .len ds).bind λ y=>opD .mod x y)).bind λ y=>idxD x y).go _ _)=_;simp only[q00];rw[h3,q00,h1,q00,h2,q0A]
theorem qFX (a b:Int):opD .add (.int a) (.int b) = .ok (.int (a+b)):=rfl
theorem qID (a b:Int) (h:-(2^62)<a/\a<2^62):opD .mul (.int a) (.int b) = .ok (.int (a*b)):=by unfold opD;exact if_pos (.inl h)
theorem mul_r (a b:Int) (h:-(2^62)<b/\b<2^62):opD .mul (.int a) (.int b) = .ok (.int (a*b)):=by unfold opD;exact if_pos (.inr h)
theorem qFY (a b:Int) (h:0<b):∃N:Nat,opD .mod (.int a) (.int b) = .ok (.int N):=⟨(a % b).toNat,by have:=Int.emod_nonneg a (Int.ne_of_gt h);unfold opD;dsimp only[intD,opI];rw[if_pos h];congr 2;lia⟩
theorem qIE (a b:Int) (h:0<b/\b<1073741824):opD .fdiv (.int a) (.int b) = .ok (.int (a / b)):=by unfold opD;exact if_pos h
theorem qFZ (s:D) (i:Nat) (hc:∃c:Int,G 10 [s,nI i] = .ok (.int c)):∃N:Nat,Ev.run G subC 3 q27 [s,nI i] = .ok (nI N):=by
 obtain⟨c,hc⟩:=hc;obtain⟨N1,e1⟩:=qFY (c+104729*((i:Int)+1)) 4294967291 (by decide);obtain⟨N2,e2⟩:=qFY ((N1:Int)*48271) 4294967279 (by decide);obtain⟨N3,e3⟩:=qFY ((N2:Int) / 64*69621+N2) 4294967231 (by decide);refine⟨N3,?_⟩;have a1:ev G subC (.op .mod (.op .add (.call 10 [(.var 0),(.var 1)]) (.op .mul (.con (.int 104729)) (.op .add (.var 1) (.con (.int 1))))) (.con (.int 4294967291))) [some (.val s),some (.val (nI i)),none] = .ok (nI N1):=by have v0:getV [some (.val s),some (.val (nI i)),none] 0 = .ok s:=rfl;have v1:getV [some (.val s),some (.val (nI i)),none] 1 = .ok (nI i):=rfl;rw[q0P,q0P,q0B,evs2 (G:=G) (by rw[q1C,v0]) (by rw[q1C,v1]),q00,hc,q00,q0P,q06,q00,q0P,q1C,v1,q00,q06,q00,nI,qFX,q00,qID _ _ (by decide),q00,qFX,q00,q06,q00,e1];rfl
 have a2:ev G subC (.op .mod (.op .mul (.var 2) (.con (.int 48271))) (.con (.int 4294967279))) [some (.val s),some (.val (nI i)),some (.val (nI N1))] = .ok (nI N2):=by have v2:getV [some (.val s),some (.val (nI i)),some (.val (nI N1))] 2 = .ok (.int N1):=rfl;rw[q0P,q0P,q1C,v2,q00,q06,q00,mul_r _ _ (by decide),q00,q06,q00,e2];rfl
 have a3:ev G subC (.op .mod (.op .add (.op .mul (.op .fdiv (.var 2) (.con (.int 64))) (.con (.int 69621))) (.var 2)) (.con (.int 4294967231))) [some (.val s),some (.val (nI i)),some (.val (nI N2))] = .ok (nI N3):=by have v2:getV [some (.val s),some (.val (nI i)),some (.val (nI N2))] 2 = .ok (.int N2):=rfl;rw[q0P,q0P,q0P,q0P,q1C,v2,q00,q06,q00,qIE _ _ (by decide),q00,q06,q00,mul_r _ _ (by decide),q00,q00,qFX,q00,q06,q00,e3];rfl
 refine q0T (ρ:=[some (.val s),some (.val (nI i)),none]) (ρ':=[some (.val s),some (.val (nI i)),some (.val (nI N2))]) rfl ?_;rw[q27,q01 (ρ':=[some (.val s),some (.val (nI i)),some (.val (nI N1))]) (by rw[q0L,a1,q0A];rfl),q01 (ρ':=[some (.val s),some (.val (nI i)),some (.val (nI N2))]) (by rw[q0L,a2,q0A];rfl)];exact q0J (by rw[q1D,a3,q0A])
theorem sub_sub (o:List Nat) (p:Nat->Bool):(((Qp o.length).filter p).map λ j=>o.getD j 0).Sublist o:=by
 have h:(Qp o.length).map (λ j=>o.getD j 0)=o:=by refine List.ext_getElem (by simp) λ i h1 h2=>?_;simp at h1;simp[Jq,h1]
 have:=(List.filter_sublist (p:=p) (l:=Qp o.length)).map λ j=>o.getD j 0
 rwa [h] at this
theorem q9j (s:D) (i:Nat) (o:List Nat) (ho:o.length<=7) (hm:∃N:Nat,G 11 [s,nI i] = .ok (nI N)):∃l:List Nat,l.Sublist o/\Ev.run G subC 4 q1O [s,nI i,.lst (nL o)] = .ok (.tup (nL l)):=by
 obtain⟨N,hm⟩:=hm;have a1:ev G subC (.op .fdiv (.call 11 [(.var 0),(.var 1)]) (.con (.int 8))) [some (.val s),some (.val (nI i)),some (.val (.lst (nL o))),none] = .ok (nI (N / 8)):=by have:opD .fdiv (nI N) (.int 8) = .ok (nI (N / 8)):=q8H N 8 (by decide) (by decide);rw[q0P,q0B,evs2 (G:=G) (x:=s) (y:=nI i) rfl rfl,q00,hm,q00,q06,q00,this]
 generalize N / 8=M at a1;have pw:∀j,j<7->∀ρ:Env,ρ[0]? = some (some (.val (nI j)))->∃P:Nat,0<P/\P<1073741824/\ev G subC (.idx (.lst q3i) (.var 0)) ρ = .ok (nI P):=λ j hj ρ hρ=>by
  have h1:ev G subC (.lst q3i) ρ = .ok (.lst (nL [1,2,4,8,16,32,64])):=q12 rfl (by simp);have h2:ev G subC (.var 0) ρ = .ok (nI j):=by rw[q1C,getV,hρ]
  have h3:∃P:Nat,0<P/\P<1073741824/\[1,2,4,8,16,32,64][j]? = some P:=by
   match j,hj with
   |0,_=>exact⟨1,by decide,by decide,rfl⟩
   |1,_=>exact⟨2,by decide,by decide,rfl⟩
   |2,_=>exact⟨4,by decide,by decide,rfl⟩
   |3,_=>exact⟨8,by decide,by decide,rfl⟩
   |4,_=>exact⟨16,by decide,by decide,rfl⟩
   |5,_=>exact⟨32,by decide,by decide,rfl⟩
   |6,_=>exact⟨64,by decide,by decide,rfl⟩
  obtain⟨P,p1,p2,p3⟩:=h3;refine⟨P,p1,p2,?_⟩;rw[q1u,h1,q00,h2,q00];exact q9V _ _ _ (by unfold nL;rw[Qn,p3];rfl)
 have hp:∀j,j<7->∃b:Bool,tsts G subC [(.e (.cm .eq (.op .mod (.op .fdiv (.var 4) (.idx (.lst q3i) (.var 0))) (.con (.int 2))) (.con (.int 1))))] [some (.val (nI j)),some (.val s),some (.val (nI i)),some (.val (.lst (nL o))),some (.val (nI M))] = .ok b:=λ j hj=>by obtain⟨P,p1,p2,p3⟩:=pw j hj [some (.val (nI j)),some (.val s),some (.val (nI i)),some (.val (.lst (nL o))),some (.val (nI M))] rfl;have h4:ev G subC (.var 4) [some (.val (nI j)),some (.val s),some (.val (nI i)),some (.val (.lst (nL o))),some (.val (nI M))] = .ok (nI M):=rfl;have h5:opD .mod (nI (M / P)) (.int 2) = .ok (nI (M / P % 2)):=q6M _ 2 (by decide);have h6:cmD .eq (nI (M / P % 2)) (.int 1) = .ok (.bl (decide (M / P % 2=1))):=eq_n _ 1;refine⟨decide (M / P % 2=1),?_⟩;rw[q4A,q9T,q9S,q0P,q0P,h4,q00,p3,q00,q8H M P p1 p2,q00,q06,q00,h5,q00,q06,q00,h6,q00,qC8,q00,q5Y];cases decide (M / P % 2=1)<;>rfl
 have hp2:∃p:Nat->Bool,∀j,j<7->tsts G subC [(.e (.cm .eq (.op .mod (.op .fdiv (.var 4) (.idx (.lst q3i) (.var 0))) (.con (.int 2))) (.con (.int 1))))] [some (.val (nI j)),some (.val s),some (.val (nI i)),some (.val (.lst (nL o))),some (.val (nI M))] = .ok (p j):=by refine⟨λ j=>if h:j<7 then (hp j h).choose else false,λ j hj=>?_⟩;simp only[hj,dif_pos];exact (hp j hj).choose_spec
 obtain⟨p,hp3⟩:=hp2;refine⟨_,sub_sub o p,?_⟩;have a2:q0H (ev G subC (.idx (.var 3) (.var 0))) (tsts G subC [(.e (.cm .eq (.op .mod (.op .fdiv (.var 4) (.idx (.lst q3i) (.var 0))) (.con (.int 2))) (.con (.int 1))))]) 0 [some (.val s),some (.val (nI i)),some (.val (.lst (nL o))),some (.val (nI M))] ((Qp o.length).map nI) = .ok (((Qp o.length).filter p).map λ j=>nI (o.getD j 0)) :=
  q1f (us:=λ j=>[nI j]) λ j hj=>by have hj2:=QA.mp hj;refine⟨rfl,hp3 j (by lia),λ _=>?_⟩;have h1:idxD (.lst (nL o)) (nI j) = .ok (nI (o.getD j 0)):=q9V _ _ _ (by unfold nL;rw[Qn,Qi hj2];simp[Jq,hj2]);exact h1
 have b1:(((Qp o.length).filter p).map λ j=>nI (o.getD j 0)).length<=big:=by rw[Qe,q14];refine Qt (List.length_filter_le _ _) ?_;rw[QW];lia
 have a3:evi G subC (.rng [(.bi .len [(.var 2)])]) [some (.val s),some (.val (nI i)),some (.val (.lst (nL o))),some (.val (nI M))] = .ok ((Qp o.length).map nI):=by
  have h1:evs G subC [(.bi .len [(.var 2)])] [some (.val s),some (.val (nI i)),some (.val (.lst (nL o))),some (.val (nI M))] = .ok [nI o.length]:=evs1 (by have:biD subC .len [.lst (nL o)] = .ok (nI o.length):=(by rw[q3J,q6L]);rw[q0U,evs1 (G:=G) (x:= .lst (nL o)) rfl,q00,this])
  rw[q21,h1,q00,q4w _ (by lia)];rfl
 have a4:ev G subC (.comp 0 (.idx (.var 3) (.var 0)) (.rng [(.bi .len [(.var 2)])]) [(.e (.cm .eq (.op .mod (.op .fdiv (.var 4) (.idx (.lst q3i) (.var 0))) (.con (.int 2))) (.con (.int 1))))]) [some (.val s),some (.val (nI i)),some (.val (.lst (nL o))),some (.val (nI M))] = .ok (.lst (nL (((Qp o.length).filter p).map λ j=>o.getD j 0))):=by rw[q20,a3,q00,a2,q2E,q00,if_pos b1];unfold nL;rw[Q2];rfl
 refine q0T (ρ:=[some (.val s),some (.val (nI i)),some (.val (.lst (nL o))),none]) (ρ':=[some (.val s),some (.val (nI i)),some (.val (.lst (nL o))),some (.val (nI M))]) rfl ?_;show exs G subC [.set 3 (.op .fdiv (.call 11 [(.var 0),(.var 1)]) (.con (.int 8))),.ret (.bi .tuple [(.comp 0 (.idx (.var 3) (.var 0)) (.rng [(.bi .len [(.var 2)])]) [(.e (.cm .eq (.op .mod (.op .fdiv (.var 4) (.idx (.lst q3i) (.var 0))) (.con (.int 2))) (.con (.int 1))))])])] _=_;rw[q01 (ρ':=[some (.val s),some (.val (nI i)),some (.val (.lst (nL o))),some (.val (nI M))]) (by rw[q0L,a1,q0A];rfl)];exact q0J (by rw[q1D,q0U,evs1 a4,q00,q6O,q0A])
end Mk
namespace Mk
open Ev
variable {s:D}{acc:List Wn}{t:Nat}{y:Option Sl}{ρ:Env}{a:L}
variable {n:Nat}{ws:List Wn}{G:Nat->List D->R D}{K M:Nat}
theorem qJz (a b:Nat) (h:a<2^62):opD .mul (nI a) (nI b) = .ok (nI (a*b)):=by unfold nI;rw[qID _ _ (by lia)];congr 2
def GoodW (n:Nat) (w:Wn):Prop:=w.1<n/\Ris n w.2/\w.1∉w.2
structure Draw (G:Nat->List D->R D) (s:D):Prop where
 mix:∀i:Nat,∃N:Nat,G 11 [s,nI i] = .ok (nI N)
 sub:∀(i:Nat) (o:List Nat),o.length<=7->∃l:List Nat,l.Sublist o/\G 12 [s,nI i,.lst (nL o)] = .ok (.tup (nL l))
noncomputable def ruE (K M:Nat) (s:D) (n:Nat) (acc:List Wn) (t:Nat) (o:List Nat) (x y:Option Sl):Env :=
 [some (.val s),some (.val (nI K)),some (.val (nI M)),some (.val (nI n)),some (.own (.lst (acc.map wD))),some (.val (nI t)),some (.val (.lst (nL o))),x,y]
theorem ev_k (c:Nat) {j:Nat}{o:List Nat}:ev G subC (q3m c) (ruE K M s n acc t o (some (.val (nI j))) y) = .ok (nI (K+c+4*t+j)):=by have h1:opD .mul (.int 4) (nI t) = .ok (nI (4*t)):=qJz 4 t (by decide);have h2:opD .add (nI K) (.int c) = .ok (nI (K+c)):=add_n K c;have v1:getV (ruE K M s n acc t o (some (.val (nI j))) y) 1 = .ok (nI K):=rfl;have v5:getV (ruE K M s n acc t o (some (.val (nI j))) y) 5 = .ok (nI t):=rfl;have v7:getV (ruE K M s n acc t o (some (.val (nI j))) y) 7 = .ok (nI j):=rfl;rw[q3m,q0P,q0P,q0P,q1C,v1,q00,q06,q00,h2,q00,q0P,q06,q00,q1C,v5,q00,h1,q00,add_n,q00,q1C,v7,q00,add_n]
theorem q1m {f:Nat}{b:L}{x y d:D}(h1:ev G subC a ρ = .ok x) (h2:ev G subC b ρ = .ok y) (h:G f [x,y] = .ok d):ev G subC (.call f [a,b]) ρ = .ok d:=by rw[q0B,evs2 h1 h2,q00,h]
theorem q99 {N c:Nat}(hc:0<c) (h:ev G subC a ρ = .ok (nI N)):ev G subC (.op .mod a (.con (.int c))) ρ = .ok (nI (N % c)):=by rw[q0P,h,q00,q06,q00];exact q6M N c hc
theorem qBW {N:Nat}(h:ev G subC a ρ = .ok (nI N)):tst G subC (.e (.cm .gt a (.con (.int 0)))) ρ = .ok (decide (0<N)):=by rw[q9T,q9S,h,q00,q06,q00,num0,gt_n,q00,qC8]
theorem qFa (d:Draw G s) {j:Nat}{o:List Nat}(ho:o.length<=7) (hon:∀l:List Nat,l.Sublist o->GoodW n (t,l)) (hl:acc.length<1000) :
  ∃(w:Wn) (y':Option Sl),GoodW n w/\exs G subC q74 (ruE K M s n acc t o (some (.val (nI j))) y) = .ok (ruE K M s n (acc++[w]) t o (some (.val (nI j))) y') .nx:=by
 obtain⟨l,hlo,e23⟩:=d.sub (K+10+4*t+j) o ho;obtain⟨N1,m1⟩:=d.mix (K+40+4*t+j);obtain⟨N2,m2⟩:=d.mix (K+41+4*t+j);obtain⟨N3,m3⟩:=d.mix (K+70+t);have e1:ex G subC qFR (ruE K M s n acc t o (some (.val (nI j))) y) = .ok (ruE K M s n acc t o (some (.val (nI j))) (some (.val (.tup (nL l))))) .nx:=by
  have h3:evs G subC [(.var 0),q3m 10,(.var 6)] (ruE K M s n acc t o (some (.val (nI j))) y) = .ok [s,nI (K+10+4*t+j),.lst (nL o)]:=by have k10:=ev_k (K:=K) (M:=M) (G:=G) (n:=n) 10 (s:=s) (acc:=acc) (t:=t) (j:=j) (o:=o) (y:=y);have v0:ev G subC (.var 0) (ruE K M s n acc t o (some (.val (nI j))) y) = .ok s:=rfl;have v6:ev G subC (.var 6) (ruE K M s n acc t o (some (.val (nI j))) y) = .ok (.lst (nL o)):=rfl;rw[q0E,v0,q00,q0E];rw[show q3m 10=q3m ((10:Nat):Int) from rfl,k10,q00,evs1 v6];rfl
  rw[qFR,q0L,q0B,h3,q00,e23,q0A];rfl
 have e2:∃l2:List Nat,l2.Sublist o/\ex G subC qD9 (ruE K M s n acc t o (some (.val (nI j))) (some (.val (.tup (nL l))))) = .ok (ruE K M s n acc t o (some (.val (nI j))) (some (.val (.tup (nL l2))))) .nx:=by
  have k40:=ev_k (K:=K) (M:=M) (G:=G) (n:=n) 40 (s:=s) (acc:=acc) (t:=t) (j:=j) (o:=o) (y:=some (.val (.tup (nL l))));have k41:=ev_k (K:=K) (M:=M) (G:=G) (n:=n) 41 (s:=s) (acc:=acc) (t:=t) (j:=j) (o:=o) (y:=some (.val (.tup (nL l))));have v0:ev G subC (.var 0) (ruE K M s n acc t o (some (.val (nI j))) (some (.val (.tup (nL l))))) = .ok s:=rfl;have t1:=qBW (q99 (c:=3) (by decide) (q1m v0 k40 m1))
  by_cases q:0<N1 % 3
  ·rw[decide_eq_true q] at t1;refine⟨l.take (1+N2 % 2),(List.take_sublist _ _).trans hlo,?_⟩;have c1:=q99 (c:=2) (by decide) (q1m v0 k41 m2);have c2:ev G subC (.op .add (.con (.int 1)) (.op .mod (.call 11 [(.var 0),q3m 41]) (.con (.int 2)))) (ruE K M s n acc t o (some (.val (nI j))) (some (.val (.tup (nL l))))) = .ok (nI (1+N2 % 2)):=by rw[q0P,q06,q00];refine (congrArg (λ z:R D=>z.bind λ y=>opD .add (.int 1) y) c1).trans ?_;exact add_n 1 _
   have v8:ev G subC (.var 8) (ruE K M s n acc t o (some (.val (nI j))) (some (.val (.tup (nL l))))) = .ok (.tup (nL l)):=rfl;have a6:optI [nI (1+N2 % 2)] = .ok (some ((1+N2 % 2:Nat):Int)):=rfl;have a8:optI [] = .ok none:=rfl;have a4:slD 0 none (some ((1+N2 % 2:Nat):Int)) (.tup (nL l)) = .ok (.tup (nL (l.take (1+N2 % 2)))):=by
    generalize 1+N2 % 2=A;have:¬((A:Int)<0):=(by lia);simp only[slD,cutL,bnd,if_true,if_neg this,Int.toNat_natCast,List.drop_zero,Nat.sub_zero];congr 2;unfold nL;rw[List.map_take,Qe];rcases Nat.le_total A l.length with h|h
    ·rw[Nat.min_eq_left h]
    ·rw[Nat.min_eq_right h,QV (by simp),QV (by simp;lia)]
   have c3:ev G subC (.sl 0 (.var 8) [] [(.op .add (.con (.int 1)) (.op .mod (.call 11 [(.var 0),q3m 41]) (.con (.int 2))))]) (ruE K M s n acc t o (some (.val (nI j))) (some (.val (.tup (nL l))))) = .ok (.tup (nL (l.take (1+N2 % 2)))):=by rw[q4o,v8,q00,q0R,q00,evs1 c2,q00,a8,q00,a6,q00,a4]
   have t1':tst G subC (.e (.cm .gt (.op .mod (.call 11 [(.var 0),q3m 40]) (.con (.int 3))) (.con (.int 0)))) (ruE K M s n acc t o (some (.val (nI j))) (some (.val (.tup (nL l))))) = .ok true:=t1;rw[qD9,q1v,t1',q0A,if_pos rfl,q01 (ρ':=ruE K M s n acc t o (some (.val (nI j))) (some (.val (.tup (nL (l.take (1+N2 % 2))))))) (by rw[q0L,c3,q0A];rfl),q1Q]
  ·rw[decide_eq_false q] at t1;have t1':tst G subC (.e (.cm .gt (.op .mod (.call 11 [(.var 0),q3m 40]) (.con (.int 3))) (.con (.int 0)))) (ruE K M s n acc t o (some (.val (nI j))) (some (.val (.tup (nL l))))) = .ok false:=t1;exact⟨l,hlo,by rw[qD9,q1v,t1',q0A,if_neg (by simp),q1Q]⟩
 obtain⟨l2,hl2,e2⟩:=e2;have e3:∃l3:List Nat,l3.Sublist o/\ex G subC qFS (ruE K M s n acc t o (some (.val (nI j))) (some (.val (.tup (nL l2))))) = .ok (ruE K M s n (acc++[(t,l3)]) t o (some (.val (nI j))) (some (.val (.tup (nL l2))))) .nx:=by
  have v0:ev G subC (.var 0) (ruE K M s n acc t o (some (.val (nI j))) (some (.val (.tup (nL l2))))) = .ok s:=rfl;have v5:ev G subC (.var 5) (ruE K M s n acc t o (some (.val (nI j))) (some (.val (.tup (nL l2))))) = .ok (nI t):=rfl;have v1:ev G subC (.var 1) (ruE K M s n acc t o (some (.val (nI j))) (some (.val (.tup (nL l2))))) = .ok (nI K):=rfl;have v8:ev G subC (.var 8) (ruE K M s n acc t o (some (.val (nI j))) (some (.val (.tup (nL l2))))) = .ok (.tup (nL l2)):=rfl;have k70:ev G subC (.op .add (.op .add (.var 1) (.con (.int 70))) (.var 5)) (ruE K M s n acc t o (some (.val (nI j))) (some (.val (.tup (nL l2))))) = .ok (nI (K+70+t)):=by have h2:opD .add (nI K) (.int 70) = .ok (nI (K+70)):=add_n K 70;rw[q0P,q0P,v1,q00,q06,q00,h2,q00,v5,q00,add_n]
  have t1:=qBW (q99 (c:=4) (by decide) (q1m v0 k70 m3));have key:∃l3:List Nat,l3.Sublist o/\ev G subC (.ite (.e (.cm .gt (.op .mod (.call 11 [(.var 0),(.op .add (.op .add (.var 1) (.con (.int 70))) (.var 5))]) (.con (.int 4))) (.con (.int 0)))) (.var 8) (.tup [])) (ruE K M s n acc t o (some (.val (nI j))) (some (.val (.tup (nL l2))))) = .ok (.tup (nL l3)):=by
   by_cases q:0<N3 % 4
   ·rw[decide_eq_true q] at t1;have t1':tst G subC (.e (.cm .gt (.op .mod (.call 11 [(.var 0),(.op .add (.op .add (.var 1) (.con (.int 70))) (.var 5))]) (.con (.int 4))) (.con (.int 0)))) (ruE K M s n acc t o (some (.val (nI j))) (some (.val (.tup (nL l2))))) = .ok true:=t1;exact⟨l2,hl2,by rw[qAK,t1',q00,if_pos rfl,v8]⟩
   ·rw[decide_eq_false q] at t1;have t1':tst G subC (.e (.cm .gt (.op .mod (.call 11 [(.var 0),(.op .add (.op .add (.var 1) (.con (.int 70))) (.var 5))]) (.con (.int 4))) (.con (.int 0)))) (ruE K M s n acc t o (some (.val (nI j))) (some (.val (.tup (nL l2))))) = .ok false:=t1;exact⟨[],List.nil_sublist _,by rw[qAK,t1',q00,if_neg (by simp)];exact q1l (q0R _) (by simp)⟩
  obtain⟨l3,hl3,key⟩:=key;refine⟨l3,hl3,?_⟩;have b1:(acc.map wD).length<big:=by rw[Qe,q14];lia
  rw[qFS,q8G];show (ev G subC _ _).go _ _=_;rw[q1l (evs2 v5 key) (by simp),q0A];show (if (acc.map wD).length<big then _ else _)=_;rw[if_pos b1];unfold ruE;rw[Jp];rfl
 obtain⟨l3,hl3,e3⟩:=e3;exact⟨(t,l3),_,hon l3 hl3,by rw[q74,q01 e1,q01 e2,q01 e3,q1Q]⟩
theorem q9A {s:D}(d:Draw G s) {t:Nat}{o:List Nat}(ho:o.length<=7) (hon:∀l:List Nat,l.Sublist o->GoodW n (t,l)):∀(js:List Nat) (acc:List Wn) (x y:Option Sl),acc.length+js.length<=1000->
  ∃(vs:List Wn) (x' y':Option Sl),(∀w∈vs,GoodW n w)/\vs.length=js.length/\q0m (exs G subC q74) 0 [7] (nL js) (ruE K M s n acc t o x y) = .ok (ruE K M s n (acc++vs) t o x' y') .nx
 |[],acc,x,y,_=>⟨[],x,y,by simp,rfl,by simp[q4F]⟩
 |j::js,acc,x,y,hl=>by simp only[Qd] at hl;obtain⟨w,y1,hw,e1⟩:=qFa d (j:=j) (y:=y) ho hon (acc:=acc) (by lia);obtain⟨vs,x2,y2,hv,hvl,e2⟩:=q9A d ho hon js (acc++[w]) (some (.val (nI j))) y1 (by simp;lia);refine⟨w::vs,x2,y2,Q9.mpr ⟨hw,hv⟩,by simp[hvl],?_⟩;rw[q5Z,q1Y];have:List.set (ruE K M s n acc t o x y) 7 (some (.val (nI j)))=ruE K M s n acc t o (some (.val (nI j))) y:=rfl;rw[this,e1,q3F,e2];simp
noncomputable def ruE2 (K M:Nat) (s:D) (n:Nat) (acc:List Wn) (t:Option Sl) (o x y:Option Sl):Env :=
 [some (.val s),some (.val (nI K)),some (.val (nI M)),some (.val (nI n)),some (.own (.lst (acc.map wD))),t,o,x,y]
theorem qFb (d:Draw G s) (hn:n<=5) (ht:t<n) {o x:Option Sl}(hl:acc.length+3<=1000) :
  ∃(vs:List Wn) (o' x' y':Option Sl),(∀w∈vs,GoodW n w)/\vs.length<=3/\exs G subC q3S (ruE2 K M s n acc (some (.val (nI t))) o x y) = .ok (ruE2 K M s n (acc++vs) (some (.val (nI t))) o' x' y') .nx:=by
 generalize ho:(Qp n).filter (λ e=>!decide (e=t))=os;have hol:os.length<=7:=by rw[<-ho];refine Qt (List.length_filter_le _ _) ?_;rw[QW];lia
 have hon:∀l:List Nat,l.Sublist os->GoodW n (t,l):=λ l h=>by
  have hm:∀x∈l,x<n/\¬x=t:=λ x hx=>by have:=h.subset hx;rw[<-ho] at this;simpa using this
  refine⟨ht,⟨?_,λ x hx=>(hm x hx).1⟩,λ h=>(hm t h).2 rfl⟩;refine List.Pairwise.sublist h ?_;rw[<-ho];exact List.Pairwise.filter _ List.pairwise_lt_range
 have e1:ex G subC (.set 6 qFT) (ruE2 K M s n acc (some (.val (nI t))) o x y) = .ok (ruE K M s n acc t os x y) .nx:=by
  have a1:=q5a (elt:=ev G subC (.var 0)) (cond:=tsts G subC [(.e (.cm .ne (.var 0) (.var 6)))]) (ρ:=ruE2 K M s n acc (some (.val (nI t))) o x y) (p:=λ e=>!decide (e=t)) (l:=Qp n)
   (λ a _=>by have v0:ev G subC (.var 0) (some (.val (nI a))::ruE2 K M s n acc (some (.val (nI t))) o x y) = .ok (nI a):=rfl;have v6:ev G subC (.var 6) (some (.val (nI a))::ruE2 K M s n acc (some (.val (nI t))) o x y) = .ok (nI t):=rfl;rw[q4A,q9T,q9S,v0,q00,v6,q00,ne_n,q00,qC8,q00,q5Y];cases !decide (a=t)<;>rfl) (λ a _=>rfl)
  have a2:evi G subC (.rng [(.var 3)]) (ruE2 K M s n acc (some (.val (nI t))) o x y) = .ok (nL (Qp n)):=by rw[q21,evs1 (G:=G) (x:=nI n) rfl,q00,q4w n (by lia)]
  have b1:(nL os).length<=big:=by rw[q6L,q14];lia
  rw[ho] at a1;rw[qFT,q0L,q20,a2,q00,a1,q2E,q00,if_pos b1,q0A];rfl
 obtain⟨N,m⟩:=d.mix (K+1+t);have e2:∃c:Nat,c<=3/\ev G subC qDA (ruE K M s n acc t os x y) = .ok (nI c):=by
  have v0:ev G subC (.var 0) (ruE K M s n acc t os x y) = .ok s:=rfl;have v5:ev G subC (.var 5) (ruE K M s n acc t os x y) = .ok (nI t):=rfl;have v1:ev G subC (.var 1) (ruE K M s n acc t os x y) = .ok (nI K):=rfl;have k1:ev G subC (.op .add (.op .add (.var 1) (.con (.int 1))) (.var 5)) (ruE K M s n acc t os x y) = .ok (nI (K+1+t)):=by have h2:opD .add (nI K) (.int 1) = .ok (nI (K+1)):=add_n K 1;rw[q0P,q0P,v1,q00,q06,q00,h2,q00,v5,q00,add_n]
  have c1:=q99 (c:=6) (by decide) (q1m v0 k1 m);have h1:ev G subC (.lst [(.con (.int 1)),(.con (.int 1)),(.con (.int 2)),(.con (.int 2)),(.con (.int 3)),(.con (.int 0))]) (ruE K M s n acc t os x y) = .ok (.lst (nL [1,1,2,2,3,0])):=q12 rfl (by simp);have h3:∃P:Nat,P<=3/\[1,1,2,2,3,0][N % 6]? = some P:=by
   have h6:N % 6<6:=Jk _ (by decide)
   match N % 6,h6 with
   |0,_=>exact⟨1,by decide,rfl⟩
   |1,_=>exact⟨1,by decide,rfl⟩
   |2,_=>exact⟨2,by decide,rfl⟩
   |3,_=>exact⟨2,by decide,rfl⟩
   |4,_=>exact⟨3,by decide,rfl⟩
   |5,_=>exact⟨0,by decide,rfl⟩
  obtain⟨P,p1,p3⟩:=h3;refine⟨P,p1,?_⟩;rw[qDA,q1u,h1,q00];refine (congrArg (λ z:R D=>z.bind λ y=>idxD (.lst (nL [1,1,2,2,3,0])) y) c1).trans ?_;exact q9V _ _ _ (by unfold nL;rw[Qn,p3];rfl)
 obtain⟨c,hc,e2⟩:=e2;obtain⟨vs,x2,y2,hv,hvl,e3⟩:=q9A d hol hon (Qp c) acc x y (by rw[QW];lia);refine⟨vs,some (.val (.lst (nL os))),x2,y2,hv,by rw[hvl,QW];lia,?_⟩;have e4:ex G subC (.forr 0 [7] (.rng [qDA]) q74) (ruE K M s n acc t os x y) = .ok (ruE K M s n (acc++vs) t os x2 y2) .nx:=by rw[q3I,q21,evs1 e2,q00,q4w c (by lia),q0A,e3]
 rw[q3S,q01 e1,q01 e4,q1Q];rfl
theorem q9B {s:D}(d:Draw G s) (hn:n<=5):∀(ts:List Nat) (acc:List Wn) (t o x y:Option Sl),(∀u∈ts,u<n)->acc.length+3*ts.length<=1000->
  ∃(vs:List Wn) (t' o' x' y':Option Sl),(∀w∈vs,GoodW n w)/\vs.length<=3*ts.length/\q0m (exs G subC q3S) 0 [5] (nL ts) (ruE2 K M s n acc t o x y) = .ok (ruE2 K M s n (acc++vs) t' o' x' y') .nx
 |[],acc,t,o,x,y,_,_=>⟨[],t,o,x,y,by simp,by simp,by simp[q4F]⟩
 |u::ts,acc,t,o,x,y,hu,hl=>by
  simp only[Qd] at hl;obtain⟨vs,o1,x1,y1,hv,hvl,e1⟩:=qFb d hn (hu u Qb) (acc:=acc) (o:=o) (x:=x) (y:=y) (by lia);obtain⟨vs2,t2,o2,x2,y2,hv2,hvl2,e2⟩:=q9B d hn ts (acc++vs) (some (.val (nI u))) o1 x1 y1 (λ v hv=>hu v (Qa _ hv)) (by simp;lia);refine⟨vs++vs2,t2,o2,x2,y2,λ w hw=>?_,by simp;lia,?_⟩
  ·rcases Qq.mp hw with h|h
   ·exact hv w h
   ·exact hv2 w h
  ·rw[q5Z,q1Y];have:List.set (ruE2 K M s n acc t o x y) 5 (some (.val (nI u)))=ruE2 K M s n acc (some (.val (nI u))) o x y:=rfl;rw[this,e1,q3F,e2,QN]
end Mk
namespace Mk
open Ev
variable {n:Nat}{ws:List Wn}{G:Nat->List D->R D}
theorem q36:∀{l:List D}{d:D},d∈dedup l->d∈l
 |[],_,h=>h
 |x::l,d,h=>by
  rw[dedup] at h;split at h
  ·exact Qa _ (q36 h)
  ·rcases Qh.mp h with rfl|h
   ·exact Qb
   ·exact Qa _ (q36 h)
theorem q5u:∀{l:List D},(dedup l).Pairwise λ a b=>eqb a b=false
 |[]=>List.Pairwise.nil
 |x::l=>by
  rw[dedup];split
  ·exact q5u
  ·rename_i h;refine QC.mpr ⟨λ d hd=>?_,q5u⟩;cases q:eqb x d with
   |false=>rfl
   |true=>exact absurd (List.any_eq_true.mpr ⟨d,q36 hd,q⟩) h
theorem q7A:∀l:List D,(dedup l).length<=l.length
 |[]=>Qf _
 |x::l=>by
  have:=q7A l;rw[dedup];split
  ·simp;lia
  ·simp;lia
theorem qDG (w:Wn):q02 (wD w)=true:=by rw[<-q3T];exact qBT _
theorem qE0 {n:Nat}:∀{l:List D},(∀d∈l,∃w,GoodW n w/\d=wD w)->∃ws:List Wn,(∀w∈ws,GoodW n w)/\l=ws.map wD
 |[],_=>⟨[],by simp,rfl⟩
 |d::l,h=>by obtain⟨w,hw,rfl⟩:=h d Qb;obtain⟨ws,hws,rfl⟩:=qE0 λ e he=>h e (Qa _ he);exact⟨w::ws,Q9.mpr ⟨hw,hws⟩,rfl⟩
theorem qE1 {α:Type}{R:α->α->Prop}:∀{l:List α},l.Pairwise R->∀(p:Nat) (a b:α),l[p]? = some a->l[p+1]? = some b->R a b
 |[],_,p,a,b,h,_=>by simp at h
 |x::l,h,0,a,b,h1,h2=>by obtain⟨h3,_⟩:=QC.mp h;simp at h1;subst h1;rw[List.getElem?_cons_succ] at h2;exact h3 b (Qk h2)
 |x::l,h,p+1,a,b,h1,h2=>by obtain⟨_,h4⟩:=QC.mp h;rw[List.getElem?_cons_succ] at h1 h2;exact qE1 h4 p a b h1 h2
def Up (ws:List Wn):Prop:=(ws.map wD).Pairwise λ a b=>ltb a b=true
theorem qFc (hn:n<=5) (hl:ws.length<=60) (h:∀w∈ws,GoodW n w) (u:Up ws):Good n ws :=
 ⟨hn,hl,λ w hw=>qDE.mpr (h w hw),λ p hpl v w h1 h2=>qE1 u p (wyD v) (wyD w) (by rw[<-q7x,Qn,h1];rfl) (by rw[<-q7x,Qn,h2];rfl)⟩
theorem qDH (hn:n<=5) {dd:List D}(hdm:∀d∈dd,∃w,GoodW n w/\d=wD w) (hpw:dd.Pairwise λ a b=>eqb a b=false) (hlen:dd.length<=60):∃ws:List Wn,Good n ws/\Up ws/\q1y dd=ws.map wD/\q1t dd=true:=by
 have hp:=q0v dd;have hhd:∀d∈dd,q02 d=true:=λ d hx=>by obtain⟨w,_,rfl⟩:=hdm d hx;exact qDG w
 have hcd:∀a∈dd,∀b∈dd,q0e a b=true:=λ a ha b hb=>by obtain⟨v,_,rfl⟩:=hdm a ha;obtain⟨w,_,rfl⟩:=hdm b hb;rw[<-q3T,<-q3T];exact qDz _ _ rfl rfl
 have hnd:dd.Nodup:=by refine List.Pairwise.imp_of_mem (λ {a b} ha hb hab e=>?_) hpw;subst e;rw[(q0Z (hhd a ha) (hhd a ha)).mpr rfl] at hab;cases hab
 obtain⟨ws,hws,hwe⟩:=qE0 (l:=q1y dd) λ d hx=>hdm d (hp.mem_iff.mp hx);have hrise:Up ws:=by
  unfold Up;rw[<-hwe];have h1:(q1y dd).Nodup:=hp.nodup_iff.mpr hnd;have h2:=q1z hhd;refine List.Pairwise.imp_of_mem (λ {a b} ha hb hab=>?_) (List.Pairwise.and h1 h2);rcases q7c (hhd a (hp.mem_iff.mp ha)) (hhd b (hp.mem_iff.mp hb)) (hcd a (hp.mem_iff.mp ha) b (hp.mem_iff.mp hb)) with t|t|t
  ·exact t
  ·exact absurd t hab.1
  ·rw[hab.2] at t;cases t
 have hwl:ws.length=dd.length:=by rw[<-hp.length_eq,hwe,Qe]
 refine⟨ws,qFc hn (by lia) hws hrise,hrise,hwe,?_⟩;have t1:q09 dd=true:=q0K.mpr hhd;have t2:plL dd=true:=q1R.mpr λ d hx=>by obtain⟨w,_,rfl⟩:=hdm d hx;rw[<-q3T];exact qDD _
 have t3:q5Q q0e dd=true:=Qs.mpr λ a ha=>Qs.mpr λ b hb=>hcd a ha b hb;have t5:dd.all q1X=true:=Qs.mpr λ d hx=>by obtain⟨w,_,rfl⟩:=hdm d hx;rfl
 unfold q1t qEK;rw[t1,t2,t3,q97 hpw,t5,decide_eq_true (by lia:dd.length<64)];simp
theorem qDI (hn:n<=5) {acc:List Wn}(h:∀w∈acc,GoodW n w) (hl:acc.length<=60):∃ws:List Wn,Good n ws/\Up ws/\biD subC .sortedSet [.lst (acc.map wD)] = .ok (.lst (ws.map wD)):=by
 obtain⟨ws,g,u,e,s⟩:=qDH hn (dd:=dedup (acc.map wD)) (λ d hx=>by obtain⟨w,hw,rfl⟩:=Qm.mp (q36 hx);exact⟨w,h w hw,rfl⟩) q5u (Qt (q7A _) (by rw[Qe];exact hl))
 refine⟨ws,g,u,?_⟩;have s1:q09 (acc.map wD)=true:=q0K.mpr λ d hx=>by obtain⟨w,_,rfl⟩:=Qm.mp hx;exact qDG w
 have s2:plL (acc.map wD)=true:=q1R.mpr λ d hx=>by obtain⟨w,_,rfl⟩:=Qm.mp hx;rw[<-q3T];exact qDD _
 have s3:decide ((acc.map wD).length<=1000)=true:=decide_eq_true (by rw[Qe];lia);rw[q6P,q9U,q00,s1,s2,s3,s,e];rfl
theorem q9k {s:D}{K M:Nat}(hM:M<=5) (d:Draw G s):∃(n:Nat) (ws:List Wn),n<=M/\Good n ws/\Up ws/\Ev.run G subC 9 q1H [s,nI K,nI M] = .ok (rD n ws):=by
 obtain⟨N,m⟩:=d.mix K;have hnM:N % (M+1)<=M:=by have:=Jk N (Nat.succ_pos M);lia
 generalize hN:N % (M+1)=n at hnM;have hn:n<=5:=by lia
 obtain⟨vs,t,o,x,y,hv,hvl,e⟩:=q9B (K:=K) (M:=M) (n:=n) d hn (Qp n) [] none none none none (λ u hu=>QA.mp hu) (by simp;lia);rw[QW] at hvl;obtain⟨ws,hg,hu,es⟩:=qDI hn hv (by lia);refine⟨n,ws,hnM,hg,hu,?_⟩;have e1:ex G subC qDB [some (.val s),some (.val (nI K)),some (.val (nI M)),none,none,none,none,none,none] = .ok [some (.val s),some (.val (nI K)),some (.val (nI M)),some (.val (nI n)),none,none,none,none,none] .nx:=by
  have v0:ev G subC (.var 0) [some (.val s),some (.val (nI K)),some (.val (nI M)),none,none,none,none,none,none] = .ok s:=rfl;have v1:ev G subC (.var 1) [some (.val s),some (.val (nI K)),some (.val (nI M)),none,none,none,none,none,none] = .ok (nI K):=rfl;have v2:ev G subC (.var 2) [some (.val s),some (.val (nI K)),some (.val (nI M)),none,none,none,none,none,none] = .ok (nI M):=rfl;have h2:opD .add (nI M) (.int 1) = .ok (nI (M+1)):=add_n M 1;have h3:opD .mod (nI N) (nI (M+1)) = .ok (nI n):=by rw[q6M N (M+1) (Nat.succ_pos M),hN]
  rw[qDB,q0L,q0P,q1m v0 v1 m,q00,q0P,v2,q00,q06,q00,h2,q00,h3,q0A];rfl
 have e2:ex G subC (.setO 4 (.lst [])) [some (.val s),some (.val (nI K)),some (.val (nI M)),some (.val (nI n)),none,none,none,none,none] = .ok (ruE2 K M s n [] none none none none) .nx:=by rw[q4B,q12 (q0R _) (by simp),q0A];rfl
 have e3:ex G subC (.forr 0 [5] (.rng [(.var 3)]) q3S) (ruE2 K M s n [] none none none none) = .ok (ruE2 K M s n vs t o x y) .nx:=by rw[q3I,q21,evs1 (G:=G) (x:=nI n) rfl,q00,q4w n (by lia),q0A,e];rfl
 have e4:ex G subC (.ret (.tup [(.var 3),(.bi .sortedSet [(.bor 4)])])) (ruE2 K M s n vs t o x y) = .ok (ruE2 K M s n vs t o x y) (.ret (rD n ws)):=by have v3:ev G subC (.var 3) (ruE2 K M s n vs t o x y) = .ok (nI n):=rfl;have v4:ev G subC (.bor 4) (ruE2 K M s n vs t o x y) = .ok (.lst (vs.map wD)):=rfl;rw[q1D,q1l (evs2 v3 (by rw[q0U,evs1 v4,q00,es])) (by simp),q0A];rfl
 refine q0T (ρ:=[some (.val s),some (.val (nI K)),some (.val (nI M)),none,none,none,none,none,none]) (ρ':=ruE2 K M s n vs t o x y) rfl (l:=q1H) ?_;show exs G subC [qDB,.setO 4 (.lst []),.forr 0 [5] (.rng [(.var 3)]) q3S,.ret (.tup [(.var 3),(.bi .sortedSet [(.bor 4)])])] _=_;rw[q01 e1,q01 e2,q01 e3];exact q0J e4
theorem qFd (k:Nat) (zs:List Int) (i:Nat):∃N:Nat,Gm (k+2) 11 [.lst (iL zs),nI i] = .ok (nI N):=by obtain⟨c,hc⟩:=qDF (G:=Gm k) zs i;obtain⟨N,h⟩:=qFZ (G:=Gm (k+1)) (.lst (iL zs)) i ⟨c,(q1k k 10 _ 2 2 q1A rfl rfl).trans hc⟩;exact⟨N,(q1k (k+1) 11 _ 2 3 q27 rfl rfl).trans h⟩
theorem qIF (k:Nat) (zs:List Int):Draw (Gm (k+3)) (.lst (iL zs)):=by refine⟨λ i=>qFd (k+1) zs i,λ i o ho=>?_⟩;obtain⟨l,hl,h⟩:=q9j (G:=Gm (k+2)) (.lst (iL zs)) i o ho (qFd k zs i);exact⟨l,hl,(q1k (k+2) 12 _ 3 4 q1O rfl rfl).trans h⟩
theorem qDJ (k K:Nat) {M:Nat}(hM:M<=5) (zs:List Int):∃(n:Nat) (ws:List Wn),n<=M/\Good n ws/\Up ws/\Gm (k+4) 13 [.lst (iL zs),nI K,nI M] = .ok (rD n ws):=by obtain⟨n,ws,h1,hg,hu,h⟩:=q9k (K:=K) hM (qIF k zs);exact⟨n,ws,h1,hg,hu,(q1k (k+3) 13 _ 3 9 q1H rfl rfl).trans h⟩
end Mk
namespace Mk
open Ev
variable {d:D}{ρ:Env}{a:L}
variable {n:Nat}{ws:List Wn}{G:Nat->List D->R D}
theorem qBX (h:pl d=true) (h2:eqb d d=true):cmD .ne d d = .ok (.bl false):=by
 have:cmD .ne d d=if pl d&&pl d then .ok (.bl (!eqb d d)) else .stuck:=rfl
 rw[this,h,h2];rfl
theorem qBY (h:pl d=true) (h2:eqb d d=true):cmD .eq d d = .ok (.bl true):=by
 have:cmD .eq d d=if pl d&&pl d then .ok (.bl (eqb d d)) else .stuck:=rfl
 rw[this,h,h2];rfl
theorem qBZ {l:List D}(h:∀d∈l,eqb d d=true):eqbL l l=true:=by
 induction l with
 |nil=>simp[eqbL]
 |cons a l ih=>rw[eqbL,h a Qb,ih λ d hd=>h d (Qa _ hd)];rfl
theorem pl_r (n:Nat) (ws:List Wn):pl (rD n ws)=true:=by unfold pl rD;simp[wD]
theorem qK0 (w:Wn):eqb (wD w) (wD w)=true:=(q0Z (qDG w) (qDG w)).mpr rfl
theorem qIG (n:Nat) (ws:List Wn):eqb (rD n ws) (rD n ws)=true:=by
 have:eqbL (ws.map wD) (ws.map wD)=true:=qBZ λ d hd=>by obtain⟨a,_,rfl⟩:=Qm.mp hd;exact qK0 a
 simp[rD,eqb,eqbL,this]
theorem qDK {f:Nat}{b c:L}{x y z:D}(h1:ev G subC a ρ = .ok x) (h2:ev G subC b ρ = .ok y) (h3:ev G subC c ρ = .ok z) (h:G f [x,y,z] = .ok d):ev G subC (.call f [a,b,c]) ρ = .ok d:=by rw[q0B,q0E,h1,q00,evs2 h2 h3,q00,q00,h]
theorem q0i {o:Cm}{b:L}{x y:D}{r:R D}(h1:ev G subC a ρ = .ok x) (h2:ev G subC b ρ = .ok y) (h:cmD o x y=r):ev G subC (.cm o a b) ρ=r:=by rw[q9S,h1,q00,h2,q00,h]
theorem q0d {b:Bool}(h:ev G subC a ρ = .ok (.bl b)):tst G subC (.e a) ρ = .ok b:=by rw[q9T,h,q00,qC8]
theorem qIH {a b:T}(h1:tst G subC a ρ = .ok false) (h2:tst G subC b ρ = .ok false):tst G subC (.or a b) ρ = .ok false:=by rw[q2l,h1,q00,if_neg (by simp),h2]
theorem q5v {c:T}{l:List S}(h:tst G subC c ρ = .ok false):ex G subC (.ifs c l []) ρ = .ok ρ .nx:=by rw[q1v,h,q0A,if_neg (by simp),q1Q]
theorem qBa (ρ:Env):ev G subC (.neg (.con (.int 1))) ρ = .ok (.int (-1)):=rfl
theorem qII (x:PySem.Str):eqb (.str x) (.str x)=true:=by simp[eqb]
end Mk
namespace Mk
open Ev
variable {w:List Nat}{k:Nat}
noncomputable def tx (l:List Nat):D:= .str (mkS l)
theorem qFe {a b:List Nat}:mkS a=mkS b↔a=b:=by unfold mkS;rw[PySem.Str.mk.injEq];exact⟨λ h=>by simpa using congrArg Array.toList h,λ h=>h▸rfl⟩
theorem qK1 (l:List Nat):(mkS l).cps.toList=l:=rfl
theorem q1J (l:List Nat):(mkS l).length=l.length:=by show l.toArray.size=_;rw[Ql]
theorem q3h (x:PySem.Str):x=mkS x.cps.toList:=by obtain⟨a⟩:=x;rfl
theorem q2b (a b:List Nat):mkS a++mkS b=mkS (a++b):=by show PySem.Str.mk (a.toArray++b.toArray)=PySem.Str.mk (a++b).toArray;rw[List.append_toArray]
theorem q7B (a b:List Nat):eqb (tx a) (tx b)=decide (a=b):=by unfold tx;rw[eqb];rw[QP,decide_eq_true_eq,decide_eq_true_eq,qFe]
theorem q7y (a:List Nat):pl (tx a)=true:=rfl
theorem qK2 (a b:List Nat):cmD .eq (tx a) (tx b) = .ok (.bl (decide (a=b))):=by unfold cmD;dsimp only;rw[q7y,q7y,q7B];rfl
theorem q9l (a b:List Nat):cmD .ne (tx a) (tx b) = .ok (.bl (!decide (a=b))):=by unfold cmD;dsimp only;rw[q7y,q7y,q7B];rfl
theorem q7C (a b:List Nat) (h:a.length+b.length<=1000000):opD .add (tx a) (tx b) = .ok (tx (a++b)):=by unfold opD tx;dsimp only[addD,strD];rw[if_pos (show (mkS a).length+(mkS b).length<=big by rw[q1J,q1J,q14];exact h),q2b]
noncomputable def dg (k:Nat):List Nat:=(PySem.Str.ofString (toString (k:Int))).cps.toList
theorem qE2 (k:Nat):PySem.Str.ofString (toString (k:Int))=mkS (dg k):=q3h _
theorem q4g (k:Nat) (h:k<1000):biD subC .strI [nI k] = .ok (tx (dg k)):=by show ((Ev.strI (k:Int)).bind λ x=>R.ok (D.str x))=_;unfold Ev.strI;rw[if_pos (by lia),q00,qE2];rfl
noncomputable def num2 (w:List Nat):Option Nat:=match w with
 |[a]=>if q0f a=true/\dg (a-48)=[a] then some (a-48) else none
 |[a,b]=>if (q0f a&&q0f b)=true/\dg (10*(a-48)+(b-48))=[a,b] then some (10*(a-48)+(b-48)) else none
 |_=>none
theorem q7z:∀k,k<100->num2 (dg k)=some k:=by decide +kernel
theorem qFf (h:num2 w=some k):k<100/\w=dg k:=by
 unfold num2 at h;split at h
 ·rename_i a;split at h
  ·rename_i c;cases h;obtain⟨c1,c2⟩:=c;unfold q0f at c1;rw[Qg,decide_eq_true_eq,decide_eq_true_eq] at c1;exact⟨by lia,c2.symm⟩
  ·cases h
 ·rename_i a b;split at h
  ·rename_i c;cases h;obtain⟨c1,c2⟩:=c;unfold q0f at c1;rw[Qg,Qg,Qg,decide_eq_true_eq,decide_eq_true_eq,decide_eq_true_eq,decide_eq_true_eq] at c1;exact⟨by lia,c2.symm⟩
  ·cases h
 ·cases h
theorem q42:num2 w=some k↔k<100/\w=dg k:=⟨qFf,λ h=>by rw[h.2];exact q7z k h.1⟩
noncomputable def num1 (w:List Nat):Option Nat:=(num2 w).bind λ k=>if k<=10 then some k else none
theorem q19:num1 w=some k↔k<=10/\w=dg k:=by
 unfold num1;constructor
 ·intro h;obtain⟨j,h1,h2⟩:=Option.bind_eq_some_iff.mp h;split at h2
  ·cases h2;exact⟨by assumption,(q42.mp h1).2⟩
  ·cases h2
 ·rintro⟨h1,h2⟩;rw[q42.mpr ⟨by lia,h2⟩];show (if k<=10 then some k else none)=_;rw[if_pos h1]
theorem qE3:∀k,k<100->∀c∈dg k,48<=c/\c<=57:=by decide +kernel
theorem q37:∀k,k<100->(dg k).length<=2:=by decide +kernel
variable {G:Nat->List D->R D}
theorem q28 (c:Nat):∀l:List Nat,q03 c l≠[]
 |[]=>nofun
 |x::l=>by
  unfold q03;split
  ·nofun
  ·cases h:q03 c l with
   |nil=>exact absurd h (q28 c l)
   |cons y r=>nofun
noncomputable def q2K (c:Nat):List (List Nat)->List Nat
 |[]=>[]
 |[x]=>x
 |x::y::r=>x++c::q2K c (y::r)
theorem q80 (c:Nat) (l:List Nat):q03 c (c::l)=[]::q03 c l:=by rw[q03,if_pos rfl]
theorem q3k {c a:Nat}(h:a≠c) (l:List Nat):q03 c (a::l)=(q03 c l).modifyHead (a::·):=by rw[q03,if_neg h]
theorem q38 (c:Nat):∀(x l:List Nat),c∉x->q03 c (x++c::l)=x::q03 c l
 |[],l,_=>q80 c l
 |a::x,l,h=>by rw[List.cons_append,q3k (λ e=>h (by rw[e];exact Qb)),q38 c x l λ z=>h (Qa _ z)];rfl
theorem q3U (c:Nat):∀(x:List Nat),c∉x->q03 c x=[x]
 |[],_=>rfl
 |a::x,h=>by rw[q3k (λ e=>h (by rw[e];exact Qb)),q3U c x λ z=>h (Qa _ z)];rfl
theorem q3V (c:Nat):∀(r:List (List Nat)),r≠[]->(∀x∈r,c∉x)->q03 c (q2K c r)=r
 |[],h,_=>absurd rfl h
 |[x],_,h=>q3U c x (h x Qb)
 |x::y::r,_,h=>by show q03 c (x++c::q2K c (y::r))=_;rw[q38 c x _ (h x Qb),q3V c (y::r) nofun λ z hz=>h z (Qa _ hz)]
theorem join_split (c:Nat):∀l:List Nat,q2K c (q03 c l)=l
 |[]=>rfl
 |x::l=>by
  have ih:=join_split c l;unfold q03;split
  ·rename_i e;cases h:q03 c l with
   |nil=>exact absurd h (q28 c l)
   |cons y r =>
    rw[h] at ih;show []++c::q2K c (y::r)=_;rw[ih,e];rfl
  ·cases h:q03 c l with
   |nil=>exact absurd h (q28 c l)
   |cons y r =>
    rw[h] at ih;rw[<-ih];cases r with
    |nil=>rfl
    |cons z r=>rfl
theorem qDL (c:Nat) (l:List Nat) (h:l.length<=100000) (hc:c<256):biD subC .split [tx l,.str (mkS [c])] = .ok (.lst ((q03 c l).map tx)):=by show q8D (mkS l) (mkS [c])=_;unfold q8D oneS;rw[show one? (mkS [c])=some c from rfl];dsimp only;rw[if_pos ⟨by rw[q1J];exact h,hc⟩];rfl
theorem q81:∀l:List (List Nat),strs? (l.map tx)=some (l.map mkS)
 |[]=>rfl
 |x::l=>by show (strs? (l.map tx)).map (mkS x::·)=_;rw[q81 l];rfl
theorem qFg (c:Nat) (l:List (List Nat)) (h:l.length<=1000) (h2:∀x∈l,x.length<=900):biD subC .join [.str (mkS [c]),.lst (l.map tx)] = .ok (tx (q2K c l)):=by
 show q4n (mkS [c]) (l.map tx)=_;unfold q4n;rw[q81];dsimp only;rw[if_pos ⟨by rw[Qe];exact h,by rw[q1J];simp,Qs.mpr λ z hz=>by obtain⟨x,hx,rfl⟩:=Qm.mp hz;exact decide_eq_true (by rw[q1J];exact h2 x hx)⟩];congr 1;unfold tx;congr 1;have:∀l:List (List Nat),PySem.Str.join (mkS [c]) (l.map mkS)=mkS (q2K c l):=by
  intro l
  induction l with
  |nil=>rfl
  |cons x r ih =>
   cases r with
   |nil=>rfl
   |cons y r =>
    show mkS x++mkS [c]++PySem.Str.join (mkS [c]) (mkS y::r.map mkS)=_;have ih:PySem.Str.join (mkS [c]) (mkS y::r.map mkS)=mkS (q2K c (y::r)):=ih;rw[ih,q2b,q2b];show mkS (x++[c]++q2K c (y::r))=mkS (x++c::q2K c (y::r));rw[QN];rfl
 exact this l
theorem qDM (l:List (List Nat)) (h:l.length<=1000) (h2:∀x∈l,x.length<=900):biD subC .join [.str (mkS []),.lst (l.map tx)] = .ok (tx l.flatten):=by
 show q4n (mkS []) (l.map tx)=_;unfold q4n;rw[q81];dsimp only;rw[if_pos ⟨by rw[Qe];exact h,by rw[q1J];simp,Qs.mpr λ z hz=>by obtain⟨x,hx,rfl⟩:=Qm.mp hz;exact decide_eq_true (by rw[q1J];exact h2 x hx)⟩];congr 1;unfold tx;congr 1;have:∀l:List (List Nat),PySem.Str.join (mkS []) (l.map mkS)=mkS l.flatten:=by
  intro l
  induction l with
  |nil=>rfl
  |cons x r ih =>
   cases r with
   |nil =>
    show mkS x=mkS (x++[]);rw[QB]
   |cons y r =>
    show mkS x++mkS []++PySem.Str.join (mkS []) (mkS y::r.map mkS)=_;have ih:PySem.Str.join (mkS []) (mkS y::r.map mkS)=mkS (y::r).flatten:=ih;rw[ih,q2b,q2b,QB];rfl
 exact this l
theorem q9m (l:List Nat) (lo hi:Option Int) (h:l.length<=1000000):slD 0 lo hi (tx l) = .ok (tx (cutL l lo hi)):=by show (if 0=0/\(mkS l).length<=big then R.ok (D.str (mkS (cutL l lo hi))) else .stuck)=_;rw[if_pos ⟨rfl,by rw[q1J,q14];exact h⟩];rfl
theorem qIJ (a b:List Nat) (k:Nat) (hk:k<1000) (ha:a.length<=1000) (hb:b.length<=1000):biD subC .fmt [.str (mkS a),nI k,.str (mkS b)] = .ok (tx (a++dg k++b)):=by show fmtD (mkS a) (k:Int) (mkS b)=_;unfold fmtD Ev.strI;rw[if_pos ⟨by rw[q1J];exact ha,by rw[q1J];exact hb⟩,if_pos (by lia),q00,qE2,q2b,q2b];rfl
end Mk
namespace Mk
open Ev
variable {row:List Nat}
theorem s_sp:D.str (PySem.Str.ofString " ")=tx [32]:=rfl
theorem s_nl:D.str (PySem.Str.ofString "\n")=tx [10]:=rfl
theorem s_co:D.str (PySem.Str.ofString ":")=tx [58]:=rfl
theorem s_e:D.str (PySem.Str.ofString "")=tx []:=rfl
noncomputable def thg:List Nat:=[116,104,105,110,103,115]
theorem s_thg:D.str (PySem.Str.ofString "things")=tx thg:=rfl
theorem qK3:D.str (PySem.Str.ofString "things ")=tx (thg++[32]):=rfl
noncomputable def oR {β α:Type}(g:β->α) (c:Nat):Option β->R α
 |some b=> .ok (g b)
 |none=> .err c
theorem q5w {α β:Type}{o:α->Option β}:∀{xs:List α}{l:List β},mapO o xs=some l->l.length=xs.length
 |[],l,h=>by cases h;rfl
 |x::xs,l,h=>by obtain⟨b,_,h2⟩:=oB h;obtain⟨m,h3,h4⟩:=oM h2;rw[<-h4,Qd,Qd,q5w h3]
theorem q4h {α β:Type}{o p:α->Option β}(h:∀a b,o a=some b->p a=some b):∀{xs:List α}{l:List β},mapO o xs=some l->mapO p xs=some l
 |[],l,e=>e
 |x::xs,l,e=>by obtain⟨b,h1,h2⟩:=oB e;obtain⟨m,h3,h4⟩:=oM h2;rw[mapO,h x b h1,Q7,q4h h h3,QT,h4]
theorem q4i {α β:Type}{o p:α->Option β}{Q:β->Prop}(h:∀a b,p a=some b->Q b->o a=some b):∀{xs:List α}{l:List β},mapO p xs=some l->(∀b∈l,Q b)->mapO o xs=some l
 |[],l,e,_=>e
 |x::xs,l,e,q=>by obtain⟨b,h1,h2⟩:=oB e;obtain⟨m,h3,h4⟩:=oM h2;subst h4;rw[mapO,h x b h1 (q b Qb),Q7,q4i h h3 λ b hb=>q b (Qa _ hb),QT]
theorem q5x {α β:Type}{o:α->Option β}{g:β->α}:∀{l:List β},(∀b∈l,o (g b)=some b)->mapO o (l.map g)=some l
 |[],_=>rfl
 |b::l,h=>by rw[Qz,mapO,h b Qb,Q7,q5x λ b hb=>h b (Qa _ hb),QT]
variable {G:Nat->List D->R D}
theorem q5L {α β:Type}{elt:Env->R D}{ρ:Env}{f:α->D}{g:β->D}{o:α->Option β}{c:Nat}:∀{xs:List α},
  (∀x∈xs,elt (some (.val (f x))::ρ)=oR g c (o x))->q0H elt (tsts G subC []) 0 ρ (xs.map f)=oR (List.map g) c (mapO o xs)
 |[],_=>rfl
 |x::xs,h=>by
  have h1:=h x Qb;have ih:=q5L (elt:=elt) (ρ:=ρ) (f:=f) (g:=g) (o:=o) (c:=c) (xs:=xs) λ e he=>h e (Qa _ he);rw[Qz,q0H,unp0,q00,q5Y,q00,if_pos rfl,ih,q6N,q8I,List.cons_append,List.nil_append,h1,mapO];cases o x with
  |none=>rfl
  |some b =>
   cases mapO o xs with
   |none=>rfl
   |some l=>rfl
theorem q4j {α β:Type}{x:L}{it:I}{ρ:Env}{f:α->D}{g:β->D}{o:α->Option β}{c:Nat}{xs:List α}(h1:evi G subC it ρ = .ok (xs.map f))
  (h2:∀a∈xs,ev G subC x (some (.val (f a))::ρ)=oR g c (o a)) (hl:xs.length<=1000000):ev G subC (.comp 0 x it []) ρ=oR (λ l=> .lst (l.map g)) c (mapO o xs):=by
 rw[q20,h1,q00,q5L h2];cases q:mapO o xs with
 |none=>rfl
 |some l =>
  have:=q5w q;show (if (l.map g).length<=big then R.ok (D.lst (l.map g)) else .stuck)=_;rw[if_pos (by rw[Qe,q14];lia)];rfl
noncomputable def known:List D:=(Jm 0 11).map λ i=>tx (dg i)
theorem qBb (w:List Nat):(known.any λ y=>eqb y (tx w))=(num1 w).isSome:=by
 rw[QP,List.any_eq_true,Ji];unfold known;constructor
 ·rintro⟨y,hy,e⟩;obtain⟨i,hi,rfl⟩:=Qm.mp hy;rw[q7B,decide_eq_true_eq] at e;exact⟨i,q19.mpr ⟨by have:=List.mem_range'_1.mp hi;lia,e.symm⟩⟩
 ·rintro⟨i,hi⟩;obtain⟨h1,h2⟩:=q19.mp hi;refine⟨tx (dg i),Qm.mpr ⟨i,List.mem_range'_1.mpr (by lia),rfl⟩,?_⟩;rw[q7B,h2,decide_eq_true_eq]
theorem qIK {i j:Nat}(hi:i<100) (hj:j<100) (h:dg i=dg j):i=j:=by have h1:=q7z i hi;rw[h,q7z j hj] at h1;exact (QJ.inj h1).symm
theorem q7D (k:Nat):∀(m s:Nat),s<=k->k<s+m->s+m<=11->idxOf (tx (dg k)) ((Jm s m).map λ i=>tx (dg i)) s = .ok (nI k)
 |0,s,h1,h2,_=>by lia
 |m+1,s,h1,h2,h3=>by
  rw[List.range'_succ,Qz,idxOf,q7B]
  by_cases e:s=k
  ·subst e;rw[if_pos (by simp)];rfl
  ·rw[if_neg (λ h=>e (qIK (by lia) (by lia) (of_decide_eq_true h)))];exact q7D k m (s+1) (by lia) (by lia) (by lia)
theorem q9C:plL known=true:=q1R.mpr λ d hd=>by obtain⟨i,_,rfl⟩:=Qm.mp hd;exact q7y _
theorem q5y (k:Nat) (w:List Nat):Gm (k+1) 9 [tx w]=oR nI 5 (num1 w):=by
 rw[q1k k 9 _ 1 2 q0s rfl rfl];have e1:ex (Gm k) subC (.set 1 (.comp 0 (.bi .strI [(.var 0)]) (.rng [(.op .add (.con (.int 10)) (.con (.int 1)))]) [])) [some (.val (tx w)),none] = .ok [some (.val (tx w)),some (.val (.lst known))] .nx:=by
  have h1:evi (Gm k) subC (.rng [(.op .add (.con (.int 10)) (.con (.int 1)))]) [some (.val (tx w)),none] = .ok ((Jm 0 11).map nI):=by have:rngD [nI 11] = .ok (nL (Qp 11)):=q4w 11 (by lia);rw[q96,List.range_eq_range'] at this;exact this
  have a2:q0H (ev (Gm k) subC (.bi .strI [(.var 0)])) (tsts (Gm k) subC []) 0 [some (.val (tx w)),none] ((Jm 0 11).map nI) = .ok (((Jm 0 11).filter λ _=>true).map λ i=>tx (dg i)) :=
   q1f (us:=λ a=>[nI a]) λ a ha=>⟨rfl,rfl,λ _=>by have:=List.mem_range'_1.mp ha;rw[q0U,evs1 (G:=Gm k) (x:=nI a) rfl,q00,q4g a (by lia)]⟩
  rw[filter_tt] at a2;rw[q0L,q20,h1,q00,a2,q2E,q00,if_pos (by rw[Qe,List.length_range',q14];lia),q0A];rfl
 have v0:ev (Gm k) subC (.var 0) [some (.val (tx w)),some (.val (.lst known))] = .ok (tx w):=rfl;have v1:ev (Gm k) subC (.var 1) [some (.val (tx w)),some (.val (.lst known))] = .ok (.lst known):=rfl;have e2:tst (Gm k) subC (.e (.cm .nmem (.var 0) (.var 1))) [some (.val (tx w)),some (.val (.lst known))] = .ok (!(num1 w).isSome):=by refine q0d (q0i v0 v1 ?_);show ((if pl (tx w)&&plL known then R.ok (known.any λ y=>eqb y (tx w)) else .stuck).bind λ r=>R.ok (D.bl (!r)))=_;rw[q7y,q9C,qBb];rfl
 cases q:num1 w with
 |none =>
  rw[q] at e2;refine q1T (ρ:=[some (.val (tx w)),none]) (ρ':=[some (.val (tx w)),some (.val (.lst known))]) rfl (l:=q0s) ?_;show exs (Gm k) subC [_,_,_] _=_;rw[q01 e1];refine q1S ?_;rw[q1v,e2,q0A];rfl
 |some j =>
  rw[q] at e2;obtain⟨hj,rfl⟩:=q19.mp q;refine q0T (ρ:=[some (.val (tx (dg j))),none]) (ρ':=[some (.val (tx (dg j))),some (.val (.lst known))]) rfl (l:=q0s) ?_;show exs (Gm k) subC [_,_,_] _=_;rw[q01 e1,q01 (q5v e2)];refine q0J ?_;rw[q1D,q0U,evs2 v1 v0,q00,qC9,q7y,q9C,Bool.and_self,if_pos rfl];have:=q7D j 11 0 (by lia) (by lia) (by lia);unfold known;rw[this,q0A]
noncomputable def countP (f:List Nat->Option Nat) (row:List Nat):Option Nat:=if row.take 7=thg++[32] then f (row.drop 7) else none
theorem q9D (h:row.take 7=thg++[32]):row=thg++32::row.drop 7:=by have:=Q6 7 row;rw[h,QN] at this;exact this.symm
theorem qE4:32∉thg:=by decide
theorem qBc {a b:List Nat}(h:q03 32 row=[a,b]):countP num1 row=if a=thg then num1 b else none:=by
 have h1:=join_split 32 row;rw[h] at h1;have h1:a++32::b=row:=h1;unfold countP
 by_cases e:a=thg
 ·subst e;rw[if_pos rfl,<-h1];rfl
 ·rw[if_neg e]
  by_cases t:row.take 7=thg++[32]
  ·have:=q38 32 thg (row.drop 7) qE4;rw[<-q9D t,h] at this;exact absurd (List.cons.inj this).1 e
  ·rw[if_neg t]
theorem qFh {w:List Nat}(h:32∈w):num1 w=none:=by
 cases q:num1 w with
 |none=>rfl
 |some k =>
  obtain⟨h1,rfl⟩:=q19.mp q;have:=qE3 k (by lia) 32 h;lia
theorem qBd (h:(q03 32 row).length≠2):countP num1 row=none:=by
 unfold countP
 by_cases t:row.take 7=thg++[32]
 ·rw[if_pos t];refine qFh (QH λ m=>h ?_);have:=q38 32 thg (row.drop 7) qE4;rw[<-q9D t,q3U 32 _ m] at this;rw[this];rfl
 ·rw[if_neg t]
theorem split_len (c:Nat):∀l:List Nat,(q03 c l).length<=l.length+1
 |[]=>Qf _
 |x::l=>by
  have:=split_len c l;rw[q03];split
  ·rw[Qd,Qd];lia
  ·rw[List.length_modifyHead,Qd];lia
theorem q1B (c:Nat):∀(l:List Nat),∀y∈q03 c l,y.length<=l.length
 |[],y,h=>by rw[Qu.mp h];simp
 |x::l,y,h=>by
  have ih:=q1B c l;rw[q03] at h;split at h
  ·rcases Qh.mp h with rfl|h
   ·simp
   ·have:=ih y h;simp;lia
  ·cases q:q03 c l with
   |nil=>exact absurd q (q28 c l)
   |cons z r =>
    rw[q] at h ih;rcases Qh.mp h with rfl|h
    ·have:=ih z Qb;simp;lia
    ·have:=ih y (Qa _ h);simp;lia
theorem q4p (a:D) (l:List D):idxD (.lst (a::l)) (.int 0) = .ok a:=nth0 a l
theorem qK4 (a b:D) (l:List D):idxD (.lst (a::b::l)) (.int 1) = .ok b:=nth1 a b l
theorem ne_n (a b:Nat):cmD .ne (nI a) (nI b) = .ok (.bl (!decide (a=b))):=by have:cmD .ne (nI a) (nI b) = .ok (.bl (!eqb (nI a) (nI b))):=rfl;rw[this];congr 2;rw[nI,nI,qDC];congr 1;exact decide_eq_decide.mpr (by lia)
theorem q39 {ρ:Env}{i j:Nat}{c:Nat}{x:List Nat}{e:D}(he:e=tx [c]) (hv:ev G subC (.var i) ρ = .ok (tx x)) (h:x.length<=100000) (hc:c<256):ex G subC (.set j (.bi .split [(.var i),(.con e)])) ρ = .ok (ρ.set j (some (.val (.lst ((q03 c x).map tx))))) .nx:=by subst he;rw[q0L,q0U,evs2 hv (q06 _ _),q00];have:=qDL c x h hc;unfold tx at this |-;rw[this,q0A]
theorem qFi (k:Nat) (row:List Nat) (h:row.length<=100000):Gm (k+2) 7 [tx row]=oR nI 5 (countP num1 row):=by
 rw[q1k (k+1) 7 _ 1 2 q0b rfl rfl];have e1:ex (Gm (k+1)) subC (.set 1 (.bi .split [(.var 0),(.con (.str (PySem.Str.ofString " ")))])) [some (.val (tx row)),none] = .ok [some (.val (tx row)),some (.val (.lst ((q03 32 row).map tx)))] .nx :=
  q39 (x:=row) s_sp rfl h (by lia)
 have v1:ev (Gm (k+1)) subC (.var 1) [some (.val (tx row)),some (.val (.lst ((q03 32 row).map tx)))] = .ok (.lst ((q03 32 row).map tx)):=rfl;have t1:tst (Gm (k+1)) subC (.e (.cm .ne (.bi .len [(.var 1)]) (.con (.int 2)))) [some (.val (tx row)),some (.val (.lst ((q03 32 row).map tx)))] = .ok (!decide ((q03 32 row).length=2)):=by refine q0d (q0i (x:=nI (q03 32 row).length) (y:=nI 2) ?_ rfl (ne_n _ _));rw[q0U,evs1 v1,q00,q3J,Qe]
 by_cases hl:(q03 32 row).length=2
 ·obtain⟨a,b,hs⟩:∃a b,q03 32 row=[a,b]:=by
   revert hl;cases q03 32 row with
   |nil=>nofun
   |cons a l=>cases l with
    |nil=>nofun
    |cons b l=>cases l with
     |nil=>exact λ _=>⟨a,b,rfl⟩
     |cons _ _=>exact λ h=>by simp at h
  rw[hs] at e1 t1;have t2:tst (Gm (k+1)) subC (.e (.cm .ne (.idx (.var 1) (.con (.int 0))) (.con (.str (PySem.Str.ofString "things"))))) [some (.val (tx row)),some (.val (.lst ([a,b].map tx)))] = .ok (!decide (a=thg)) :=
   q0d (q0i (x:=tx a) (y:=tx thg) (q4p (tx a) [tx b]) rfl (q9l _ _))
  rw[qBc hs]
  by_cases e:a=thg
  ·rw[if_pos e];have r1:ex (Gm (k+1)) subC (.ret (.call 9 [(.idx (.var 1) (.con (.int 1)))])) [some (.val (tx row)),some (.val (.lst ([a,b].map tx)))]=(oR nI 5 (num1 b)).go [some (.val (tx row)),some (.val (.lst ([a,b].map tx)))] λ d=> .ok [some (.val (tx row)),some (.val (.lst ([a,b].map tx)))] (.ret d):=by have w1:ev (Gm (k+1)) subC (.idx (.var 1) (.con (.int 1))) [some (.val (tx row)),some (.val (.lst ([a,b].map tx)))] = .ok (tx b):=qK4 (tx a) (tx b) [];rw[q1D,q0B,evs1 w1,q00,q5y]
   have i1:=q5v (l:=[.raise 5]) (qIH t1 (by rw[t2,decide_eq_true e];rfl));cases q:num1 b with
   |none =>
    rw[q] at r1;refine q1T (ρ:=[some (.val (tx row)),none]) (ρ':=[some (.val (tx row)),some (.val (.lst ([a,b].map tx)))]) rfl (l:=q0b) ?_;show exs (Gm (k+1)) subC [_,_,_] _=_;rw[q01 e1,q01 i1];exact q1S r1
   |some j =>
    rw[q] at r1;refine q0T (ρ:=[some (.val (tx row)),none]) (ρ':=[some (.val (tx row)),some (.val (.lst ([a,b].map tx)))]) rfl (l:=q0b) ?_;show exs (Gm (k+1)) subC [_,_,_] _=_;rw[q01 e1,q01 i1];exact q0J r1
  ·rw[if_neg e];refine q1T (ρ:=[some (.val (tx row)),none]) (ρ':=[some (.val (tx row)),some (.val (.lst ([a,b].map tx)))]) rfl (l:=q0b) ?_;show exs (Gm (k+1)) subC [_,_,_] _=_;rw[q01 e1];refine q1S ?_;rw[q1v,q2l,t1,q00,if_neg (by simp),t2,decide_eq_false e,q0A];rfl
 ·rw[qBd hl];refine q1T (ρ:=[some (.val (tx row)),none]) (ρ':=[some (.val (tx row)),some (.val (.lst ((q03 32 row).map tx)))]) rfl (l:=q0b) ?_;show exs (Gm (k+1)) subC [_,_,_] _=_;rw[q01 e1];refine q1S ?_;rw[q1v,q2l,t1,decide_eq_false hl,q00];rfl
end Mk
namespace Mk
open Ev
variable {α:Type}{ρ:Env}{n:Nat}{ws:List Wn}{x:List Nat}
variable {G:Nat->List D->R D}
theorem cut1 (x:α) (l:List α):cutL (x::l) (some 1) none=l:=by simp[cutL,bnd]
theorem qE5 (l:List α) (a:Nat):cutL l none (some (a:Int))=l.take a:=by
 unfold cutL bnd;dsimp only;rw[if_neg (by lia),List.drop_zero,Nat.sub_zero,Int.toNat_natCast]
 by_cases h:a<=l.length
 ·rw[Nat.min_eq_left h]
 ·rw[Nat.min_eq_right (by lia),List.take_length,QV (by lia)]
theorem qE6 (l:List α) (a:Nat):cutL l (some (a:Int)) none=l.drop a:=by
 unfold cutL bnd;dsimp only;rw[if_neg (by lia),Int.toNat_natCast]
 by_cases h:a<=l.length
 ·rw[Nat.min_eq_left h,QV (by rw[QZ];lia)]
 ·rw[Nat.min_eq_right (by lia),List.drop_length,List.drop_of_length_le (by lia),List.take_nil]
theorem qDN (l:List α):cutL l none (some (-1))=l.dropLast:=by unfold cutL bnd;dsimp only;rw[if_pos (by lia),List.drop_zero,List.dropLast_eq_take];congr 1;lia
theorem qDO (l:List α):cutL l (some (-1)) none=l.drop (l.length-1):=by
 unfold cutL bnd;dsimp only;rw[if_pos (by lia)];have:((-1:Int)+(l.length:Int)).toNat=l.length-1:=by lia
 rw[this,QV (by rw[QZ];lia)]
theorem q9E {l:List Nat}{c:Nat}:l.drop (l.length-1)=[c]↔l.getLast? = some c:=by
 rcases List.eq_nil_or_concat l with rfl|⟨r,x,rfl⟩
 ·simp
 ·rw[List.concat_eq_append,List.getLast?_concat];simp
noncomputable def wayP (f:List Nat->Option Nat) (row:List Nat):Option Wn:=match q03 32 row with
 |[]=>none
 |w::r=>if w.getLast? = some 58 then (f w.dropLast).bind λ t=>(mapO f r).map λ l=>(t,l) else none
theorem qDP (w:List Nat) (c:Nat):biD subC .endsw [tx w,tx [c]] = .ok (.bl (decide (w.getLast? = some c))):=by show endD (mkS w) (mkS [c])=_;unfold endD oneS;rw[show one? (mkS [c])=some c from rfl];rfl
theorem q1g (c:Nat) (l:List Nat):∃w r,q03 c l=w::r:=by
 cases h:q03 c l with
 |nil=>exact absurd h (q28 c l)
 |cons w r=>exact⟨w,r,rfl⟩
theorem q5z {i:Nat}{a:D}{l:List D}(hv:ev G subC (.var i) ρ = .ok (.lst (a::l))):ev G subC (.sl 0 (.var i) [(.con (.int 1))] []) ρ = .ok (.lst l):=by rw[q4o,hv,q00,evs1 (x:= .int 1) (q06 _ _),q00,q0R,q00];show R.ok (D.lst (cutL (a::l) (some 1) none))=_;rw[cut1]
theorem qBe {a:L}{w:List Nat}(hw:w.length<=100000) (hv:ev G subC a ρ = .ok (tx w)):ev G subC (.sl 0 a [] [(.neg (.con (.int 1)))]) ρ = .ok (tx w.dropLast):=by rw[q4o,hv,q00,q0R,q00,evs1 (x:= .int (-1)) (qBa _),q00];show slD 0 none (some (-1)) (tx w)=_;rw[q9m _ _ _ (by lia),qDN]
theorem qIL (k:Nat) (row:List Nat) (h:row.length<=100000):Gm (k+2) 8 [tx row]=oR wD 5 (wayP num1 row):=by
 rw[q1k (k+1) 8 _ 1 3 q0y rfl rfl];obtain⟨w,r,hs⟩:=q1g 32 row;have hw:w.length<=100000:=Qt (q1B 32 row w (by rw[hs];exact Qb)) h;have hr:r.length<=1000000:=by have:=split_len 32 row;rw[hs,Qd] at this;lia
 have e1:ex (Gm (k+1)) subC (.set 1 (.bi .split [(.var 0),(.con (.str (PySem.Str.ofString " ")))])) [some (.val (tx row)),none,none] = .ok [some (.val (tx row)),some (.val (.lst (tx w::r.map tx))),none] .nx:=by have:=q39 (G:=Gm (k+1)) (ρ:=[some (.val (tx row)),none,none]) (i:=0) (j:=1) (x:=row) s_sp rfl h (by lia);rw[hs] at this;exact this
 generalize hρ:[some (Sl.val (tx row)),some (.val (.lst (tx w::r.map tx))),none]=ρ at e1;have v1:ev (Gm (k+1)) subC (.var 1) ρ = .ok (.lst (tx w::r.map tx)):=by rw[<-hρ];rfl
 have w0:ev (Gm (k+1)) subC (.idx (.var 1) (.con (.int 0))) ρ = .ok (tx w):=by rw[q1u,v1,q00,q06,q00,q4p]
 have t1:tst (Gm (k+1)) subC (.not (.e (.bi .endsw [(.idx (.var 1) (.con (.int 0))),(.con (.str (PySem.Str.ofString ":")))]))) ρ = .ok (!decide (w.getLast? = some 58)):=by rw[q5X,q0d (b:=decide (w.getLast? = some 58)) (by rw[q0U,evs2 w0 (y:=tx [58]) rfl,q00,qDP]),q00]
 unfold wayP;rw[hs];dsimp only
 by_cases hc:w.getLast? = some 58
 ·rw[if_pos hc];rw[decide_eq_true hc] at t1;have c1:ev (Gm (k+1)) subC (.comp 0 (.call 9 [(.var 0)]) (.e (.sl 0 (.var 1) [(.con (.int 1))] [])) []) ρ=oR (λ l=> .lst (l.map nI)) 5 (mapO num1 r) :=
   q4j (f:=tx) (by rw[q5V,q5z v1,q00];rfl) (λ a _=>by rw[q0B,evs1 (G:=Gm (k+1)) (x:=tx a) rfl,q00,q5y]) hr
  have i1:=q5v (l:=[.raise 5]) t1;cases q:mapO num1 r with
  |none =>
   rw[q] at c1;have:((num1 w.dropLast).bind λ t=>(none:Option (List Nat)).map λ l=>(t,l))=none:=(by cases num1 w.dropLast<;>rfl);rw[this];refine q1T (ρ:=[some (.val (tx row)),none,none]) (ρ':=ρ) rfl (l:=q0y) ?_;show exs (Gm (k+1)) subC [_,_,_,_] _=_;rw[q01 e1,q01 i1];refine q1S ?_;rw[q0L,q0U,q0E,c1];rfl
  |some l =>
   rw[q] at c1;have e3:ex (Gm (k+1)) subC (.set 2 (.bi .tuple [(.comp 0 (.call 9 [(.var 0)]) (.e (.sl 0 (.var 1) [(.con (.int 1))] [])) [])])) ρ = .ok (ρ.set 2 (some (.val (.tup (nL l))))) .nx:=by rw[q0L,q0U,evs1 c1,q00];rfl
   have w0':ev (Gm (k+1)) subC (.idx (.var 1) (.con (.int 0))) (ρ.set 2 (some (.val (.tup (nL l))))) = .ok (tx w):=(by rw[<-hρ];exact q4p (tx w) (r.map tx));have v2:ev (Gm (k+1)) subC (.var 2) (ρ.set 2 (some (.val (.tup (nL l))))) = .ok (.tup (nL l)):=(by rw[<-hρ];rfl);have c2:ev (Gm (k+1)) subC (.call 9 [(.sl 0 (.idx (.var 1) (.con (.int 0))) [] [(.neg (.con (.int 1)))])]) (ρ.set 2 (some (.val (.tup (nL l)))))=oR nI 5 (num1 w.dropLast):=by rw[q0B,evs1 (qBe hw w0'),q00,q5y]
   cases p:num1 w.dropLast with
   |none =>
    rw[p] at c2;refine q1T (ρ:=[some (.val (tx row)),none,none]) (ρ':=ρ.set 2 (some (.val (.tup (nL l))))) rfl (l:=q0y) ?_;show exs (Gm (k+1)) subC [_,_,_,_] _=_;rw[q01 e1,q01 i1,q01 e3];refine q1S ?_;rw[q1D,q8F,q0E,c2];rfl
   |some t =>
    rw[p] at c2;refine q0T (ρ:=[some (.val (tx row)),none,none]) (ρ':=ρ.set 2 (some (.val (.tup (nL l))))) rfl (l:=q0y) ?_;show exs (Gm (k+1)) subC [_,_,_,_] _=_;rw[q01 e1,q01 i1,q01 e3];refine q0J ?_;rw[q1D,q1l (evs2 c2 v2) (by simp),q0A];rfl
 ·rw[if_neg hc];refine q1T (ρ:=[some (.val (tx row)),none,none]) (ρ':=ρ) rfl (l:=q0y) ?_;show exs (Gm (k+1)) subC [_,_,_,_] _=_;rw[q01 e1];refine q1S ?_;rw[q1v,t1,decide_eq_false hc];rfl
noncomputable def q1n (f:List Nat->Option Nat) (x:List Nat):Option (Nat×List Wn):=match q03 10 x with
 |[]=>none
 |r::rs=>(countP f r).bind λ n=>(mapO (wayP f) rs).map λ ws=>(n,ws)
def OkR (n:Nat) (ws:List Wn):Prop:=(0<=(n:Int)/\(n:Int)<=10)/\(ws.map toW).all (wyB n)=true/\Rise (ws.map toW)
theorem q9F (k:Nat) (hl:ws.length<=1300) (h:OkR n ws):Gm (k+4) 2 [rD n ws] = .ok .non:=by rw[qFV,qBU k n (ws.map toW) (by rw[Qe];exact hl)];exact if_pos h
theorem q82 (k:Nat) (hl:ws.length<=1300) (h:¬OkR n ws):Gm (k+4) 2 [rD n ws] = .err 1:=by rw[qFV,qBU k n (ws.map toW) (by rw[Qe];exact hl)];exact if_neg h
theorem q7E {f:List Nat->Option Nat}(h:q1n f x=some (n,ws)):ws.length<=x.length:=by
 have:=split_len 10 x;unfold q1n at h;split at h
 ·cases h
 ·rename_i r rs e;rw[e,Qd] at this;obtain⟨_,_,h2⟩:=oB h;obtain⟨l,h3,h4⟩:=oM h2;cases h4;rw[q5w h3];lia
theorem q7F (k:Nat) (h:x.length<=1290) {r:List Nat}{rs:List (List Nat)}(hs:q03 10 x=r::rs) (v1:ev (Gm (k+2)) subC (.var 1) ρ = .ok (.lst (tx r::rs.map tx))) :
  ev (Gm (k+2)) subC (.tup [(.call 7 [(.idx (.var 1) (.con (.int 0)))]),(.comp 0 (.call 8 [(.var 0)]) (.e (.sl 0 (.var 1) [(.con (.int 1))] [])) [])]) ρ=oR (λ (p:Nat×List Wn)=>rD p.1 p.2) 5 (q1n num1 x):=by
 have hm:∀y∈r::rs,y.length<=100000:=λ y hy=>by have:=q1B 10 x y (by rw[hs];exact hy);lia
 have hl:rs.length<=1000000:=by have:=split_len 10 x;rw[hs,Qd] at this;lia
 have w0:ev (Gm (k+2)) subC (.idx (.var 1) (.con (.int 0))) ρ = .ok (tx r):=by rw[q1u,v1,q00,q06,q00,q4p]
 have c1:ev (Gm (k+2)) subC (.comp 0 (.call 8 [(.var 0)]) (.e (.sl 0 (.var 1) [(.con (.int 1))] [])) []) ρ=oR (λ l=> .lst (l.map wD)) 5 (mapO (wayP num1) rs) :=
  q4j (f:=tx) (by rw[q5V,q5z v1,q00];rfl) (λ a ha=>by rw[q0B,evs1 (G:=Gm (k+2)) (x:=tx a) rfl,q00,qIL k a (hm a (Qa _ ha))]) hl
 unfold q1n;rw[hs];dsimp only;rw[q8F,q0E,q0B,evs1 w0,q00,qFi k r (hm r Qb),q0E,c1,q0R];cases countP num1 r with
 |none=>rfl
 |some n =>
  cases mapO (wayP num1) rs with
  |none=>rfl
  |some ws=>rfl
theorem q3W (k:Nat) (h:x.length<=100000) {r:List Nat}{rs:List (List Nat)}(hs:q03 10 x=r::rs) (v0:ev (Gm k) subC (.var 0) ρ = .ok (tx x)):ex (Gm k) subC (.set 1 (.bi .split [(.var 0),(.con (.str (PySem.Str.ofString "\n")))])) ρ = .ok (ρ.set 1 (some (.val (.lst (tx r::rs.map tx))))) .nx:=by have:=q39 (G:=Gm k) (ρ:=ρ) (i:=0) (j:=1) (x:=x) s_nl v0 h (by lia);rw[hs] at this;exact this
theorem q7G (k:Nat) (h:x.length<=1290) (hp:q1n num1 x=none):Gm (k+5) 6 [tx x] = .err 5:=by rw[q1k (k+4) 6 _ 1 3 q4e rfl rfl];obtain⟨r,rs,hs⟩:=q1g 10 x;have e1:=q3W (k+4) (ρ:=[some (.val (tx x)),none,none]) (by lia) hs rfl;have c:=q7F (k+2) (ρ:=[some (.val (tx x)),some (.val (.lst (tx r::rs.map tx))),none]) h hs rfl;rw[hp] at c;refine q1T (ρ:=[some (.val (tx x)),none,none]) (ρ':=[some (.val (tx x)),some (.val (.lst (tx r::rs.map tx))),none]) rfl (l:=q4e) ?_;show exs (Gm (k+4)) subC [_,_,_,_] _=_;rw[q01 e1];refine q1S ?_;rw[q0L];show (ev (Gm (k+4)) subC _ [some (.val (tx x)),some (.val (.lst (tx r::rs.map tx))),none]).go _ _=_;rw[c];rfl
theorem q4k (k:Nat) (h:x.length<=1290) (hp:q1n num1 x=some (n,ws)):(OkR n ws->Gm (k+5) 6 [tx x] = .ok (rD n ws))/\(¬OkR n ws->Gm (k+5) 6 [tx x] = .err 5):=by
 rw[q1k (k+4) 6 _ 1 3 q4e rfl rfl];have hwl:=q7E hp;obtain⟨r,rs,hs⟩:=q1g 10 x;have e1:=q3W (k+4) (ρ:=[some (.val (tx x)),none,none]) (by lia) hs rfl;have c:=q7F (k+2) (ρ:=[some (.val (tx x)),some (.val (.lst (tx r::rs.map tx))),none]) h hs rfl;rw[hp] at c;have c:ev (Gm (k+4)) subC (.tup [(.call 7 [(.idx (.var 1) (.con (.int 0)))]),(.comp 0 (.call 8 [(.var 0)]) (.e (.sl 0 (.var 1) [(.con (.int 1))] [])) [])]) [some (.val (tx x)),some (.val (.lst (tx r::rs.map tx))),none] = .ok (rD n ws):=c;have e2:ex (Gm (k+4)) subC (.set 2 (.tup [(.call 7 [(.idx (.var 1) (.con (.int 0)))]),(.comp 0 (.call 8 [(.var 0)]) (.e (.sl 0 (.var 1) [(.con (.int 1))] [])) [])])) [some (.val (tx x)),some (.val (.lst (tx r::rs.map tx))),none] = .ok [some (.val (tx x)),some (.val (.lst (tx r::rs.map tx))),some (.val (rD n ws))] .nx:=by rw[q0L,c];rfl
 generalize hρ:[some (Sl.val (tx x)),some (.val (.lst (tx r::rs.map tx))),some (.val (rD n ws))]=ρ at e2;have v2:ev (Gm (k+4)) subC (.var 2) ρ = .ok (rD n ws):=by rw[<-hρ];rfl
 constructor
 ·intro ok;have b:exs (Gm (k+4)) subC [.expr (.call 2 [(.var 2)])] ρ = .ok ρ .nx:=by rw[q0k,q2T,q0B,evs1 v2,q00,q9F k (by lia) ok];rfl
  refine q0T (ρ:=[some (.val (tx x)),none,none]) (ρ':=ρ) rfl (l:=q4e) ?_;show exs (Gm (k+4)) subC [_,_,_,_] _=_;rw[q01 e1];refine (q01 e2).trans ?_;rw[q01 (by rw[qAM,b])];refine q0J ?_;rw[q1D,v2,q0A]
 ·intro ok;have b:exs (Gm (k+4)) subC [.expr (.call 2 [(.var 2)])] ρ = .err 1 ρ:=by rw[q0k,q2T,q0B,evs1 v2,q00,q82 k (by lia) ok];rfl
  refine q1T (ρ:=[some (.val (tx x)),none,none]) (ρ':=ρ) rfl (l:=q4e) ?_;show exs (Gm (k+4)) subC [_,_,_,_] _=_;rw[q01 e1];refine (q01 e2).trans ?_;refine q1S ?_;rw[qAM,b];rfl
end Mk
namespace Mk
open Ev
variable {G:Nat->List D->R D}
noncomputable def digs:List Nat:=[48,49,50,51,52,53,54,55,56,57]
theorem s_digs:D.str (PySem.Str.ofString "0123456789")=tx digs:=rfl
theorem qFj (c:Nat):decide (c∈digs)=q0f c:=by
 rw[QP,decide_eq_true_eq];unfold digs q0f;rw[Qg,decide_eq_true_eq,decide_eq_true_eq];constructor
 ·intro h;have:∀d∈[48,49,50,51,52,53,54,55,56,57],48<=d/\d<=57:=by decide
  exact this c h
 ·rintro⟨h1,h2⟩;have:∀d,d<10->d+48∈[48,49,50,51,52,53,54,55,56,57]:=by decide
  have:=this (c-48) (by lia)
  rwa [show c-48+48=c by lia] at this
theorem qFk (c:Nat):cmD .mem (tx [c]) (tx digs) = .ok (.bl (q0f c)):=by show ((memS (mkS digs) (.str (mkS [c]))).bind λ r=>R.ok (D.bl r))=_;unfold memS;dsimp only;rw[show one? (mkS [c])=some c from rfl];dsimp only;rw[q00,qK1,qFj]
theorem qBf {ρ:Env}{i:Nat}{w:List Nat}(hl:w.length<=1000) (hv:ev G subC (.var i) ρ = .ok (tx w)):ev G subC (.bi .all [(.comp 0 (.cm .mem (.var 0) (.con (.str (PySem.Str.ofString "0123456789")))) (.e (.var i)) [])]) ρ = .ok (.bl (w.all q0f)):=by
 have h1:evi G subC (.e (.var i)) ρ = .ok (w.map λ c=>tx [c]):=by rw[q5V,hv,q00];rfl
 have a2:q0H (ev G subC (.cm .mem (.var 0) (.con (.str (PySem.Str.ofString "0123456789"))))) (tsts G subC []) 0 ρ (w.map λ c=>tx [c]) = .ok ((w.filter λ _=>true).map λ c=>D.bl (q0f c)) :=
  q1f (us:=λ a=>[tx [a]]) λ a ha=>⟨rfl,rfl,λ _=>q0i (G:=G) (x:=tx [a]) (y:=tx digs) rfl rfl (qFk a)⟩
 rw[filter_tt] at a2;rw[q0U,q0E,q20,h1,q00,a2,q2E,q00,if_pos (by rw[Qe,q14];lia),q00,q0R,q00,q00,qGx,q78];dsimp only;rw[List.all_map];rfl
theorem qK5 (a:Nat) (h:q0f a=true):biD subC .toInt [tx [a]] = .ok (nI (a-48)):=by show (if q0f a then R.ok (D.int (a-48:Nat)) else .stuck)=_;rw[if_pos h];rfl
theorem qK6 (a b:Nat) (h:(q0f a&&q0f b)=true):biD subC .toInt [tx [a,b]] = .ok (nI (10*(a-48)+(b-48))):=by show (if q0f a&&q0f b then R.ok (D.int (10*(a-48)+(b-48):Nat)) else .stuck)=_;rw[if_pos h];rfl
noncomputable def qFl:T:= .or (.e (.cm .eq (.var 2) (.con (.str (PySem.Str.ofString ""))))) (.or (.e (.cm .gt (.bi .len [(.var 2)]) (.con (.int 2)))) (.or (.not (.e (.bi .all [(.comp 0 (.cm .mem (.var 0) (.con (.str (PySem.Str.ofString "0123456789")))) (.e (.var 2)) [])]))) (.e (.cm .ne (.bi .strI [(.bi .toInt [(.var 2)])]) (.var 2)))))
theorem qE7 (w:List Nat):biD subC .len [tx w] = .ok (nI w.length):=by show R.ok (D.int ((mkS w).length:Nat))=_;rw[q1J];rfl
theorem q60 {a:Nat}(h:q0f a=true):a-48<10:=by unfold q0f at h;rw[Qg,decide_eq_true_eq,decide_eq_true_eq] at h;lia
theorem qIM (a:Nat):num2 [a]=if q0f a=true/\dg (a-48)=[a] then some (a-48) else none:=rfl
theorem qBg (a b:Nat):num2 [a,b]=if (q0f a&&q0f b)=true/\dg (10*(a-48)+(b-48))=[a,b] then some (10*(a-48)+(b-48)) else none:=rfl
theorem qFm {ρ:Env}{w:List Nat}(hl:w.length<=100000) (hv:ev G subC (.var 2) ρ = .ok (tx w)):tst G subC qFl ρ = .ok (num2 w).isNone/\∀k,num2 w=some k->ev G subC (.bi .toInt [(.var 2)]) ρ = .ok (nI k):=by
 have t1:tst G subC (.e (.cm .eq (.var 2) (.con (.str (PySem.Str.ofString ""))))) ρ = .ok (decide (w=[])):=q0d (q0i (y:=tx []) hv rfl (qK2 _ _));have t2:tst G subC (.e (.cm .gt (.bi .len [(.var 2)]) (.con (.int 2)))) ρ = .ok (decide (2<w.length)):=by refine q0d (q0i (x:=nI w.length) (y:= .int 2) (by rw[q0U,evs1 hv,q00,qE7]) rfl ?_);rw[nI,gt_i];congr 2;exact decide_eq_decide.mpr (by lia)
 unfold qFl;rw[q2l,t1,q00,q2l,t2,q00]
 match w,hl,hv with
 |[],_,_=>exact⟨rfl,nofun⟩
 |[a],_,hv =>
  have t3:=q0d (qBf (by simp) hv);rw[if_neg (by simp),if_neg (by simp),q2l,q5X,t3,q00,q00];rw[show [a].all q0f=q0f a by simp];cases h:q0f a with
  |false=>exact⟨by simp[num2,h],λ k e=>by simp[num2,h] at e⟩
  |true =>
   have t4:ev G subC (.bi .toInt [(.var 2)]) ρ = .ok (nI (a-48)):=(by rw[q0U,evs1 hv,q00,qK5 a h]);have:=q60 h;have t5:tst G subC (.e (.cm .ne (.bi .strI [(.bi .toInt [(.var 2)])]) (.var 2))) ρ = .ok (!decide (dg (a-48)=[a])) :=
    q0d (q0i (x:=tx (dg (a-48))) (y:=tx [a]) (by rw[q0U,evs1 t4,q00,q4g _ (by lia)]) hv (q9l _ _))
   rw[if_neg (by simp),t5];rw[qIM]
   by_cases e:dg (a-48)=[a]
   ·rw[decide_eq_true e,if_pos ⟨h,e⟩];exact⟨rfl,λ k q=>by cases q;exact t4⟩
   ·rw[decide_eq_false e,if_neg λ q=>e q.2];exact⟨rfl,nofun⟩
 |[a,b],_,hv =>
  have t3:=q0d (qBf (by simp) hv);rw[if_neg (by simp),if_neg (by simp),q2l,q5X,t3,q00,q00];rw[show [a,b].all q0f=(q0f a&&q0f b) by simp];cases h:q0f a&&q0f b with
  |false=>exact⟨by rw[qBg,if_pos (by simp),if_neg (by rw[h];simp)];rfl,λ k e=>by rw[qBg,if_neg (by rw[h];simp)] at e;cases e⟩
  |true =>
   have t4:ev G subC (.bi .toInt [(.var 2)]) ρ = .ok (nI (10*(a-48)+(b-48))):=(by rw[q0U,evs1 hv,q00,qK6 a b h]);have h':=Bool.and_eq_true_iff.mp h;have:=q60 h'.1;have:=q60 h'.2;have t5:tst G subC (.e (.cm .ne (.bi .strI [(.bi .toInt [(.var 2)])]) (.var 2))) ρ = .ok (!decide (dg (10*(a-48)+(b-48))=[a,b])) :=
    q0d (q0i (x:=tx (dg (10*(a-48)+(b-48)))) (y:=tx [a,b]) (by rw[q0U,evs1 t4,q00,q4g _ (by lia)]) hv (q9l _ _))
   rw[if_neg (by simp),t5];rw[qBg]
   by_cases e:dg (10*(a-48)+(b-48))=[a,b]
   ·rw[decide_eq_true e,if_pos ⟨h,e⟩];exact⟨rfl,λ k q=>by cases q;exact t4⟩
   ·rw[decide_eq_false e,if_neg λ q=>e q.2];exact⟨rfl,nofun⟩
 |a::b::c::r,_,hv=>exact⟨by rw[if_neg (by simp),if_pos (by simp)];rfl,nofun⟩
noncomputable def q4q:List S:=[.ifs qFl [.ret (.con .non)] [],.app 1 (.bi .toInt [(.var 2)])]
theorem qBh (s:Option Sl):∀(ws:List (List Nat)) (acc:List Nat) (x:Option Sl),(∀w∈ws,w.length<=100000)->acc.length+ws.length<=999999->
  (∃x',∀l,mapO num2 ws=some l->q0m (exs G subC q4q) 0 [2] (ws.map tx) [s,some (.own (.lst (nL acc))),x] = .ok [s,some (.own (.lst (nL (acc++l)))),x'] .nx)/\
  (mapO num2 ws=none->∃ρ',q0m (exs G subC q4q) 0 [2] (ws.map tx) [s,some (.own (.lst (nL acc))),x] = .ok ρ' (.ret .non))
 |[],acc,x,_,_=>⟨⟨x,λ l h=>by cases h;rw[QB];rfl⟩,nofun⟩
 |w::ws,acc,x,hm,hl=>by
  have hl:acc.length+(ws.length+1)<=999999:=hl;obtain⟨t1,t2⟩:=qFm (G:=G) (ρ:=[s,some (.own (.lst (nL acc))),some (.val (tx w))]) (w:=w) (hm w Qb) rfl;rw[Qz,q1Y];show (∃x',∀l,mapO num2 (w::ws)=some l->(exs G subC q4q [s,some (.own (.lst (nL acc))),some (.val (tx w))]).turn _=_)/\(mapO num2 (w::ws)=none->∃ρ',(exs G subC q4q [s,some (.own (.lst (nL acc))),some (.val (tx w))]).turn _=_)
  rw[mapO];cases q:num2 w with
  |none =>
   rw[q] at t1;refine⟨⟨none,nofun⟩,λ _=>⟨[s,some (.own (.lst (nL acc))),some (.val (tx w))],?_⟩⟩;rw[q4q,q0k,q1v,t1,q0A];rfl
  |some k =>
   rw[q] at t1;have b:exs G subC q4q [s,some (.own (.lst (nL acc))),some (.val (tx w))] = .ok [s,some (.own (.lst (nL (acc++[k])))),some (.val (tx w))] .nx:=by
    have e2:ex G subC (.app 1 (.bi .toInt [(.var 2)])) [s,some (.own (.lst (nL acc))),some (.val (tx w))] = .ok [s,some (.own (.lst (nL (acc++[k])))),some (.val (tx w))] .nx:=by rw[q8G];show ((ev G subC (.bi .toInt [(.var 2)]) [s,some (.own (.lst (nL acc))),some (.val (tx w))]).go _ λ d=>if (nL acc).length<big then _ else _)=_;rw[t2 k q,q0A,if_pos (by rw[q96,Qe,q14];lia),q96,q96,Jp];rfl
    rw[q4q,q01 (q5v t1),q01 e2,q1Q]
   rw[b,q3F];obtain⟨⟨x',ih1⟩,ih2⟩:=qBh s ws (acc++[k]) (some (.val (tx w))) (λ v hv=>hm v (Qa _ hv)) (by simp;lia);constructor
   ·refine⟨x',λ l h=>?_⟩;obtain⟨m,h3,h4⟩:=oM h;rw[ih1 m h3,<-h4,QN];rfl
   ·intro h;refine ih2 ?_;cases p:mapO num2 ws with
    |none=>rfl
    |some m=>rw[p] at h;cases h
noncomputable def oN {β:Type}(g:β->D):Option β->D
 |some b=>g b
 |none=> .non
theorem q4l (k:Nat) (ws:List (List Nat)) (hm:∀w∈ws,w.length<=100000) (hl:ws.length<=999999):Gm (k+1) 16 [.lst (ws.map tx)] = .ok (oN (λ l=> .lst (nL l)) (mapO num2 ws)):=by
 rw[q1k k 16 _ 1 3 q0h rfl rfl];have e1:ex (Gm k) subC (.setO 1 (.lst [])) [some (.val (.lst (ws.map tx))),none,none] = .ok [some (.val (.lst (ws.map tx))),some (.own (.lst (nL []))),none] .nx:=by rw[q4B,q12 (q0R _) (by simp),q0A];rfl
 obtain⟨⟨x',n1⟩,n2⟩:=qBh (G:=Gm k) (some (.val (.lst (ws.map tx)))) ws [] none hm (by simp;lia);have f:ex (Gm k) subC (.forr 0 [2] (.e (.var 0)) q4q) [some (.val (.lst (ws.map tx))),some (.own (.lst (nL []))),none]=q0m (exs (Gm k) subC q4q) 0 [2] (ws.map tx) [some (.val (.lst (ws.map tx))),some (.own (.lst (nL []))),none]:=rfl;have hb:q0h=[.setO 1 (.lst []),.forr 0 [2] (.e (.var 0)) q4q,.retO 1]:=rfl;cases q:mapO num2 ws with
 |none =>
  obtain⟨ρ',n2⟩:=n2 q;refine q0T (ρ:=[some (.val (.lst (ws.map tx))),none,none]) (ρ':=ρ') rfl (l:=q0h) ?_;rw[hb,q01 e1];exact q0J (f.trans n2)
 |some l =>
  have n1:=n1 l q;refine q0T (ρ:=[some (.val (.lst (ws.map tx))),none,none]) (ρ':=[some (.val (.lst (ws.map tx))),none,x']) rfl (l:=q0h) ?_;rw[hb,q01 e1,q01 (f.trans n1)];exact q0J rfl
end Mk
namespace Mk
open Ev
variable {ρ:Env}{a:L}{w:List Nat}
variable {G:Nat->List D->R D}
noncomputable def lnD (l:List Nat):D:= .lst (nL l)
theorem qBi (o:Option (List Nat)):cmD .isN (oN lnD o) .non = .ok (.bl o.isNone):=by cases o<;>rfl
theorem qFn {a b:T}{x y:Bool}(h1:tst G subC a ρ = .ok x) (h2:tst G subC b ρ = .ok y):tst G subC (.or a b) ρ = .ok (x || y):=by rw[q2l,h1,q00,h2];cases x<;>rfl
noncomputable def q3X:List S:=[.set 5 (.bi .split [(.var 4),(.con (.str (PySem.Str.ofString " ")))]),.set 6 (.call 16 [(.lst [(.sl 0 (.idx (.var 5) (.con (.int 0))) [] [(.neg (.con (.int 1)))])])]),.set 7 (.call 16 [(.sl 0 (.var 5) [(.con (.int 1))] [])]),
 .ifs (.or (.e (.cm .ne (.sl 0 (.idx (.var 5) (.con (.int 0))) [(.neg (.con (.int 1)))] []) (.con (.str (PySem.Str.ofString ":"))))) (.or (.e (.cm .isN (.var 6) (.con .non))) (.e (.cm .isN (.var 7) (.con .non))))) [.ret (.con .non)] [],
 .app 3 (.tup [(.idx (.var 6) (.con (.int 0))),(.bi .tuple [(.var 7)])])]
theorem qFo (hw:w.length<=100000) (hv:ev G subC a ρ = .ok (tx w)):ev G subC (.sl 0 a [(.neg (.con (.int 1)))] []) ρ = .ok (tx (w.drop (w.length-1))):=by rw[q4o,hv,q00,evs1 (x:= .int (-1)) (qBa _),q00,q0R,q00];show slD 0 (some (-1)) none (tx w)=_;rw[q9m _ _ _ (by lia),qDO]
theorem q61 (w:List Nat):mapO num2 [w]=(num2 w).map λ k=>[k]:=by cases h:num2 w<;>simp[mapO,h]
theorem qIN (k:Nat) {r:List Nat}(h:r.length<=100000) (s t u:Option Sl) (acc:List Wn) (ha:acc.length<=999998) (a b c:Option Sl) :
  ∃a' b' c',exs (Gm (k+1)) subC q3X [s,t,u,some (.own (.lst (acc.map wD))),some (.val (tx r)),a,b,c]=match wayP num2 r with
   |some w=> .ok [s,t,u,some (.own (.lst ((acc++[w]).map wD))),some (.val (tx r)),a',b',c'] .nx
   |none=> .ok [s,t,u,some (.own (.lst (acc.map wD))),some (.val (tx r)),a',b',c'] (.ret .non):=by
 obtain⟨w,ws,hs⟩:=q1g 32 r;have hw:w.length<=100000:=Qt (q1B 32 r w (by rw[hs];exact Qb)) h;have hws:∀v∈ws,v.length<=100000:=λ v hv=>Qt (q1B 32 r v (by rw[hs];exact Qa _ hv)) h;have hl:ws.length<=999999:=by have:=split_len 32 r;rw[hs,Qd] at this;lia
 refine⟨some (.val (.lst (tx w::ws.map tx))),some (.val (oN lnD (mapO num2 [w.dropLast]))),some (.val (oN lnD (mapO num2 ws))),?_⟩;have e1:ex (Gm (k+1)) subC (.set 5 (.bi .split [(.var 4),(.con (.str (PySem.Str.ofString " ")))])) [s,t,u,some (.own (.lst (acc.map wD))),some (.val (tx r)),a,b,c] = .ok [s,t,u,some (.own (.lst (acc.map wD))),some (.val (tx r)),some (.val (.lst (tx w::ws.map tx))),b,c] .nx:=by have:=q39 (G:=Gm (k+1)) (ρ:=[s,t,u,some (.own (.lst (acc.map wD))),some (.val (tx r)),a,b,c]) (i:=4) (j:=5) (x:=r) s_sp rfl h (by lia);rw[hs] at this;exact this
 have e2:ex (Gm (k+1)) subC (.set 6 (.call 16 [(.lst [(.sl 0 (.idx (.var 5) (.con (.int 0))) [] [(.neg (.con (.int 1)))])])])) [s,t,u,some (.own (.lst (acc.map wD))),some (.val (tx r)),some (.val (.lst (tx w::ws.map tx))),b,c] = .ok [s,t,u,some (.own (.lst (acc.map wD))),some (.val (tx r)),some (.val (.lst (tx w::ws.map tx))),some (.val (oN lnD (mapO num2 [w.dropLast]))),c] .nx:=by have w0:ev (Gm (k+1)) subC (.idx (.var 5) (.con (.int 0))) [s,t,u,some (.own (.lst (acc.map wD))),some (.val (tx r)),some (.val (.lst (tx w::ws.map tx))),b,c] = .ok (tx w):=q4p (tx w) (ws.map tx);have:=q4l k [w.dropLast] (λ v hv=>by rw[Qu.mp hv,List.length_dropLast];lia) (by simp);rw[q0L,q0B,evs1 (q12 (evs1 (qBe hw w0)) (by simp)),q00,show D.lst [tx w.dropLast]=D.lst ([w.dropLast].map tx) from rfl,this,q0A];rfl
 have e3:ex (Gm (k+1)) subC (.set 7 (.call 16 [(.sl 0 (.var 5) [(.con (.int 1))] [])])) [s,t,u,some (.own (.lst (acc.map wD))),some (.val (tx r)),some (.val (.lst (tx w::ws.map tx))),some (.val (oN lnD (mapO num2 [w.dropLast]))),c] = .ok [s,t,u,some (.own (.lst (acc.map wD))),some (.val (tx r)),some (.val (.lst (tx w::ws.map tx))),some (.val (oN lnD (mapO num2 [w.dropLast]))),some (.val (oN lnD (mapO num2 ws)))] .nx:=by have:=q4l k ws hws hl;rw[q0L,q0B,evs1 (q5z (a:=tx w) (l:=ws.map tx) rfl),q00,this,q0A];rfl
 generalize hρ:[s,t,u,some (.own (.lst (acc.map wD))),some (.val (tx r)),some (.val (.lst (tx w::ws.map tx))),some (.val (oN lnD (mapO num2 [w.dropLast]))),some (.val (oN lnD (mapO num2 ws)))]=ρ at e3;have w0:ev (Gm (k+1)) subC (.idx (.var 5) (.con (.int 0))) ρ = .ok (tx w):=by rw[<-hρ];exact q4p (tx w) (ws.map tx)
 have v6:ev (Gm (k+1)) subC (.var 6) ρ = .ok (oN lnD (mapO num2 [w.dropLast])):=by rw[<-hρ];rfl
 have v7:ev (Gm (k+1)) subC (.var 7) ρ = .ok (oN lnD (mapO num2 ws)):=by rw[<-hρ];rfl
 have t4:=qFn (q0d (q0i (y:=tx [58]) (qFo hw w0) (b:= .con (.str (PySem.Str.ofString ":"))) rfl (q9l _ _))) (qFn (q0d (q0i (y:= .non) v6 (b:= .con .non) rfl (qBi _))) (q0d (q0i (y:= .non) v7 (b:= .con .non) rfl (qBi _))));have tq:(!decide (w.drop (w.length-1)=[58]) || ((mapO num2 [w.dropLast]).isNone || (mapO num2 ws).isNone))=(wayP num2 r).isNone:=by
  unfold wayP;rw[hs,q61];dsimp only
  by_cases hc:w.getLast? = some 58
  ·rw[if_pos hc,decide_eq_true (q9E.mpr hc)];cases num2 w.dropLast with
   |none=>rfl
   |some j=>cases mapO num2 ws<;>rfl
  ·rw[if_neg hc,decide_eq_false λ g=>hc (q9E.mp g)];rfl
 rw[tq] at t4;have b5:exs (Gm (k+1)) subC q3X [s,t,u,some (.own (.lst (acc.map wD))),some (.val (tx r)),a,b,c]=exs (Gm (k+1)) subC (q3X.drop 3) ρ:=by rw[q3X,q01 e1,q01 e2];exact q01 e3
 rw[b5];cases q:wayP num2 r with
 |none =>
  rw[q] at t4;dsimp only;refine q0J ?_;rw[q1v,t4,q0A];rfl
 |some p =>
  rw[q] at t4;dsimp only;have i4:=q5v (l:=[.ret (.con .non)]) t4;have:∃t l,num2 w.dropLast=some t/\mapO num2 ws=some l/\p=(t,l):=by
   unfold wayP at q;rw[hs] at q;dsimp only at q;split at q
   ·obtain⟨t,h1,h2⟩:=oB q;obtain⟨l,h3,h4⟩:=oM h2;exact⟨t,l,h1,h3,h4.symm⟩
   ·cases q
  obtain⟨t',l,h1,h2,rfl⟩:=this;rw[q61,h1] at v6;rw[h2] at v7;have c6:ev (Gm (k+1)) subC (.idx (.var 6) (.con (.int 0))) ρ = .ok (nI t'):=by rw[q1u,v6,q00,q06,q00];exact q4p (nI t') []
  have c7:ev (Gm (k+1)) subC (.bi .tuple [(.var 7)]) ρ = .ok (.tup (nL l)):=by rw[q0U,evs1 v7,q00];rfl
  have e5:ex (Gm (k+1)) subC (.app 3 (.tup [(.idx (.var 6) (.con (.int 0))),(.bi .tuple [(.var 7)])])) ρ = .ok (ρ.set 3 (some (.own (.lst ((acc++[(t',l)]).map wD))))) .nx:=by rw[q8G,show ρ[3]? = some (some (.own (.lst (acc.map wD)))) by rw[<-hρ];rfl];dsimp only;rw[q1l (evs2 c6 c7) (by simp),q0A,if_pos (by rw[Qe,q14];lia),Jp];rfl
  have e6:exs (Gm (k+1)) subC (q3X.drop 3) ρ = .ok (ρ.set 3 (some (.own (.lst ((acc++[(t',l)]).map wD))))) .nx:=by refine (q01 i4).trans ?_;rw[q01 e5,q1Q]
  rw[e6,<-hρ];rfl
theorem qBj (k:Nat) (s t u:Option Sl):∀(rs:List (List Nat)) (acc:List Wn) (x a b c:Option Sl),(∀r∈rs,r.length<=100000)->acc.length+rs.length<=999998->
  (∀l,mapO (wayP num2) rs=some l->∃x' a' b' c',q0m (exs (Gm (k+1)) subC q3X) 0 [4] (rs.map tx) [s,t,u,some (.own (.lst (acc.map wD))),x,a,b,c] = .ok [s,t,u,some (.own (.lst ((acc++l).map wD))),x',a',b',c'] .nx)/\
  (mapO (wayP num2) rs=none->∃ρ',q0m (exs (Gm (k+1)) subC q3X) 0 [4] (rs.map tx) [s,t,u,some (.own (.lst (acc.map wD))),x,a,b,c] = .ok ρ' (.ret .non))
 |[],acc,x,a,b,c,_,_=>⟨λ l h=>by cases h;exact⟨x,a,b,c,by rw[QB];rfl⟩,nofun⟩
 |r::rs,acc,x,a,b,c,hm,hl=>by
  have hl:acc.length+(rs.length+1)<=999998:=hl;obtain⟨a',b',c',e⟩:=qIN k (hm r Qb) s t u acc (by lia) a b c;have f:q0m (exs (Gm (k+1)) subC q3X) 0 [4] ((r::rs).map tx) [s,t,u,some (.own (.lst (acc.map wD))),x,a,b,c]=(exs (Gm (k+1)) subC q3X [s,t,u,some (.own (.lst (acc.map wD))),some (.val (tx r)),a,b,c]).turn λ ρ'=>q0m (exs (Gm (k+1)) subC q3X) 0 [4] (rs.map tx) ρ':=rfl;rw[f,e,mapO];cases q:wayP num2 r with
  |none=>exact⟨nofun,λ _=>⟨_,rfl⟩⟩
  |some w =>
   dsimp only;rw[q3F,Q7];obtain⟨h1,h2⟩:=qBj k s t u rs (acc++[w]) (some (.val (tx r))) a' b' c' (λ v hv=>hm v (Qa _ hv)) (by simp;lia);constructor
   ·intro l h;obtain⟨m,h3,h4⟩:=oM h;obtain⟨x',a',b',c',h5⟩:=h1 m h3;refine⟨x',a',b',c',?_⟩;rw[h5,<-h4,QN];rfl
   ·intro h;refine h2 ?_;cases p:mapO (wayP num2) rs with
    |none=>rfl
    |some m=>rw[p] at h;cases h
theorem qFp (hw:w.length<=100000) (hv:ev G subC a ρ = .ok (tx w)) {z:Int}{j:Nat}(hz:z=(j:Int)):ev G subC (.sl 0 a [(.con (.int z))] []) ρ = .ok (tx (w.drop j)):=by subst hz;rw[q4o,hv,q00,evs1 (x:= .int (j:Int)) (q06 _ _),q00,q0R,q00];show slD 0 (some (j:Int)) none (tx w)=_;rw[q9m _ _ _ (by lia),qE6]
theorem qK7 (hw:w.length<=100000) (hv:ev G subC a ρ = .ok (tx w)) {z:Int}{j:Nat}(hz:z=(j:Int)):ev G subC (.sl 0 a [] [(.con (.int z))]) ρ = .ok (tx (w.take j)):=by subst hz;rw[q4o,hv,q00,q0R,q00,evs1 (x:= .int (j:Int)) (q06 _ _),q00];show slD 0 none (some (j:Int)) (tx w)=_;rw[q9m _ _ _ (by lia),qE5]
theorem qFq (k:Nat) {x:List Nat}(h:x.length<=1290):Gm (k+2) 17 [tx x] = .ok (oN (λ (p:Nat×List Wn)=>rD p.1 p.2) (q1n num2 x)):=by
 rw[q1k (k+1) 17 _ 1 8 q0n rfl rfl];obtain⟨r,rs,hs⟩:=q1g 10 x;have hm:∀y∈r::rs,y.length<=100000:=λ y hy=>by have:=q1B 10 x y (by rw[hs];exact hy);lia
 have hl:rs.length<=2000:=by have:=split_len 10 x;rw[hs,Qd] at this;lia
 have hr:=hm r Qb;have hb:q0n=[.set 1 (.bi .split [(.var 0),(.con (.str (PySem.Str.ofString "\n")))]),.set 2 (.call 16 [(.lst [(.sl 0 (.idx (.var 1) (.con (.int 0))) [(.con (.int 7))] [])])]),.ifs (.or (.e (.cm .ne (.sl 0 (.idx (.var 1) (.con (.int 0))) [] [(.con (.int 7))]) (.con (.str (PySem.Str.ofString "things "))))) (.e (.cm .isN (.var 2) (.con .non)))) [.ret (.con .non)] [],.setO 3 (.lst []),.forr 0 [4] (.e (.sl 0 (.var 1) [(.con (.int 1))] [])) q3X,.fz 3 (.ret (.tup [(.idx (.var 2) (.con (.int 0))),(.var 3)]))]:=rfl;have e1:=q3W (k+1) (ρ:=[some (.val (tx x)),none,none,none,none,none,none,none]) (by lia) hs rfl;have e1:ex (Gm (k+1)) subC (.set 1 (.bi .split [(.var 0),(.con (.str (PySem.Str.ofString "\n")))])) [some (.val (tx x)),none,none,none,none,none,none,none] = .ok [some (.val (tx x)),some (.val (.lst (tx r::rs.map tx))),none,none,none,none,none,none] .nx:=e1;have e2:ex (Gm (k+1)) subC (.set 2 (.call 16 [(.lst [(.sl 0 (.idx (.var 1) (.con (.int 0))) [(.con (.int 7))] [])])])) [some (.val (tx x)),some (.val (.lst (tx r::rs.map tx))),none,none,none,none,none,none] = .ok [some (.val (tx x)),some (.val (.lst (tx r::rs.map tx))),some (.val (oN lnD (mapO num2 [r.drop 7]))),none,none,none,none,none] .nx:=by have w0:ev (Gm (k+1)) subC (.idx (.var 1) (.con (.int 0))) [some (.val (tx x)),some (.val (.lst (tx r::rs.map tx))),none,none,none,none,none,none] = .ok (tx r):=q4p (tx r) (rs.map tx);have:=q4l k [r.drop 7] (λ v hv=>by rw[Qu.mp hv,QZ];lia) (by simp);rw[q0L,q0B,evs1 (q12 (evs1 (qFp hr w0 (z:=7) (j:=7) rfl)) (by simp)),q00,show D.lst [tx (r.drop 7)]=D.lst ([r.drop 7].map tx) from rfl,this,q0A];rfl
 generalize hρ:[some (Sl.val (tx x)),some (.val (.lst (tx r::rs.map tx))),some (.val (oN lnD (mapO num2 [r.drop 7]))),none,none,none,none,none]=ρ at e2;have w0:ev (Gm (k+1)) subC (.idx (.var 1) (.con (.int 0))) ρ = .ok (tx r):=by rw[<-hρ];exact q4p (tx r) (rs.map tx)
 have v2:ev (Gm (k+1)) subC (.var 2) ρ = .ok (oN lnD (mapO num2 [r.drop 7])):=by rw[<-hρ];rfl
 have t3:=qFn (q0d (q0i (y:=tx (thg++[32])) (qK7 hr w0 (z:=7) (j:=7) rfl) (b:= .con (.str (PySem.Str.ofString "things "))) rfl (q9l _ _))) (q0d (q0i (y:= .non) v2 (b:= .con .non) rfl (qBi _)));have tq:(!decide (r.take 7=thg++[32]) || (mapO num2 [r.drop 7]).isNone)=(countP num2 r).isNone:=by
  unfold countP;rw[q61]
  by_cases hc:r.take 7=thg++[32]
  ·rw[if_pos hc,decide_eq_true hc];cases num2 (r.drop 7)<;>rfl
  ·rw[if_neg hc,decide_eq_false hc];rfl
 rw[tq] at t3;unfold q1n;rw[hs];dsimp only;cases q:countP num2 r with
 |none =>
  rw[q] at t3;refine q0T (ρ:=[some (.val (tx x)),none,none,none,none,none,none,none]) (ρ':=ρ) rfl (l:=q0n) ?_;rw[hb,q01 e1];refine (q01 e2).trans ?_;refine q0J ?_;rw[q1v];refine (congrArg (λ z=>R.go z ρ _) t3).trans ?_;rfl
 |some n =>
  rw[q] at t3;have i3:=q5v (l:=[.ret (.con .non)]) t3;have hn:num2 (r.drop 7)=some n:=by
   unfold countP at q;split at q
   ·exact q
   ·cases q
  have e4:ex (Gm (k+1)) subC (.setO 3 (.lst [])) ρ = .ok (ρ.set 3 (some (.own (.lst (([]:List Wn).map wD))))) .nx:=by rw[q4B,q12 (q0R _) (by simp),q0A];rfl
  rw[q61,hn] at v2 hρ;obtain⟨h1,h2⟩:=qBj k (some (.val (tx x))) (some (.val (.lst (tx r::rs.map tx)))) (some (.val (oN lnD (some [n])))) rs [] none none none none (λ y hy=>hm y (Qa _ hy)) (by simp;lia);have hρ3:ρ.set 3 (some (.own (.lst (([]:List Wn).map wD))))=[some (Sl.val (tx x)),some (.val (.lst (tx r::rs.map tx))),some (.val (oN lnD (some [n]))),some (.own (.lst (([]:List Wn).map wD))),none,none,none,none]:=by rw[<-hρ];rfl
  rw[hρ3] at e4;have f:ex (Gm (k+1)) subC (.forr 0 [4] (.e (.sl 0 (.var 1) [(.con (.int 1))] [])) q3X) [some (Sl.val (tx x)),some (.val (.lst (tx r::rs.map tx))),some (.val (oN lnD (some [n]))),some (.own (.lst (([]:List Wn).map wD))),none,none,none,none]=q0m (exs (Gm (k+1)) subC q3X) 0 [4] (rs.map tx) [some (Sl.val (tx x)),some (.val (.lst (tx r::rs.map tx))),some (.val (oN lnD (some [n]))),some (.own (.lst (([]:List Wn).map wD))),none,none,none,none]:=by rw[q3I,q5V,q5z (a:=tx r) (l:=rs.map tx) rfl,q00];rfl
  cases p:mapO (wayP num2) rs with
  |none =>
   obtain⟨ρ',h2⟩:=h2 p;refine q0T (ρ:=[some (.val (tx x)),none,none,none,none,none,none,none]) (ρ':=ρ') rfl (l:=q0n) ?_;rw[hb,q01 e1];refine (q01 e2).trans ?_;refine (q01 i3).trans ?_;rw[q01 e4];exact q0J (f.trans h2)
  |some l =>
   obtain⟨x',a',b',c',h1⟩:=h1 l p;refine q0T (ρ:=[some (.val (tx x)),none,none,none,none,none,none,none]) (ρ':=[some (.val (tx x)),some (.val (.lst (tx r::rs.map tx))),some (.val (oN lnD (some [n]))),some (.val (.lst (l.map wD))),x',a',b',c']) rfl (l:=q0n) ?_;rw[hb,q01 e1];refine (q01 e2).trans ?_;refine (q01 i3).trans ?_;rw[q01 e4,q01 (f.trans h1)];refine q0J ?_;have w2:ev (Gm (k+1)) subC (.idx (.var 2) (.con (.int 0))) [some (.val (tx x)),some (.val (.lst (tx r::rs.map tx))),some (.val (oN lnD (some [n]))),some (.val (.lst (l.map wD))),x',a',b',c'] = .ok (nI n):=q4p (nI n) [];show ex (Gm (k+1)) subC (.ret (.tup [(.idx (.var 2) (.con (.int 0))),(.var 3)])) [some (.val (tx x)),some (.val (.lst (tx r::rs.map tx))),some (.val (oN lnD (some [n]))),some (.val (.lst (l.map wD))),x',a',b',c']=_;rw[q1D,q1l (evs2 w2 (y:= .lst (l.map wD)) rfl) (by simp),q0A];rfl
end Mk
namespace Mk
open Ev
variable {w:Wn}{n:Nat}{ws:List Wn}{ρ:Env}
variable {G:Nat->List D->R D}
theorem q3Y (c:Nat):∀(r:List (List Nat)) (x:List Nat),q2K c (x::r)=x++(r.map (c::·)).flatten
 |[],x=>by simp[q2K]
 |y::r,x=>by show x++c::q2K c (y::r)=_;rw[q3Y c r y];rfl
noncomputable def q2c (n:Nat):List Nat:=thg++32::dg n
noncomputable def wayL (w:Wn):List (List Nat):=(dg w.1++[58])::w.2.map dg
noncomputable def wayT (w:Wn):List Nat:=q2K 32 (wayL w)
noncomputable def q3A (n:Nat) (ws:List Wn):List (List Nat):=q2c n::ws.map wayT
noncomputable def q7H (n:Nat) (ws:List Wn):List Nat:=q2K 10 (q3A n ws)
def SmW (w:Wn):Prop:=w.1<=10/\w.2.length<=10/\∀k∈w.2,k<=10
theorem q83 (w:Wn):wayT w=dg w.1++[58]++(w.2.map λ k=>32::dg k).flatten:=by unfold wayT wayL;rw[q3Y,Q2];rfl
theorem qBk {k c:Nat}(h:k<=10) (hc:c<48):c∉dg k:=λ m=>by have:=qE3 k (by lia) c m;lia
theorem qFr (s:SmW w) {c:Nat}(hc:c<48):∀x∈wayL w,c∉x:=by
 intro x hx;rcases Qh.mp hx with rfl|hx
 ·rw[Qq];rintro (h|h)
  ·exact qBk s.1 hc h
  ·rw[Qu] at h;lia
 ·obtain⟨k,hk,rfl⟩:=Qm.mp hx;exact qBk (s.2.2 k hk) hc
theorem qIO (s:SmW w):wayP num1 (wayT w)=some w:=by unfold wayP wayT;rw[q3V 32 (wayL w) (by unfold wayL;exact List.cons_ne_nil _ _) (qFr s (by lia))];show (if (dg w.1++[58]).getLast? = some 58 then (num1 (dg w.1++[58]).dropLast).bind λ t=>(mapO num1 (w.2.map dg)).map λ l=>(t,l) else none)=_;rw[if_pos List.getLast?_concat,List.dropLast_concat,q19.mpr ⟨s.1,rfl⟩,q5x λ k hk=>q19.mpr ⟨s.2.2 k hk,rfl⟩];rfl
theorem q43 {m:Nat}:∀{l:List (List Nat)},(∀x∈l,x.length<=m)->l.flatten.length<=m*l.length
 |[],_=>by simp
 |x::l,h=>by have h1:=h x Qb;have h2:=q43 (l:=l) λ y hy=>h y (Qa _ hy);rw[Qw,Qj,Qd,Nat.mul_succ];lia
theorem q9G (s:SmW w):(wayT w).length<=3+3*w.2.length:=by
 rw[q83,Qj,Qj];have h1:=q37 w.1 (by have:=s.1;lia);have h2:(w.2.map λ k=>32::dg k).flatten.length<=3*(w.2.map λ k=>32::dg k).length:=q43 λ x hx=>by obtain⟨k,hk,rfl⟩:=Qm.mp hx;have:=q37 k (by have:=s.2.2 k hk;lia);rw[Qd];lia
 rw[Qe] at h2;simp only[Qd,QS];lia
theorem qFs (s:SmW w):10∉wayT w:=by
 rw[q83,Qq,Qq];rintro ((h|h)|h)
 ·exact qBk s.1 (by lia) h
 ·rw[Qu] at h;lia
 ·obtain⟨x,hx,h⟩:=QQ.mp h;obtain⟨k,hk,rfl⟩:=Qm.mp hx;rcases Qh.mp h with h|h
  ·lia
  ·exact qBk (s.2.2 k hk) (by lia) h
theorem qIP:10∉thg:=by decide
theorem qFt (hn:n<=10) (hw:∀w∈ws,SmW w):q1n num1 (q7H n ws)=some (n,ws):=by
 unfold q1n q7H;rw[q3V 10 (q3A n ws) (List.cons_ne_nil _ _) λ x hx=>by
  rcases Qh.mp hx with rfl|hx
  ·unfold q2c;rw[Qq];rintro (h|h)
   ·exact qIP h
   ·rcases Qh.mp h with h|h
    ·lia
    ·exact qBk hn (by lia) h
  ·obtain⟨w,hw',rfl⟩:=Qm.mp hx;exact qFs (hw w hw')]
 show ((countP num1 (q2c n)).bind λ n=>(mapO (wayP num1) (ws.map wayT)).map λ ws=>(n,ws))=_;have:countP num1 (q2c n)=some n:=by show (if thg++[32]=thg++[32] then num1 (dg n) else none)=_;rw[if_pos rfl,q19.mpr ⟨hn,rfl⟩]
 rw[this,q5x λ w h=>qIO (hw w h)];rfl
theorem q7I (hn:n<=10):(q2c n).length<=9:=by have:=q37 n (by lia);unfold q2c thg;rw[Qj,Qd];simp only[Qd,QS];lia
theorem qBl {m:Nat}(hn:n<=10) (hw:∀w∈ws,SmW w/\w.2.length<=m):(q7H n ws).length<=9+(4+3*m)*ws.length:=by
 unfold q7H q3A;rw[q3Y,Qj];have h1:=q7I hn;have h2:((ws.map wayT).map (10::·)).flatten.length<=(4+3*m)*((ws.map wayT).map (10::·)).length:=q43 λ x hx=>by obtain⟨y,hy,rfl⟩:=Qm.mp hx;obtain⟨w,hw',rfl⟩:=Qm.mp hy;have h3:=q9G (hw w hw').1;have h4:=(hw w hw').2;show (wayT w).length+1<=_;lia
 rw[Qe,Qe] at h2;lia
theorem qFu {i:Nat}{a b:D}(hv:ev G subC (.var i) ρ = .ok (.tup [a,b])):ev G subC (.idx (.var i) (.con (.int 0))) ρ = .ok a:=by rw[q1u,hv,q00,q06,q00,idx0]
theorem qFv {i:Nat}{a b:D}(hv:ev G subC (.var i) ρ = .ok (.tup [a,b])):ev G subC (.idx (.var i) (.con (.int 1))) ρ = .ok b:=by rw[q1u,hv,q00,q06,q00,idx1]
theorem comp_map {α:Type}{l:List α}{f g:α->D}{x:L}{it:I}(h1:evi G subC it ρ = .ok (l.map f)) (h2:∀a∈l,ev G subC x (some (.val (f a))::ρ) = .ok (g a)) (hl:l.length<=1000):ev G subC (.comp 0 x it []) ρ = .ok (.lst (l.map g)):=by
 have a2:q0H (ev G subC x) (tsts G subC []) 0 ρ (l.map f) = .ok ((l.filter λ _=>true).map g) :=
  q1f (us:=λ a=>[f a]) λ a ha=>⟨rfl,rfl,λ _=>h2 a ha⟩
 rw[filter_tt] at a2;rw[q20,h1,q00,a2,q2E,q00,if_pos (by rw[Qe,q14];lia)]
theorem evs3 {a b c:L}{x y z:D}(h1:ev G subC a ρ = .ok x) (h2:ev G subC b ρ = .ok y) (h3:ev G subC c ρ = .ok z):evs G subC [a,b,c] ρ = .ok [x,y,z]:=by rw[q0E,h1,q00,evs2 h2 h3,q00]
theorem qIQ (a b:List Nat) (k:Nat) (hk:k<1000) (ha:a.length<=1000) (hb:b.length<=1000):biD subC .fmt [tx a,nI k,tx b] = .ok (tx (a++dg k++b)):=qIJ a b k hk ha hb
theorem qBm (c:Nat) (l:List (List Nat)) (h:l.length<=1000) (h2:∀x∈l,x.length<=900):biD subC .join [tx [c],.lst (l.map tx)] = .ok (tx (q2K c l)):=qFg c l h h2
theorem qFw (l:List (List Nat)) (h:l.length<=1000) (h2:∀x∈l,x.length<=900):biD subC .join [tx [],.lst (l.map tx)] = .ok (tx l.flatten):=qDM l h h2
theorem qIR (k:Nat) (s:SmW w):Gm (k+1) 5 [wD w] = .ok (tx (wayT w)):=by
 rw[q1k k 5 _ 1 2 q18 rfl rfl];have e1:ex (Gm k) subC (.set 1 (.idx (.var 0) (.con (.int 0)))) [some (.val (wD w)),none] = .ok [some (.val (wD w)),some (.val (nI w.1))] .nx:=by rw[q0L,qFu (a:=nI w.1) (b:= .tup (nL w.2)) rfl,q0A];rfl
 have hs:=s.1;have hl:=s.2.1;have c1:ev (Gm k) subC (.lst [(.bi .fmt [(.con (.str (PySem.Str.ofString ""))),(.var 1),(.con (.str (PySem.Str.ofString ":")))])]) [some (.val (wD w)),some (.val (nI w.1))] = .ok (.lst [tx (dg w.1++[58])]) :=
  q12 (evs1 (by rw[q0U,evs3 (x:=tx []) (y:=nI w.1) (z:=tx [58]) rfl rfl rfl,q00,qIQ _ _ _ (by lia) (by simp) (by simp)];rfl)) (by simp)
 have c2:ev (Gm k) subC (.comp 0 (.bi .strI [(.var 0)]) (.e (.idx (.var 0) (.con (.int 1)))) []) [some (.val (wD w)),some (.val (nI w.1))] = .ok (.lst (w.2.map λ k=>tx (dg k))) :=
  comp_map (f:=nI) (by rw[q5V,qFv (a:=nI w.1) (b:= .tup (nL w.2)) rfl,q00];rfl) (λ j hj=>by have:=s.2.2 j hj;rw[q0U,evs1 (x:=nI j) rfl,q00,q4g j (by lia)]) (by lia)
 have c3:ev (Gm k) subC (.op .add (.lst [(.bi .fmt [(.con (.str (PySem.Str.ofString ""))),(.var 1),(.con (.str (PySem.Str.ofString ":")))])]) (.comp 0 (.bi .strI [(.var 0)]) (.e (.idx (.var 0) (.con (.int 1)))) [])) [some (.val (wD w)),some (.val (nI w.1))] = .ok (.lst ((wayL w).map tx)):=by rw[q0P,c1,q00,c2,q00];show (if [tx (dg w.1++[58])].length+(w.2.map λ k=>tx (dg k)).length<=big then R.ok (D.lst _) else .stuck)=_;rw[if_pos (by rw[Qe,q14,Qx];lia),wayL,Qz,Q2];rfl
 refine q0T (ρ:=[some (.val (wD w)),none]) (ρ':=[some (.val (wD w)),some (.val (nI w.1))]) rfl (l:=q18) ?_;show exs (Gm k) subC [_,_] _=_;rw[q01 e1];refine q0J ?_;rw[q1D,q0U,evs2 (x:=tx [32]) rfl c3,q00,qBm 32 _ (by rw[wayL,Qd,Qe];lia) (λ x hx=>by
  rcases Qh.mp hx with rfl|hx
  ·have:=q37 w.1 (by lia);simp;lia
  ·obtain⟨j,hj,rfl⟩:=Qm.mp hx;have:=s.2.2 j hj;have:=q37 j (by lia);lia),q0A];rfl
theorem q7J (hn:n<=10) (hw:∀w∈ws,SmW w):∀x∈q3A n ws,x.length<=900:=λ x hx=>by
 rcases Qh.mp hx with rfl|hx
 ·have:=q7I hn;lia
 ·obtain⟨w,h,rfl⟩:=Qm.mp hx;have:=q9G (hw w h);have:=(hw w h).2.1;lia
theorem qBn (k:Nat) (hk:Gm (k+1) 2 [rD n ws] = .ok .non) (hn:n<=10) (hl:ws.length<=900) (hw:∀w∈ws,SmW w):Gm (k+2) 4 [rD n ws] = .ok (tx (q7H n ws)):=by
 rw[q1k (k+1) 4 _ 1 3 q1d rfl rfl];have e0:ex (Gm (k+1)) subC (.expr (.call 2 [(.var 0)])) [some (.val (rD n ws)),none,none] = .ok [some (.val (rD n ws)),none,none] .nx:=by rw[q2T,q0B,evs1 (x:=rD n ws) rfl,q00,hk,q0A]
 have e1:ex (Gm (k+1)) subC (.set 1 (.idx (.var 0) (.con (.int 0)))) [some (.val (rD n ws)),none,none] = .ok [some (.val (rD n ws)),some (.val (nI n)),none] .nx:=by rw[q0L,qFu (a:=nI n) (b:= .lst (ws.map wD)) rfl,q0A];rfl
 have e2:ex (Gm (k+1)) subC (.setO 2 (.lst [(.bi .fmt [(.con (.str (PySem.Str.ofString "things "))),(.var 1),(.con (.str (PySem.Str.ofString "")))])])) [some (.val (rD n ws)),some (.val (nI n)),none] = .ok [some (.val (rD n ws)),some (.val (nI n)),some (.own (.lst [tx (q2c n)]))] .nx:=by rw[q4B,q12 (ds:=[tx (q2c n)]) (evs1 (by rw[q0U,evs3 (x:=tx (thg++[32])) (y:=nI n) (z:=tx []) rfl rfl rfl,q00,qIQ _ _ _ (by lia) (by decide) (by simp),QB,QN];rfl)) (by simp),q0A];rfl
 have c3:ev (Gm (k+1)) subC (.comp 0 (.call 5 [(.var 0)]) (.e (.idx (.var 0) (.con (.int 1)))) []) [some (.val (rD n ws)),some (.val (nI n)),some (.own (.lst [tx (q2c n)]))] = .ok (.lst (ws.map λ w=>tx (wayT w))) :=
  comp_map (f:=wD) (by rw[q5V,qFv (a:=nI n) (b:= .lst (ws.map wD)) rfl,q00];rfl) (λ w h=>by rw[q0B,evs1 (x:=wD w) rfl,q00,qIR k (hw w h)]) (by lia)
 have e3:ex (Gm (k+1)) subC (.ext 2 (.comp 0 (.call 5 [(.var 0)]) (.e (.idx (.var 0) (.con (.int 1)))) [])) [some (.val (rD n ws)),some (.val (nI n)),some (.own (.lst [tx (q2c n)]))] = .ok [some (.val (rD n ws)),some (.val (nI n)),some (.own (.lst ((q3A n ws).map tx)))] .nx:=by rw[qDc];show ((ev (Gm (k+1)) subC (.comp 0 (.call 5 [(.var 0)]) (.e (.idx (.var 0) (.con (.int 1)))) []) _).go _ _)=_;rw[c3,q0A];dsimp only;rw[if_pos (by rw[Qe,q14,Qx];lia),q3A,Qz,Q2];rfl
 refine q0T (ρ:=[some (.val (rD n ws)),none,none]) (ρ':=[some (.val (rD n ws)),some (.val (nI n)),some (.val (.lst ((q3A n ws).map tx)))]) rfl (l:=q1d) ?_;show exs (Gm (k+1)) subC [_,_,_,_,_] _=_;rw[q01 e0,q01 e1,q01 e2,q01 e3];refine q0J ?_;show ex (Gm (k+1)) subC (.ret (.bi .join [(.con (.str (PySem.Str.ofString "\n"))),(.var 2)])) [some (.val (rD n ws)),some (.val (nI n)),some (.val (.lst ((q3A n ws).map tx)))]=_;rw[q1D,q0U,evs2 (x:=tx [10]) (y:= .lst ((q3A n ws).map tx)) rfl rfl,q00,qBm 10 _ (by rw[q3A,Qd,Qe];lia) (q7J hn hw),q0A];rfl
noncomputable def q84:List S:=[.app 1 (.op .add (.op .add (.bi .strI [(.var 2)]) (.con (.str (PySem.Str.ofString ":")))) (.bi .join [(.con (.str (PySem.Str.ofString ""))),(.comp 0 (.op .add (.con (.str (PySem.Str.ofString " "))) (.bi .strI [(.var 0)])) (.e (.var 3)) [])]))]
theorem qIS (s:Option Sl) (sw:SmW w) (acc:List (List Nat)) (ha:acc.length<=9999):exs G subC q84 [s,some (.own (.lst (acc.map tx))),some (.val (nI w.1)),some (.val (.tup (nL w.2)))] = .ok [s,some (.own (.lst ((acc++[wayT w]).map tx))),some (.val (nI w.1)),some (.val (.tup (nL w.2)))] .nx:=by
 have hs:=sw.1;have hl:=sw.2.1;generalize hρ:[s,some (.own (.lst (acc.map tx))),some (.val (nI w.1)),some (.val (.tup (nL w.2)))]=ρ;have v2:ev G subC (.var 2) ρ = .ok (nI w.1):=by rw[<-hρ];rfl
 have v3:ev G subC (.var 3) ρ = .ok (.tup (nL w.2)):=by rw[<-hρ];rfl
 have h1:=q37 w.1 (by lia);have c1:ev G subC (.op .add (.bi .strI [(.var 2)]) (.con (.str (PySem.Str.ofString ":")))) ρ = .ok (tx (dg w.1++[58])):=by rw[q0P,q0U,evs1 v2,q00,q4g _ (by lia),q00,q06,q00,s_co,q7C _ _ (by simp;lia)]
 have c2:ev G subC (.comp 0 (.op .add (.con (.str (PySem.Str.ofString " "))) (.bi .strI [(.var 0)])) (.e (.var 3)) []) ρ = .ok (.lst (w.2.map λ k=>tx (32::dg k))) :=
  comp_map (f:=nI) (by rw[q5V,v3,q00];rfl) (λ j hj=>by have:=sw.2.2 j hj;have h2:=q37 j (by lia);rw[q0P,q06,q00,q0U,evs1 (x:=nI j) rfl,q00,q4g j (by lia),q00,s_sp,q7C _ _ (by simp;lia)];rfl) (by lia)
 have h3:∀x∈w.2.map (λ k=>32::dg k),x.length<=3:=λ x hx=>by obtain⟨j,hj,rfl⟩:=Qm.mp hx;have:=q37 j (by have:=sw.2.2 j hj;lia);rw[Qd];lia
 have h4:=q43 h3;rw[Qe] at h4;have c3:ev G subC (.bi .join [(.con (.str (PySem.Str.ofString ""))),(.comp 0 (.op .add (.con (.str (PySem.Str.ofString " "))) (.bi .strI [(.var 0)])) (.e (.var 3)) [])]) ρ = .ok (tx (w.2.map λ k=>32::dg k).flatten):=by
  have:(D.lst (w.2.map λ k=>tx (32::dg k))) = .lst ((w.2.map λ k=>32::dg k).map tx):=by rw[Q2];rfl
  rw[q0U,evs2 (x:=tx []) rfl c2,q00,this,qFw _ (by rw[Qe];lia) λ x hx=>by have:=h3 x hx;lia]
 have e:ex G subC (.app 1 (.op .add (.op .add (.bi .strI [(.var 2)]) (.con (.str (PySem.Str.ofString ":")))) (.bi .join [(.con (.str (PySem.Str.ofString ""))),(.comp 0 (.op .add (.con (.str (PySem.Str.ofString " "))) (.bi .strI [(.var 0)])) (.e (.var 3)) [])]))) ρ = .ok (ρ.set 1 (some (.own (.lst ((acc++[wayT w]).map tx))))) .nx:=by rw[q8G,show ρ[1]? = some (some (.own (.lst (acc.map tx)))) by rw[<-hρ];rfl];dsimp only;rw[q0P,c1,q00,c3,q00,q7C _ _ (by rw[Qj,Qx];lia),q0A,if_pos (by rw[Qe,q14];lia),<-q83,Jp];rfl
 rw[q84,q01 e,q1Q,<-hρ];rfl
theorem qBo (s:Option Sl):∀(ws:List Wn) (acc:List (List Nat)) (x y:Option Sl),(∀w∈ws,SmW w)->acc.length+ws.length<=9999->
  ∃x' y',q0m (exs G subC q84) 2 [2,3] (ws.map wD) [s,some (.own (.lst (acc.map tx))),x,y] = .ok [s,some (.own (.lst ((acc++ws.map wayT).map tx))),x',y'] .nx
 |[],acc,x,y,_,_=>⟨x,y,by rw[List.map_nil,List.map_nil,QB];rfl⟩
 |w::ws,acc,x,y,hm,hl=>by have hl:acc.length+(ws.length+1)<=9999:=hl;obtain⟨x',y',ih⟩:=qBo s ws (acc++[wayT w]) (some (.val (nI w.1))) (some (.val (.tup (nL w.2)))) (λ v hv=>hm v (Qa _ hv)) (by simp;lia);refine⟨x',y',?_⟩;show (exs G subC q84 [s,some (.own (.lst (acc.map tx))),some (.val (nI w.1)),some (.val (.tup (nL w.2)))]).turn _=_;rw[qIS s (hm w Qb) acc (by lia),q3F];refine ih.trans ?_;rw[QN];rfl
theorem qIT (k:Nat) (hn:n<=10) (hl:ws.length<=900) (hw:∀w∈ws,SmW w):Gm (k+1) 15 [rD n ws] = .ok (tx (q7H n ws)):=by
 rw[q1k k 15 _ 1 4 q1e rfl rfl];have h1:=q37 n (by lia);have e1:ex (Gm k) subC (.setO 1 (.lst [(.op .add (.con (.str (PySem.Str.ofString "things "))) (.bi .strI [(.idx (.var 0) (.con (.int 0)))]))])) [some (.val (rD n ws)),none,none,none] = .ok [some (.val (rD n ws)),some (.own (.lst ([q2c n].map tx))),none,none] .nx:=by rw[q4B,q12 (ds:=[tx (q2c n)]) (evs1 (by rw[q0P,q06,q00,q0U,evs1 (qFu (a:=nI n) (b:= .lst (ws.map wD)) rfl),q00,q4g _ (by lia),q00,qK3,q7C _ _ (by rw[Qj];show 6+1+_<=_;lia),QN];rfl)) (by simp),q0A];rfl
 obtain⟨x,y,e2⟩:=qBo (G:=Gm k) (some (.val (rD n ws))) ws [q2c n] none none hw (by simp;lia);have f:ex (Gm k) subC (.forr 2 [2,3] (.e (.idx (.var 0) (.con (.int 1)))) q84) [some (.val (rD n ws)),some (.own (.lst ([q2c n].map tx))),none,none]=q0m (exs (Gm k) subC q84) 2 [2,3] (ws.map wD) [some (.val (rD n ws)),some (.own (.lst ([q2c n].map tx))),none,none]:=by rw[q3I,q5V,qFv (a:=nI n) (b:= .lst (ws.map wD)) rfl,q00];rfl
 have hb:q1e=[.setO 1 (.lst [(.op .add (.con (.str (PySem.Str.ofString "things "))) (.bi .strI [(.idx (.var 0) (.con (.int 0)))]))]),.forr 2 [2,3] (.e (.idx (.var 0) (.con (.int 1)))) q84,.fz 1 (.ret (.bi .join [(.con (.str (PySem.Str.ofString "\n"))),(.var 1)]))]:=rfl;refine q0T (ρ:=[some (.val (rD n ws)),none,none,none]) (ρ':=[some (.val (rD n ws)),some (.val (.lst ((q3A n ws).map tx))),x,y]) rfl (l:=q1e) ?_;rw[hb,q01 e1,q01 (f.trans e2)];refine q0J ?_;show ex (Gm k) subC (.ret (.bi .join [(.con (.str (PySem.Str.ofString "\n"))),(.var 1)])) [some (.val (rD n ws)),some (.val (.lst ((q3A n ws).map tx))),x,y]=_;rw[q1D,q0U,evs2 (x:=tx [10]) (y:= .lst ((q3A n ws).map tx)) rfl rfl,q00,qBm 10 _ (by rw[q3A,Qd,Qe];lia) (q7J hn hw),q0A];rfl
end Mk
namespace Mk
open Ev
variable {r x:List Nat}{n:Nat}{ws:List Wn}
variable {G:Nat->List D->R D}
theorem qFx {w:List Nat}{k:Nat}(h:num1 w=some k):num2 w=some k:=by obtain⟨h1,h2⟩:=q19.mp h;exact q42.mpr ⟨by lia,h2⟩
theorem qFy {w:List Nat}{k:Nat}(h:num2 w=some k) (hk:k<=10):num1 w=some k:=q19.mpr ⟨hk,(q42.mp h).2⟩
theorem qIU {w:Wn}(h:wayP num1 r=some w):wayP num2 r=some w:=by
 unfold wayP at h |-;split at h
 ·cases h
 ·rename_i v vs e;split at h
  ·rename_i c;rw[if_pos c];obtain⟨t,h1,h2⟩:=oB h;obtain⟨l,h3,h4⟩:=oM h2;rw[qFx h1,Q7,q4h (λ _ _=>qFx) h3,QT,h4]
  ·cases h
theorem qIV {w:Wn}(h:wayP num2 r=some w) (h1:w.1<=10) (h2:∀k∈w.2,k<=10):wayP num1 r=some w:=by
 unfold wayP at h |-;split at h
 ·cases h
 ·rename_i v vs e;split at h
  ·rename_i c;rw[if_pos c];obtain⟨t,h3,h4⟩:=oB h;obtain⟨l,h5,h6⟩:=oM h4;subst h6;rw[qFy h3 h1,Q7,q4i (Q:=λ k=>k<=10) (λ _ _=>qFy) h5 h2,QT]
  ·cases h
theorem qDQ (h:countP num1 r=some n):countP num2 r=some n:=by
 unfold countP at h |-;split at h
 ·rename_i c;rw[if_pos c,qFx h]
 ·cases h
theorem qDR (h:countP num2 r=some n) (hn:n<=10):countP num1 r=some n:=by
 unfold countP at h |-;split at h
 ·rename_i c;rw[if_pos c,qFy h hn]
 ·cases h
theorem qBp {p:Nat×List Wn}(h:q1n num1 x=some p):q1n num2 x=some p:=by
 unfold q1n at h |-;split at h
 ·cases h
 ·rename_i r rs e;obtain⟨n,h1,h2⟩:=oB h;obtain⟨l,h3,h4⟩:=oM h2;rw[qDQ h1,Q7,q4h (λ _ _=>qIU) h3,QT,h4]
theorem qBq (h:OkR n ws):n<=10/\∀w∈ws,w.1<=10/\∀k∈w.2,k<=10:=by
 have hn:n<=10:=by have:=h.1.2;lia
 refine⟨hn,λ w hw=>?_⟩;have:=Qs.mp h.2.1 (toW w) (Qm.mpr ⟨w,hw,rfl⟩);obtain⟨h1,h2,_⟩:=qDE.mp this;exact⟨by lia,λ k hk=>by have:=h2.2 k hk;lia⟩
theorem qFz (h:q1n num2 x=some (n,ws)) (ok:OkR n ws):q1n num1 x=some (n,ws):=by
 obtain⟨hn,hw⟩:=qBq ok;unfold q1n at h |-;split at h
 ·cases h
 ·rename_i r rs e;obtain⟨m,h1,h2⟩:=oB h;obtain⟨l,h3,h4⟩:=oM h2;cases h4;rw[qDR h1 hn,Q7,q4i (Q:=λ w=>w.1<=10/\∀k∈w.2,k<=10) (λ _ _ a b=>qIV a b.1 b.2) h3 hw,QT]
theorem qIW (k:Nat) (hl:ws.length<=1300):(OkR n ws->Gm (k+5) 18 [rD n ws] = .ok (.bl true))/\(¬OkR n ws->Gm (k+5) 18 [rD n ws] = .ok (.bl false)):=by
 rw[q1k (k+4) 18 _ 1 3 q0c rfl rfl];have e1:ex (Gm (k+4)) subC (.set 1 (.con .non)) [some (.val (rD n ws)),none,none] = .ok [some (.val (rD n ws)),some (.val .non),none] .nx:=rfl;constructor
 ·intro ok;have b:exs (Gm (k+4)) subC [.expr (.call 2 [(.var 0)])] [some (.val (rD n ws)),some (.val .non),none] = .ok [some (.val (rD n ws)),some (.val .non),none] .nx:=by rw[q0k,q2T,q0B,evs1 (x:=rD n ws) rfl,q00,q9F k hl ok];rfl
  refine q0T (ρ:=[some (.val (rD n ws)),none,none]) (ρ':=[some (.val (rD n ws)),some (.val .non),none]) rfl (l:=q0c) ?_;show exs (Gm (k+4)) subC [_,_,_] _=_;rw[q01 e1,q01 (by rw[q4C,b])];exact q0J rfl
 ·intro ok;have b:exs (Gm (k+4)) subC [.expr (.call 2 [(.var 0)])] [some (.val (rD n ws)),some (.val .non),none] = .err 1 [some (.val (rD n ws)),some (.val .non),none]:=by rw[q0k,q2T,q0B,evs1 (x:=rD n ws) rfl,q00,q82 k hl ok];rfl
  have e2:ex (Gm (k+4)) subC (.tryE [.expr (.call 2 [(.var 0)])] 1 2 1) [some (.val (rD n ws)),some (.val .non),none] = .ok [some (.val (rD n ws)),some (.val (.exc 1)),none] .nx:=by rw[q4C,b];rfl
  refine q0T (ρ:=[some (.val (rD n ws)),none,none]) (ρ':=[some (.val (rD n ws)),some (.val (.exc 1)),none]) rfl (l:=q0c) ?_;show exs (Gm (k+4)) subC [_,_,_] _=_;rw[q01 e1,q01 e2];exact q0J rfl
def Ans (G:Nat->List D->R D) (x:List Nat):Prop :=
 (∃m vs,G 6 [tx x] = .ok (rD m vs)/\G 17 [tx x] = .ok (rD m vs)/\G 18 [rD m vs] = .ok (.bl true))\/
 (G 6 [tx x] = .err 5/\(G 17 [tx x] = .ok .non\/∃m vs,G 17 [tx x] = .ok (rD m vs)/\G 18 [rD m vs] = .ok (.bl false)))
theorem ans (k:Nat) (h:x.length<=1290):Ans (Gm (k+5)) x:=by
 have t:=qFq (k+3) h;cases q:q1n num2 x with
 |none =>
  rw[q] at t;refine .inr ⟨q7G k h ?_,.inl t⟩;cases p:q1n num1 x with
  |none=>rfl
  |some r=>rw[qBp p] at q;cases q
 |some p =>
  obtain⟨n,ws⟩:=p;rw[q] at t;have hl:ws.length<=1300:=by have:=q7E q;lia
  by_cases ok:OkR n ws
  ·exact .inl ⟨n,ws,(q4k k h (qFz q ok)).1 ok,t,(qIW k hl).1 ok⟩
  ·refine .inr ⟨?_,.inr ⟨n,ws,t,(qIW k hl).2 ok⟩⟩;cases p:q1n num1 x with
   |none=>exact q7G k h p
   |some r =>
    have:=qBp p;rw[q] at this;cases this;exact (q4k k h p).2 ok
theorem qG0 (g:Good n ws):OkR n ws:=by have:=g.n5;refine⟨⟨by lia,by lia⟩,?_,g.rise⟩;rw[List.all_map];exact Qs.mpr λ w hw=>g.ok w hw
theorem q9n (g:Good n ws):∀w∈ws,SmW w/\w.2.length<=5:=λ w hw=>by have h5:=g.n5;obtain⟨h1,h2,_⟩:=qDE.mp (g.ok w hw);have h3:=q95 n w.2 (h2.1.imp λ h=>by lia) h2.2;exact⟨⟨by lia,by lia,λ k hk=>by have:=h2.2 k hk;lia⟩,by lia⟩
theorem qIX:¬OkR 1 [(0,[0])]:=λ h=>by have:=Qs.mp h.2.1 (toW (0,[0])) (by simp);exact (qDE.mp this).2.2 (by simp)
theorem q85 (k:Nat):Gm (k+5) 4 [rD 1 [(0,[0])]] = .err 1:=by rw[q1k (k+4) 4 _ 1 3 q1d rfl rfl];refine q1T (ρ:=[some (.val (rD 1 [(0,[0])])),none,none]) (ρ':=[some (.val (rD 1 [(0,[0])])),none,none]) rfl (l:=q1d) ?_;show exs (Gm (k+4)) subC [_,_,_,_,_] _=_;refine q1S ?_;rw[q2T,q0B,evs1 (x:=rD 1 [(0,[0])]) rfl,q00,q82 k (by simp) qIX,qGf]
end Mk
namespace Mk
open Ev
variable {ρ:Env}{a b:L}
variable {G:Nat->List D->R D}
theorem q7K (G:Nat->List D->R D):Ev.run G subC 2 q0g [.exc 5] = .ok (.str (PySem.Str.ofString "text")):=by kernel_rfl
noncomputable def qDS:D:= .str (PySem.Str.ofString "text")
theorem qIY (k:Nat):Gm (k+1) 14 [.exc 5] = .ok qDS:=(q1k k 14 [.exc 5] 1 2 q0g rfl rfl).trans (q7K _)
noncomputable def q86:L:= .sl 0 (.var 2) [] [(.var 5)]
noncomputable def qG1:L:= .sl 0 (.var 2) [(.var 5)] []
noncomputable def qBr:L:= .sl 0 (.var 2) [(.op .add (.var 5) (.con (.int 1)))] []
noncomputable def qBs:List S:=[.set 4 (.call 11 [(.var 0),(.op .add (.con (.int 101)) (.var 3))]),.set 5 (.op .mod (.op .fdiv (.var 4) (.con (.int 8))) (.op .add (.bi .len [(.var 2)]) (.con (.int 1)))),.set 6 (.idx (.con (.str (PySem.Str.ofString "012 :\nths49-"))) (.op .mod (.op .fdiv (.var 4) (.con (.int 4096))) (.con (.int 12)))),
 .set 7 (.lst [(.op .add (.op .add q86 (.var 6)) qG1),(.op .add (.op .add q86 (.var 6)) qBr),(.op .add q86 qBr)]),.set 2 (.idx (.var 7) (.op .mod (.var 4) (.con (.int 3))))]
noncomputable def sgn:List Nat:=[48,49,50,32,58,10,116,104,115,52,57,45]
theorem qG2 (j:Nat) (h:j<12):∃c,idxD (.str (PySem.Str.ofString "012 :\nths49-")) (nI j) = .ok (tx [c]):=by
 have e:idxD (.str (PySem.Str.ofString "012 :\nths49-")) (nI j)=nth (sgn.map λ c=>tx [c]) (j:Int):=rfl;obtain⟨c,hc⟩:∃c,sgn[j]? = some c:=⟨sgn[j]'h,Qi h⟩
 refine⟨c,?_⟩;rw[e,nth,if_pos (by lia),Int.toNat_natCast,Qn,hc];rfl
theorem qIZ {w:List Nat}(hw:w.length<=100000) (hv:ev G subC a ρ = .ok (tx w)) {j:Nat}(hj:ev G subC b ρ = .ok (nI j)):ev G subC (.sl 0 a [] [b]) ρ = .ok (tx (w.take j)):=by rw[q4o,hv,q00,q0R,q00,evs1 hj,q00];show slD 0 none (some (j:Int)) (tx w)=_;rw[q9m _ _ _ (by lia),qE5]
theorem q9H {w:List Nat}(hw:w.length<=100000) (hv:ev G subC a ρ = .ok (tx w)) {j:Nat}(hj:ev G subC b ρ = .ok (nI j)):ev G subC (.sl 0 a [b] []) ρ = .ok (tx (w.drop j)):=by rw[q4o,hv,q00,evs1 hj,q00,q0R,q00];show slD 0 (some (j:Int)) none (tx w)=_;rw[q9m _ _ _ (by lia),qE6]
theorem idx3 (a b c:D) (N:Nat):idxD (.lst [a,b,c]) (nI (N % 3)) = .ok (if N % 3=0 then a else if N % 3=1 then b else c):=by
 have:N % 3<3:=Jk _ (by decide)
 match h:N % 3,this with
 |0,_=>rfl
 |1,_=>rfl
 |2,_=>rfl
theorem q3B {x y:List Nat}(h1:ev G subC a ρ = .ok (tx x)) (h2:ev G subC b ρ = .ok (tx y)) (h:x.length+y.length<=1000000):ev G subC (.op .add a b) ρ = .ok (tx (x++y)):=by rw[q0P,h1,q00,h2,q00,q7C _ _ h]
theorem qG3 {s r:D}(hm:∀i,∃N,G 11 [s,nI i] = .ok (nI N)) {x:List Nat}(hx:x.length<=90000) (j:Nat) (a b c d e f g h:Option Sl) :
  ∃x' a' b' c' d',x'.length<=x.length+1/\exs G subC qBs [some (.val s),some (.val r),some (.val (tx x)),some (.val (nI j)),a,b,c,d,e,f,g,h] = .ok [some (.val s),some (.val r),some (.val (tx x')),some (.val (nI j)),a',b',c',d',e,f,g,h] .nx:=by
 obtain⟨N,hN⟩:=hm (101+j);obtain⟨o,ho⟩:=qG2 (N / 4096 % 12) (Jk _ (by decide));generalize hp:N / 8 % (x.length+1)=p;have hp1:p<=x.length:=by have:=Jk (N / 8) (Nat.succ_pos x.length);lia
 have e1:ex G subC (.set 4 (.call 11 [(.var 0),(.op .add (.con (.int 101)) (.var 3))])) [some (.val s),some (.val r),some (.val (tx x)),some (.val (nI j)),a,b,c,d,e,f,g,h] = .ok [some (.val s),some (.val r),some (.val (tx x)),some (.val (nI j)),some (.val (nI N)),b,c,d,e,f,g,h] .nx:=by rw[q0L,q1m (x:=s) (y:=nI (101+j)) rfl (by rw[q0P,q06,q00,show ev G subC (.var 3) [some (.val s),some (.val r),some (.val (tx x)),some (.val (nI j)),a,b,c,d,e,f,g,h] = .ok (nI j) from rfl,q00];exact add_n 101 j) hN,q0A];rfl
 have e2:ex G subC (.set 5 (.op .mod (.op .fdiv (.var 4) (.con (.int 8))) (.op .add (.bi .len [(.var 2)]) (.con (.int 1))))) [some (.val s),some (.val r),some (.val (tx x)),some (.val (nI j)),some (.val (nI N)),b,c,d,e,f,g,h] = .ok [some (.val s),some (.val r),some (.val (tx x)),some (.val (nI j)),some (.val (nI N)),some (.val (nI p)),c,d,e,f,g,h] .nx:=by have v4:ev G subC (.var 4) [some (.val s),some (.val r),some (.val (tx x)),some (.val (nI j)),some (.val (nI N)),b,c,d,e,f,g,h] = .ok (nI N):=rfl;have v2:ev G subC (.var 2) [some (.val s),some (.val r),some (.val (tx x)),some (.val (nI j)),some (.val (nI N)),b,c,d,e,f,g,h] = .ok (tx x):=rfl;have h1:opD .fdiv (nI N) (.int 8) = .ok (nI (N / 8)):=q8H N 8 (by lia) (by lia);have h2:opD .add (nI x.length) (.int 1) = .ok (nI (x.length+1)):=add_n x.length 1;rw[q0L,q0P,q0P,v4,q00,q06,q00,h1,q00,q0P,q0U,evs1 v2,q00,qE7,q00,q06,q00,h2,q00,q6M _ _ (Nat.succ_pos _),hp,q0A];rfl
 have e3:ex G subC (.set 6 (.idx (.con (.str (PySem.Str.ofString "012 :\nths49-"))) (.op .mod (.op .fdiv (.var 4) (.con (.int 4096))) (.con (.int 12))))) [some (.val s),some (.val r),some (.val (tx x)),some (.val (nI j)),some (.val (nI N)),some (.val (nI p)),c,d,e,f,g,h] = .ok [some (.val s),some (.val r),some (.val (tx x)),some (.val (nI j)),some (.val (nI N)),some (.val (nI p)),some (.val (tx [o])),d,e,f,g,h] .nx:=by have v4:ev G subC (.var 4) [some (.val s),some (.val r),some (.val (tx x)),some (.val (nI j)),some (.val (nI N)),some (.val (nI p)),c,d,e,f,g,h] = .ok (nI N):=rfl;have h1:opD .fdiv (nI N) (.int 4096) = .ok (nI (N / 4096)):=q8H N 4096 (by lia) (by lia);have h2:opD .mod (nI (N / 4096)) (.int 12) = .ok (nI (N / 4096 % 12)):=q6M _ 12 (by lia);rw[q0L,q1u,q06,q00,q0P,q0P,v4,q00,q06,q00,h1,q00,q06,q00,h2,q00,ho,q0A];rfl
 generalize hρ:[some (Sl.val s),some (.val r),some (.val (tx x)),some (.val (nI j)),some (.val (nI N)),some (.val (nI p)),some (.val (tx [o])),d,e,f,g,h]=ρ at e3;have v2:ev G subC (.var 2) ρ = .ok (tx x):=by rw[<-hρ];rfl
 have v5:ev G subC (.var 5) ρ = .ok (nI p):=by rw[<-hρ];rfl
 have v6:ev G subC (.var 6) ρ = .ok (tx [o]):=by rw[<-hρ];rfl
 have v51:ev G subC (.op .add (.var 5) (.con (.int 1))) ρ = .ok (nI (p+1)):=by rw[q0P,v5,q00,q06,q00];exact add_n p 1
 have cp:ev G subC q86 ρ = .ok (tx (x.take p)):=qIZ (by lia) v2 v5;have cq:ev G subC qG1 ρ = .ok (tx (x.drop p)):=q9H (by lia) v2 v5;have cr:ev G subC qBr ρ = .ok (tx (x.drop (p+1))):=q9H (by lia) v2 v51;have lp:(x.take p).length=p:=by rw[Je];lia
 have lq:(x.drop p).length=x.length-p:=QZ;have lr:(x.drop (p+1)).length=x.length-(p+1):=QZ;have d0:=q3B cp v6 (by rw[lp,Qx];lia);have d1:=q3B d0 cq (by rw[Qj,lp,lq,Qx];lia);have d2:=q3B d0 cr (by rw[Qj,lp,lr,Qx];lia);have d3:=q3B cp cr (by rw[lp,lr];lia);have e4:ex G subC (.set 7 (.lst [(.op .add (.op .add q86 (.var 6)) qG1),(.op .add (.op .add q86 (.var 6)) qBr),(.op .add q86 qBr)])) ρ = .ok (ρ.set 7 (some (.val (.lst [tx (x.take p++[o]++x.drop p),tx (x.take p++[o]++x.drop (p+1)),tx (x.take p++x.drop (p+1))])))) .nx:=by rw[q0L,q12 (evs3 d1 d2 d3) (by simp),q0A]
 have hx':∃x',x'.length<=x.length+1/\(if N % 3=0 then tx (x.take p++[o]++x.drop p) else if N % 3=1 then tx (x.take p++[o]++x.drop (p+1)) else tx (x.take p++x.drop (p+1)))=tx x':=by
  split
  ·exact⟨_,by rw[Qj,Qj,lp,lq,Qx];lia,rfl⟩
  ·split
   ·exact⟨_,by rw[Qj,Qj,lp,lr,Qx];lia,rfl⟩
   ·exact⟨_,by rw[Qj,lp,lr];lia,rfl⟩
 obtain⟨x',hl,hx'⟩:=hx';refine⟨x',some (.val (nI N)),some (.val (nI p)),some (.val (tx [o])),some (.val (.lst [tx (x.take p++[o]++x.drop p),tx (x.take p++[o]++x.drop (p+1)),tx (x.take p++x.drop (p+1))])),hl,?_⟩;have e5:ex G subC (.set 2 (.idx (.var 7) (.op .mod (.var 4) (.con (.int 3))))) (ρ.set 7 (some (.val (.lst [tx (x.take p++[o]++x.drop p),tx (x.take p++[o]++x.drop (p+1)),tx (x.take p++x.drop (p+1))])))) = .ok ((ρ.set 7 (some (.val (.lst [tx (x.take p++[o]++x.drop p),tx (x.take p++[o]++x.drop (p+1)),tx (x.take p++x.drop (p+1))])))).set 2 (some (.val (tx x')))) .nx:=by
  have v7:ev G subC (.var 7) (ρ.set 7 (some (.val (.lst [tx (x.take p++[o]++x.drop p),tx (x.take p++[o]++x.drop (p+1)),tx (x.take p++x.drop (p+1))])))) = .ok (.lst [tx (x.take p++[o]++x.drop p),tx (x.take p++[o]++x.drop (p+1)),tx (x.take p++x.drop (p+1))]):=by rw[<-hρ];rfl
  have v4:ev G subC (.var 4) (ρ.set 7 (some (.val (.lst [tx (x.take p++[o]++x.drop p),tx (x.take p++[o]++x.drop (p+1)),tx (x.take p++x.drop (p+1))])))) = .ok (nI N):=by rw[<-hρ];rfl
  have h3:opD .mod (nI N) (.int 3) = .ok (nI (N % 3)):=q6M _ 3 (by lia);rw[q0L,q1u,v7,q00,q0P,v4,q00,q06,q00,h3,q00,idx3,hx',q0A]
 rw[qBs,q01 e1,q01 e2];refine (q01 e3).trans ?_;rw[q01 e4,q01 e5,q1Q,<-hρ];rfl
theorem qBt {s r:D}(hm:∀i,∃N,G 11 [s,nI i] = .ok (nI N)) (e f g h:Option Sl):∀(js:List Nat) (x:List Nat) (y a b c d:Option Sl),x.length+js.length<=90000->
  ∃x' y' a' b' c' d',x'.length<=x.length+js.length/\q0m (exs G subC qBs) 0 [3] (nL js) [some (.val s),some (.val r),some (.val (tx x)),y,a,b,c,d,e,f,g,h] = .ok [some (.val s),some (.val r),some (.val (tx x')),y',a',b',c',d',e,f,g,h] .nx
 |[],x,y,a,b,c,d,_=>⟨x,y,a,b,c,d,by simp,rfl⟩
 |j::js,x,y,a,b,c,d,hl=>by have hl:x.length+(js.length+1)<=90000:=hl;obtain⟨x1,a1,b1,c1,d1,h1,h2⟩:=qG3 (r:=r) hm (x:=x) (by lia) j a b c d e f g h;obtain⟨x',y',a',b',c',d',h3,h4⟩:=qBt (r:=r) hm e f g h js x1 (some (.val (nI j))) a1 b1 c1 d1 (by lia);refine⟨x',y',a',b',c',d',by rw[Qd];lia,?_⟩;show (exs G subC qBs [some (.val s),some (.val r),some (.val (tx x)),some (.val (nI j)),a,b,c,d,e,f,g,h]).turn _=_;rw[h2,q3F];exact h4
structure LawT (G:Nat->List D->R D) (s:D) (n:Nat) (ws:List Wn) (T:List Nat):Prop where
 rules:G 13 [s,nI 0,nI 5] = .ok (rD n ws)
 text:G 15 [rD n ws] = .ok (tx T)
 writ:G 4 [rD n ws] = .ok (tx T)
 read:G 6 [tx T] = .ok (rD n ws)
 mix:∀i,∃N,G 11 [s,nI i] = .ok (nI N)
 len:T.length<=1280
 ans:∀x:List Nat,x.length<=1290->Ans G x
 ref5:G 14 [.exc 5] = .ok qDS
 ref1:G 14 [.exc 1] = .ok q98
 bad:G 4 [rD 1 [(0,[0])]] = .err 1
noncomputable def qIa:S:= .ifs (.or (.e (.cm .ne (.call 4 [(.var 1)]) (.var 2))) (.e (.cm .ne (.call 6 [(.var 2)]) (.var 1)))) [.ret (.con (.bl false))] []
noncomputable def qG4:S:= .forr 0 [3] (.rng [(.op .add (.con (.int 1)) (.op .mod (.call 11 [(.var 0),(.con (.int 100))]) (.con (.int 2))))]) qBs
noncomputable def q9o:S:= .tryE [.set 9 (.call 6 [(.var 2)])] 0 10 8
noncomputable def q9p:T:= .and (.e (.cm .notN (.var 11) (.con .non))) (.e (.call 18 [(.var 11)]))
noncomputable def qBu:S:= .ifs q9p [.ret (.and (.cm .isN (.var 8) (.con .non)) (.cm .eq (.var 9) (.var 11)))] []
noncomputable def qBv:S:= .ifs (.e (.cm .ne (.call 14 [(.var 8)]) (.con (.str (PySem.Str.ofString "text"))))) [.ret (.con (.bl false))] []
noncomputable def q9I:S:= .tryE [.expr (.call 4 [(.tup [(.con (.int 1)),(.lst [(.tup [(.con (.int 0)),(.tup [(.con (.int 0))])])])])])] 0 10 8
theorem qIb:q9i=[.set 1 (.call 13 [(.var 0),(.con (.int 0)),(.con (.int 5))]),.set 2 (.call 15 [(.var 1)]),qIa,qG4,.set 8 (.con .non),.set 9 (.con .non),q9o,.set 11 (.call 17 [(.var 2)]),qBu,qBv,.set 8 (.con .non),q9I,.ret (.cm .eq (.call 14 [(.var 8)]) (.con (.str (PySem.Str.ofString "rules"))))]:=rfl
theorem qDT {s:D}{n:Nat}{ws:List Wn}{T:List Nat}(H:LawT G s n ws T):Ev.run G subC 12 q9i [s] = .ok (.bl true):=by
 have s1:ex G subC (.set 1 (.call 13 [(.var 0),(.con (.int 0)),(.con (.int 5))])) [some (.val s),none,none,none,none,none,none,none,none,none,none,none] = .ok [some (.val s),some (.val (rD n ws)),none,none,none,none,none,none,none,none,none,none] .nx:=by rw[q0L,qDK (x:=s) (y:=nI 0) (z:=nI 5) rfl rfl rfl H.rules,q0A];rfl
 have s2:ex G subC (.set 2 (.call 15 [(.var 1)])) [some (.val s),some (.val (rD n ws)),none,none,none,none,none,none,none,none,none,none] = .ok [some (.val s),some (.val (rD n ws)),some (.val (tx T)),none,none,none,none,none,none,none,none,none] .nx:=by rw[q0L,q0B,evs1 (x:=rD n ws) rfl,q00,H.text,q0A];rfl
 have s3:ex G subC qIa [some (.val s),some (.val (rD n ws)),some (.val (tx T)),none,none,none,none,none,none,none,none,none] = .ok [some (.val s),some (.val (rD n ws)),some (.val (tx T)),none,none,none,none,none,none,none,none,none] .nx :=
  q5v (qIH (q0d (q0i (x:=tx T) (y:=tx T) (by rw[q0B,evs1 (x:=rD n ws) rfl,q00,H.writ]) rfl (by rw[q9l,decide_eq_true rfl];rfl)))
   (q0d (q0i (x:=rD n ws) (y:=rD n ws) (by rw[q0B,evs1 (x:=tx T) rfl,q00,H.read]) rfl (qBX (pl_r n ws) (qIG n ws)))))
 obtain⟨N,hN⟩:=H.mix 100;have hlen:=H.len;have hN2:N % 2<2:=Jk _ (by decide);obtain⟨x,y4,a4,b4,c4,d4,hx,h4⟩:=qBt (r:=rD n ws) H.mix none none none none (Qp (1+N % 2)) T none none none none none (by rw[QW];lia);rw[QW] at hx;have s4:ex G subC qG4 [some (.val s),some (.val (rD n ws)),some (.val (tx T)),none,none,none,none,none,none,none,none,none] = .ok [some (.val s),some (.val (rD n ws)),some (.val (tx x)),y4,a4,b4,c4,d4,none,none,none,none] .nx:=by
  have c1:ev G subC (.op .add (.con (.int 1)) (.op .mod (.call 11 [(.var 0),(.con (.int 100))]) (.con (.int 2)))) [some (.val s),some (.val (rD n ws)),some (.val (tx T)),none,none,none,none,none,none,none,none,none] = .ok (nI (1+N % 2)):=by have h2:opD .mod (nI N) (.int 2) = .ok (nI (N % 2)):=q6M _ 2 (by lia);rw[q0P,q06,q00,q0P,q1m (x:=s) (y:=nI 100) rfl rfl hN,q00,q06,q00,h2,q00];exact add_n 1 _
  rw[qG4,q3I,q21,evs1 c1,q00,q4w _ (by lia),q0A,h4]
 have s5:ex G subC (.set 8 (.con .non)) [some (.val s),some (.val (rD n ws)),some (.val (tx x)),y4,a4,b4,c4,d4,none,none,none,none] = .ok [some (.val s),some (.val (rD n ws)),some (.val (tx x)),y4,a4,b4,c4,d4,some (.val .non),none,none,none] .nx:=rfl;have s6:ex G subC (.set 9 (.con .non)) [some (.val s),some (.val (rD n ws)),some (.val (tx x)),y4,a4,b4,c4,d4,some (.val .non),none,none,none] = .ok [some (.val s),some (.val (rD n ws)),some (.val (tx x)),y4,a4,b4,c4,d4,some (.val .non),some (.val .non),none,none] .nx:=rfl;have pre:∀(ρ:Env) (d:D),exs G subC [q9o,.set 11 (.call 17 [(.var 2)]),qBu,qBv,.set 8 (.con .non),q9I,.ret (.cm .eq (.call 14 [(.var 8)]) (.con (.str (PySem.Str.ofString "rules"))))] [some (.val s),some (.val (rD n ws)),some (.val (tx x)),y4,a4,b4,c4,d4,some (.val .non),some (.val .non),none,none] = .ok ρ (.ret d)->Ev.run G subC 12 q9i [s] = .ok d:=by intro ρ d h;refine q0T (ρ:=[some (.val s),none,none,none,none,none,none,none,none,none,none,none]) (ρ':=ρ) rfl ?_;rw[qIb,q01 s1,q01 s2,q01 s3,q01 s4,q01 s5,q01 s6];exact h
 rcases H.ans x (by lia) with ⟨m,vs,h6,h17,h18⟩|⟨h6,h17⟩
 ·have b7:exs G subC [.set 9 (.call 6 [(.var 2)])] [some (.val s),some (.val (rD n ws)),some (.val (tx x)),y4,a4,b4,c4,d4,some (.val .non),some (.val .non),none,none] = .ok [some (.val s),some (.val (rD n ws)),some (.val (tx x)),y4,a4,b4,c4,d4,some (.val .non),some (.val (rD m vs)),none,none] .nx:=by rw[q0k,q0L,q0B,evs1 (x:=tx x) rfl,q00,h6];rfl
  have s7:ex G subC q9o [some (.val s),some (.val (rD n ws)),some (.val (tx x)),y4,a4,b4,c4,d4,some (.val .non),some (.val .non),none,none] = .ok [some (.val s),some (.val (rD n ws)),some (.val (tx x)),y4,a4,b4,c4,d4,some (.val .non),some (.val (rD m vs)),none,none] .nx:=by rw[q9o,q4C,b7]
  have s8:ex G subC (.set 11 (.call 17 [(.var 2)])) [some (.val s),some (.val (rD n ws)),some (.val (tx x)),y4,a4,b4,c4,d4,some (.val .non),some (.val (rD m vs)),none,none] = .ok [some (.val s),some (.val (rD n ws)),some (.val (tx x)),y4,a4,b4,c4,d4,some (.val .non),some (.val (rD m vs)),none,some (.val (rD m vs))] .nx:=by rw[q0L,q0B,evs1 (x:=tx x) rfl,q00,h17,q0A];rfl
  generalize hρ:[some (Sl.val s),some (.val (rD n ws)),some (.val (tx x)),y4,a4,b4,c4,d4,some (.val .non),some (.val (rD m vs)),none,some (.val (rD m vs))]=ρ at s8;have v11:ev G subC (.var 11) ρ = .ok (rD m vs):=by rw[<-hρ];rfl
  have v9:ev G subC (.var 9) ρ = .ok (rD m vs):=by rw[<-hρ];rfl
  have v8:ev G subC (.var 8) ρ = .ok .non:=by rw[<-hρ];rfl
  have t9:tst G subC q9p ρ = .ok true:=by rw[q9p,q5W,q0d (b:=true) (q0i (y:= .non) v11 rfl rfl),q00,if_pos rfl];exact q0d (by rw[q0B,evs1 v11,q00,h18])
  have s9:ex G subC qBu ρ = .ok ρ (.ret (.bl true)):=by rw[qBu,q1v,t9,q0A,if_pos rfl];refine q0J ?_;rw[q1D,qDb,q0i (r:= .ok (.bl true)) (y:= .non) v8 (b:= .con .non) rfl rfl,q00];show (ev G subC (.cm .eq (.var 9) (.var 11)) ρ).go ρ _=_;rw[q0i v9 v11 (qBY (pl_r m vs) (qIG m vs)),q0A]
  refine pre ρ _ ?_;rw[q01 s7];refine (q01 s8).trans ?_;exact q0J s9
 ·have b7:exs G subC [.set 9 (.call 6 [(.var 2)])] [some (.val s),some (.val (rD n ws)),some (.val (tx x)),y4,a4,b4,c4,d4,some (.val .non),some (.val .non),none,none] = .err 5 [some (.val s),some (.val (rD n ws)),some (.val (tx x)),y4,a4,b4,c4,d4,some (.val .non),some (.val .non),none,none]:=by rw[q0k,q0L,q0B,evs1 (x:=tx x) rfl,q00,h6];rfl
  have s7:ex G subC q9o [some (.val s),some (.val (rD n ws)),some (.val (tx x)),y4,a4,b4,c4,d4,some (.val .non),some (.val .non),none,none] = .ok [some (.val s),some (.val (rD n ws)),some (.val (tx x)),y4,a4,b4,c4,d4,some (.val (.exc 5)),some (.val .non),none,none] .nx:=by rw[q9o,q4C,b7];rfl
  obtain⟨t,h17,ht⟩:∃t,G 17 [tx x] = .ok t/\∀ρ,ev G subC (.var 11) ρ = .ok t->tst G subC q9p ρ = .ok false:=by
   rcases h17 with h|⟨m,vs,h,h18⟩
   ·refine⟨.non,h,λ ρ v=>?_⟩;rw[q9p,q5W,q0d (b:=false) (q0i (y:= .non) v rfl rfl),q00,if_neg (by simp)]
   ·refine⟨rD m vs,h,λ ρ v=>?_⟩;rw[q9p,q5W,q0d (b:=true) (q0i (y:= .non) v rfl rfl),q00,if_pos rfl];exact q0d (by rw[q0B,evs1 v,q00,h18])
  have s8:ex G subC (.set 11 (.call 17 [(.var 2)])) [some (.val s),some (.val (rD n ws)),some (.val (tx x)),y4,a4,b4,c4,d4,some (.val (.exc 5)),some (.val .non),none,none] = .ok [some (.val s),some (.val (rD n ws)),some (.val (tx x)),y4,a4,b4,c4,d4,some (.val (.exc 5)),some (.val .non),none,some (.val t)] .nx:=by rw[q0L,q0B,evs1 (x:=tx x) rfl,q00,h17,q0A];rfl
  have s9:ex G subC qBu [some (.val s),some (.val (rD n ws)),some (.val (tx x)),y4,a4,b4,c4,d4,some (.val (.exc 5)),some (.val .non),none,some (.val t)] = .ok [some (.val s),some (.val (rD n ws)),some (.val (tx x)),y4,a4,b4,c4,d4,some (.val (.exc 5)),some (.val .non),none,some (.val t)] .nx:=q5v (ht _ rfl);have s10:ex G subC qBv [some (.val s),some (.val (rD n ws)),some (.val (tx x)),y4,a4,b4,c4,d4,some (.val (.exc 5)),some (.val .non),none,some (.val t)] = .ok [some (.val s),some (.val (rD n ws)),some (.val (tx x)),y4,a4,b4,c4,d4,some (.val (.exc 5)),some (.val .non),none,some (.val t)] .nx :=
   q5v (q0d (q0i (x:=qDS) (y:=qDS) (by rw[q0B,evs1 (x:= .exc 5) rfl,q00,H.ref5]) rfl (qBX rfl (qII _))))
  have s11:ex G subC (.set 8 (.con .non)) [some (.val s),some (.val (rD n ws)),some (.val (tx x)),y4,a4,b4,c4,d4,some (.val (.exc 5)),some (.val .non),none,some (.val t)] = .ok [some (.val s),some (.val (rD n ws)),some (.val (tx x)),y4,a4,b4,c4,d4,some (.val .non),some (.val .non),none,some (.val t)] .nx:=rfl;generalize hρ:[some (Sl.val s),some (.val (rD n ws)),some (.val (tx x)),y4,a4,b4,c4,d4,some (.val .non),some (.val .non),none,some (.val t)]=ρ at s11;have b12:exs G subC [.expr (.call 4 [(.tup [(.con (.int 1)),(.lst [(.tup [(.con (.int 0)),(.tup [(.con (.int 0))])])])])])] ρ = .err 1 ρ:=by
   have c:ev G subC (.tup [(.con (.int 1)),(.lst [(.tup [(.con (.int 0)),(.tup [(.con (.int 0))])])])]) ρ = .ok (rD 1 [(0,[0])]) :=
    q1l (evs2 (x:=nI 1) rfl (q12 (evs1 (q1l (evs2 (x:=nI 0) rfl (q1l (evs1 (x:=nI 0) rfl) (by simp))) (by simp))) (by simp))) (by simp)
   rw[q0k,q2T,q0B,evs1 c,q00,H.bad];rfl
  have s12:ex G subC q9I ρ = .ok ((ρ.set 8 (some (.val (.exc 1)))).set 10 none) .nx:=by rw[q9I,q4C,b12];rfl
  have v8:ev G subC (.var 8) ((ρ.set 8 (some (.val (.exc 1)))).set 10 none) = .ok (.exc 1):=by rw[<-hρ];rfl
  have s13:ex G subC (.ret (.cm .eq (.call 14 [(.var 8)]) (.con (.str (PySem.Str.ofString "rules"))))) ((ρ.set 8 (some (.val (.exc 1)))).set 10 none) = .ok ((ρ.set 8 (some (.val (.exc 1)))).set 10 none) (.ret (.bl true)):=by rw[q1D,q0i (x:=q98) (y:=q98) (by rw[q0B,evs1 v8,q00,H.ref1]) rfl (qBY rfl (qII _)),q0A]
  refine pre ((ρ.set 8 (some (.val (.exc 1)))).set 10 none) _ ?_;rw[q01 s7,q01 s8,q01 s9,q01 s10];refine (q01 s11).trans ?_;rw[q01 s12];exact q0J s13
theorem qK8 (zs:List Int):∃n ws T,LawT (Gm 11) (.lst (iL zs)) n ws T:=by
 obtain⟨n,ws,_,g,_,h⟩:=qDJ 7 0 (M:=5) (by lia) zs;have h5:=g.n5;have h60:=g.len;have hs:=q9n g;have hl:=qBl (n:=n) (m:=5) (ws:=ws) (by lia) hs;have hl:(q7H n ws).length<=1280:=by lia
 refine⟨n,ws,q7H n ws,h,qIT 10 (by lia) (by lia) λ w hw=>(hs w hw).1,qBn 9 (qBV g 6) (by lia) (by lia) λ w hw=>(hs w hw).1,?_,λ i=>qFd 9 zs i,hl,λ x hx=>ans 6 hx,qIY 10,qIC 10,q85 6⟩;exact (q4k 6 (by lia) (qFt (by lia) λ w hw=>(hs w hw).1)).1 (qG0 g)
theorem qIc (zs:List Int):Gm 12 19 [.lst (zs.map D.int)] = .ok (.bl true):=by obtain⟨n,ws,T,H⟩:=qK8 zs;exact (q1k 11 19 _ 1 12 q9i rfl rfl).trans (qDT H)
end Mk
namespace Tk
open PySem PySem.W L2 Ev Snd
noncomputable def top (i:Nat):Stmt:=PySem.Challenge.pw_learnyard_k60_texts.main.body.getD i (.Pass ⟨0,0,0,0⟩)
noncomputable def q3Z:DefI:=⟨"is_whole",top 10,["value"],["value"],[],[],Mk.q2I⟩
noncomputable def q62:DefI:=⟨"is_set",top 11,["count", "things", "ahead", "thing"],["count", "things"],[],[],Mk.q94⟩
noncomputable def q29:DefI:=⟨"look_rules",top 12,["rules", "count", "ways", "way", "place"],["rules"],[],[],Mk.q3j⟩
noncomputable def q3a:DefI:=⟨"look_way",top 13,["count", "way", "thing", "needed"],["count", "way"],[],[],Mk.q0p⟩
noncomputable def q4m:DefI:=⟨"written",top 15,["rules", "count", "rows"],["rules"],["rows"],[],Mk.q1d⟩
noncomputable def q1o:DefI:=⟨"written_way",top 16,["way", "thing"],["way"],[],[],Mk.q18⟩
noncomputable def qBw:DefI:=⟨"read",top 17,["text", "rows", "rules"],["text"],[],[],Mk.q4e⟩
noncomputable def q2A:DefI:=⟨"read_count",top 18,["row", "words"],["row"],[],[],Mk.q0b⟩
noncomputable def q3b:DefI:=⟨"read_way",top 19,["row", "words", "needed"],["row"],[],[],Mk.q0y⟩
noncomputable def q1p:DefI:=⟨"read_number",top 20,["word", "known"],["word"],[],[],Mk.q0s⟩
noncomputable def q2d:DefI:=⟨"_law_cell",top 22,["_law_script", "_law_k"],["_law_script", "_law_k"],[],[],Mk.q1A⟩
noncomputable def q3c:DefI:=⟨"_law_mix",top 23,["_law_script", "_law_k", "_law_number"],["_law_script", "_law_k"],[],[],Mk.q27⟩
noncomputable def q1q:DefI:=⟨"_law_subset",top 24,["_law_script", "_law_k", "_law_things", "_law_number"],["_law_script", "_law_k", "_law_things"],[],[],Mk.q1O⟩
noncomputable def q2B:DefI:=⟨"_law_rules",top 25,["_law_script", "_law_k", "_law_most", "_law_many", "_law_found", "_law_thing", "_law_others", "_law_j", "_law_needed"],["_law_script", "_law_k", "_law_most"],["_law_found"],[],Mk.q1H⟩
noncomputable def q1U:DefI:=⟨"_law_refusal",top 26,["_law_kept", "_law_kinds"],["_law_kept"],[],[],Mk.q0g⟩
noncomputable def q2e:DefI:=⟨"_law_text",top 27,["_law_rules_here", "_law_rows", "_law_thing", "_law_needed"],["_law_rules_here"],["_law_rows"],[],Mk.q1e⟩
noncomputable def q1V:DefI:=⟨"_law_numbers",top 28,["_law_words", "_law_found", "_law_word"],["_law_words"],["_law_found"],[],Mk.q0h⟩
noncomputable def q2C:DefI:=⟨"_law_tried",top 29,["_law_text_here", "_law_rows", "_law_many", "_law_ways", "_law_row", "_law_words", "_law_thing", "_law_needed"],["_law_text_here"],["_law_ways"],[],Mk.q0n⟩
noncomputable def q13:DefI:=⟨"_law_are_rules",top 30,["_law_tried_here", "_law_kept", "e"],["_law_tried_here"],[],[],Mk.q0c⟩
noncomputable def qDU:DefI:=⟨"law",top 31,["_law_script", "_law_rules_here", "_law_text_here", "_law_k", "_law_number", "_law_at", "_law_one", "_law_some", "_law_kept", "_law_found", "e", "_law_tried_here"],["_law_script"],[],[],Mk.q9i⟩
noncomputable def tx:TxtI:={ds:=[q3Z,q62,q29,q3a,q4m,q1o,qBw,q2A,q3b,q1p,q2d,q3c,q1q,q2B,q1U,q2e,q1V,q2C,q13,qDU],consts:=[("MOST_THINGS",.int 10),("MOST_WAYS",.int 1300)],excs:=["LearnError", "BadRules", "BadState", "Unlike", "BadNumber", "BadText"],sub:=Mk.subC}
local macro_rules|`(tactic| k_data)=>`(tactic| exact⟨⟨rfl,rfl,rfl,by decide +kernel,rfl,by decide +kernel,by decide +kernel⟩,by kernel_rfl,λ _ _ _ _ _ _ us hl=>by first|(obtain⟨a,e⟩:=qJm hl;subst e;rfl)|(obtain⟨a,b,e⟩:=qJn hl;subst e;rfl)|(obtain⟨a,b,c,e⟩:=qJo hl;subst e;rfl)|(obtain⟨a,b,c,d,e⟩:=len_4 hl;subst e;rfl)⟩)
theorem q9q:DefOk tx q3Z:=by k_data
theorem qDV:DefOk tx q62:=by k_data
theorem q7L:DefOk tx q29:=by k_data
theorem q9r:DefOk tx q3a:=by k_data
theorem qBx:DefOk tx q4m:=by k_data
theorem q63:DefOk tx q1o:=by k_data
theorem qId:DefOk tx qBw:=by k_data
theorem q7M:DefOk tx q2A:=by k_data
theorem q9s:DefOk tx q3b:=by k_data
theorem q64:DefOk tx q1p:=by k_data
theorem q87:DefOk tx q2d:=by k_data
theorem q9t:DefOk tx q3c:=by k_data
theorem q65:DefOk tx q1q:=by k_data
theorem q7N:DefOk tx q2B:=by k_data
theorem q4r:DefOk tx q1U:=by k_data
theorem q88:DefOk tx q2e:=by k_data
theorem q4s:DefOk tx q1V:=by k_data
theorem q7O:DefOk tx q2C:=by k_data
theorem q3n:DefOk tx q13:=by k_data
theorem o_law:DefOk tx qDU:=by k_data
theorem qG5:∀d∈tx.ds,DefOk tx d:=by simp only[tx,Q9];exact⟨q9q,qDV,q7L,q9r,qBx,q63,qId,q7M,q9s,q64,q87,q9t,q65,q7N,q4r,q88,q4s,q7O,q3n,o_law,λ _ h=>absurd h List.not_mem_nil⟩
theorem qK9:Mk.dsM=tx.ds.map λ d=>(d.ps.length,d.N.length,d.l):=rfl
theorem qIe:∀k:Nat,Snd.Gk tx k=Mk.Gm k
 |0=>rfl
 |k+1=>by
  funext f xs;rw[Snd.Gk,Mk.Gm,qK9,Qn,qIe k];cases tx.ds[f]? with
  |none=>rfl
  |some d=>rfl
theorem qKA (ns:List Int) (_:ns.length<=63):Snd.Gk tx 12 19 [.lst (ns.map Ev.D.int)] = .ok (.bl true):=by rw[qIe];exact Mk.qIc ns
end Tk
namespace Tk
open PySem PySem.W L2 Ev Snd
theorem q3C {α:Type}{P:Nat->Prop}{l:List α}{x:α}{c:Nat}(h:l[c]? = some x) (hl:l.length=6) (h0:c=0->P 0) (h1:c=1->P 1) (h2:c=2->P 2) (h3:c=3->P 3) (h4:c=4->P 4) (h5:c=5->P 5):P c:=by
 have hc:c<6:=by rw[<-hl];exact (Qc.mp h).1
 match c,hc with
 |0,_=>exact h0 rfl
 |1,_=>exact h1 rfl
 |2,_=>exact h2 rfl
 |3,_=>exact h3 rfl
 |4,_=>exact h4 rfl
 |5,_=>exact h5 rfl
theorem txt {K:PySem.W.Frag}{C0 C1 C2 C3 C4 C5:Addr}{t0 t1:Tok}(hf:∀d∈tx.ds,FnIn K d.name d.st) (hb:∀x∈q08,nsIn K mainGlobals x=some none)
  (k0:nsIn K mainGlobals "MOST_THINGS" = some (some (.int 10 t0)))
  (k1:nsIn K mainGlobals "MOST_WAYS" = some (some (.int 1300 t1)))
  (e0:ExcI K "LearnError" C0)
  (e1:ExcI K "BadRules" C1)
  (e2:ExcI K "BadState" C2)
  (e3:ExcI K "Unlike" C3)
  (e4:ExcI K "BadNumber" C4)
  (e5:ExcI K "BadText" C5)
  (hs:∀(e c:Nat) (Ce Cc:Addr),[C0,C1,C2,C3,C4,C5][e]? = some Ce->[C0,C1,C2,C3,C4,C5][c]? = some Cc->exmOne K (.ref Ce) (.ref Cc)=some (Mk.subC e c)/\kitOne K (.ref Ce) (.ref Cc)=some (Mk.subC e c)):TxtOk K tx ⟨K,[C0,C1,C2,C3,C4,C5]⟩:=by
 refine⟨rfl,λ j d h=>⟨qG5 d (Qk h),hf d (Qk h)⟩,hb,λ x d h=>?_,λ c x h=>?_,λ c C h=>?_,hs⟩
 ·have h:List.lookup x [(("MOST_THINGS":Str),(D.int 10)),(("MOST_WAYS":Str),(D.int 1300))]=some d:=h;rw[QF] at h;split at h
  ·rename_i hx;cases h;cases beq_iff_eq.mp hx;exact⟨_,_,rfl,k0⟩
  rw[QF] at h;split at h
  ·rename_i hx;cases h;cases beq_iff_eq.mp hx;exact⟨_,_,rfl,k1⟩
  cases h
 ·refine q3C (P:=λ c=>∃C,[C0,C1,C2,C3,C4,C5][c]? = some C/\ExcI K x C) h rfl (λ z=>by subst z;cases h;exact⟨_,rfl,e0⟩) (λ z=>by subst z;cases h;exact⟨_,rfl,e1⟩) (λ z=>by subst z;cases h;exact⟨_,rfl,e2⟩) (λ z=>by subst z;cases h;exact⟨_,rfl,e3⟩) (λ z=>by subst z;cases h;exact⟨_,rfl,e4⟩) (λ z=>by subst z;cases h;exact⟨_,rfl,e5⟩)
 ·refine q3C (P:=λ c=>∃x,tx.excs[c]? = some x/\ExcI K x C) h rfl (λ z=>by subst z;cases h;exact⟨_,rfl,e0⟩) (λ z=>by subst z;cases h;exact⟨_,rfl,e1⟩) (λ z=>by subst z;cases h;exact⟨_,rfl,e2⟩) (λ z=>by subst z;cases h;exact⟨_,rfl,e3⟩) (λ z=>by subst z;cases h;exact⟨_,rfl,e4⟩) (λ z=>by subst z;cases h;exact⟨_,rfl,e5⟩)
end Tk
open PySem PySem.W PyProof.Rows L2 Ev Snd
namespace Tk
theorem qG6 {p q:Program}{loose:List Str}{Xt:Shared->Bool}{α:Type}{Yf:Shared->α}{Ya:World->α}{N:Nat}{g0:Bool}{H₀:Params->Heap}{gs₀:Array GenState}{d₀:Drawn}{k₀:Nat}(op:∀w:World,(fencedOpening treeTable p w N).map (λ s=>(s.heap,s.gens,s.drawn,s.toks))=some (H₀ w.params,gs₀,d₀,k₀))
  (run:∀(w:World) (os:OsState),(topFrom treeTable p w N ⟨H₀ w.params,gs₀,d₀,k₀,os⟩).map (λ s=>(openSeen q loose (importedModules p.main.body) Xt g0 s,Yf s))=some (openGood q loose,Ya w)):LeftO p q loose Xt Yf Ya N g0:=λ w=>by
 obtain⟨⟨h,gs,d,k,os⟩,e,e'⟩:=QO.mp (op w);obtain⟨rfl,rfl,rfl,rfl⟩:h=H₀ w.params/\gs=gs₀/\d=d₀/\k=k₀:=by simpa using e'
 unfold openEnds;rw[e];exact run w os
noncomputable def qIf:List Str:=(PySem.Challenge.pw_learnyard_k60_texts.main.scope.names.map (·.1)).filter (· != "law")
noncomputable def qP:Program:=view PySem.Challenge.pw_learnyard_k60_texts [PySem.Challenge.pw_learnyard_k60_texts.main.body.length-1]
set_option maxRecDepth 100000 in
theorem qKB:PySem.Challenge.rw_learnyard_k60_texts.wellSaid=true:=by rw[Fast.te9446332074065402090];kernel_rfl
end Tk
local macro_rules|`(tactic| o_head $H)=>`(tactic| refine holds_open (q:=Tk.qP) (loose:=Tk.qIf) (Xt:=λ s=>xlAt Tk.qP [] s&&recOk (RowW.records (OpenRow.toRowW (OpenLaw.row PySem.Challenge.rw_learnyard_k60_texts))) s) (XP:=XL Tk.qP []) (Yf:=Hook.obs $H) (Ya:=Hook.val $H) (YP:=Hook.says $H) (N:=9000) ?hl (Hook.of $H) (Hook.keeps $H) (λ s e=>xl_of s (Bool.and_eq_true_iff.mp e).1) XL.keeps (by rfl) (by rfl) (by rfl) (λ s e=>recFacts_of (Bool.and_eq_true_iff.mp e).2) (by rfl) (by assumption) (by decide +kernel) ⟨rfl,rfl,rfl,rfl,rfl,by decide +kernel⟩ ?hw ?hc)
set_option maxRecDepth 100000 in
set_option maxHeartbeats 0 in
theorem PySem.Challenge.cw_learnyard_k60_texts_holds : PySem.Challenge.rw_learnyard_k60_texts.Holds := by
 w_on
 refine holds_law Tk.qKB λ said=>?_
 k_head
 case hl =>
  refine Tk.qG6 (boot_open (by kernel_rfl) (by kernel_rfl) (λ s=>by kernel_rfl)) λ w os=>?_
  unfold topFrom
  rw[Fast.te14082659384304107361,Fast.te14364793385576792824,Fast.te4187177175401517315]
  kernel_rfl
 (case hw=>w_witness2)
 k_fill
 refine Snd.walk (l:=PySem.Challenge.rw_learnyard_k60_texts) (x := "_law_script") 12 rfl rfl ⟨rfl,by decide,by decide⟩ (λ w h Y=>PySem.W.kIn_of Y) ?F
 case F =>
  intro w mg fa h KX G hmg
  have b_len:nsIn (L2.KOf KX) mainGlobals "len" = some none:=by dsimp only[L2.KOf];k_is
  have b_sorted:nsIn (L2.KOf KX) mainGlobals "sorted" = some none:=by dsimp only[L2.KOf];k_is
  have b_tuple:nsIn (L2.KOf KX) mainGlobals "tuple" = some none:=by dsimp only[L2.KOf];k_is
  have b_list:nsIn (L2.KOf KX) mainGlobals "list" = some none:=by dsimp only[L2.KOf];k_is
  have b_sum:nsIn (L2.KOf KX) mainGlobals "sum" = some none:=by dsimp only[L2.KOf];k_is
  have b_all:nsIn (L2.KOf KX) mainGlobals "all" = some none:=by dsimp only[L2.KOf];k_is
  have b_int:nsIn (L2.KOf KX) mainGlobals "int" = some none:=by dsimp only[L2.KOf];k_is
  have b_abs:nsIn (L2.KOf KX) mainGlobals "abs" = some none:=by dsimp only[L2.KOf];k_is
  have b_range:nsIn (L2.KOf KX) mainGlobals "range" = some none:=by dsimp only[L2.KOf];k_is
  have b_isinstance:nsIn (L2.KOf KX) mainGlobals "isinstance" = some none:=by dsimp only[L2.KOf];k_is
  have b_set:nsIn (L2.KOf KX) mainGlobals "set" = some none:=by dsimp only[L2.KOf];k_is
  have b_bool:nsIn (L2.KOf KX) mainGlobals "bool" = some none:=by dsimp only[L2.KOf];k_is
  have b_ValueError:nsIn (L2.KOf KX) mainGlobals "ValueError" = some none:=by dsimp only[L2.KOf];k_is
  have b_min:nsIn (L2.KOf KX) mainGlobals "min" = some none:=by dsimp only[L2.KOf];k_is
  have b_max:nsIn (L2.KOf KX) mainGlobals "max" = some none:=by dsimp only[L2.KOf];k_is
  have b_any:nsIn (L2.KOf KX) mainGlobals "any" = some none:=by dsimp only[L2.KOf];k_is
  have b_str:nsIn (L2.KOf KX) mainGlobals "str" = some none:=by dsimp only[L2.KOf];k_is
  have F:∀d∈Tk.tx.ds,FnIn (L2.KOf KX) d.name d.st:=by
   dsimp only[L2.KOf]
   simp only[Tk.tx,Q9,Tk.q3Z,Tk.q62,Tk.q29,Tk.q3a,Tk.q4m,Tk.q1o,Tk.qBw,Tk.q2A,Tk.q3b,Tk.q1p,Tk.q2d,Tk.q3c,Tk.q1q,Tk.q2B,Tk.q1U,Tk.q2e,Tk.q1V,Tk.q2C,Tk.q13,Tk.qDU]
   refine' ⟨?_,?_,?_,?_,?_,?_,?_,?_,?_,?_,?_,?_,?_,?_,?_,?_,?_,?_,?_,?_,λ _ z=>absurd z List.not_mem_nil⟩<;>(refine' qFF ?a ?l ?c ?k;(case a=>k_is);(case l=>k_is);(case c=>k_is);(case k=>k_is))
  have T:∃p,TxtOk (L2.KOf KX) Tk.tx p:=by
   dsimp only[L2.KOf]
   refine' ⟨_,Tk.txt (t0:=289) (t1:=291) (λ d h=>by simpa only [L2.KOf] using F d h) ?hb ?zk0 ?zk1 ⟨?za0,?zx0,⟨?zg0,?zh0,?zb0,?zo0,?zs0,?zt0,?zm0,?zc0⟩,?zv0⟩ ⟨?za1,?zx1,⟨?zg1,?zh1,?zb1,?zo1,?zs1,?zt1,?zm1,?zc1⟩,?zv1⟩ ⟨?za2,?zx2,⟨?zg2,?zh2,?zb2,?zo2,?zs2,?zt2,?zm2,?zc2⟩,?zv2⟩ ⟨?za3,?zx3,⟨?zg3,?zh3,?zb3,?zo3,?zs3,?zt3,?zm3,?zc3⟩,?zv3⟩ ⟨?za4,?zx4,⟨?zg4,?zh4,?zb4,?zo4,?zs4,?zt4,?zm4,?zc4⟩,?zv4⟩ ⟨?za5,?zx5,⟨?zg5,?zh5,?zb5,?zo5,?zs5,?zt5,?zm5,?zc5⟩,?zv5⟩ ?hs⟩
   (case za0=>k_is);(case zx0=>k_exc);(case zg0=>k_is);(case zh0=>k_is);(case zb0=>k_is);(case zo0=>k_is);(case zs0=>k_is);(case zt0=>k_is);(case zm0=>k_is);(case zc0=>k_is);(case zv0=>kit_is)
   (case za1=>k_is);(case zx1=>k_exc);(case zg1=>k_is);(case zh1=>k_is);(case zb1=>k_is);(case zo1=>k_is);(case zs1=>k_is);(case zt1=>k_is);(case zm1=>k_is);(case zc1=>k_is);(case zv1=>kit_is)
   (case za2=>k_is);(case zx2=>k_exc);(case zg2=>k_is);(case zh2=>k_is);(case zb2=>k_is);(case zo2=>k_is);(case zs2=>k_is);(case zt2=>k_is);(case zm2=>k_is);(case zc2=>k_is);(case zv2=>kit_is)
   (case za3=>k_is);(case zx3=>k_exc);(case zg3=>k_is);(case zh3=>k_is);(case zb3=>k_is);(case zo3=>k_is);(case zs3=>k_is);(case zt3=>k_is);(case zm3=>k_is);(case zc3=>k_is);(case zv3=>kit_is)
   (case za4=>k_is);(case zx4=>k_exc);(case zg4=>k_is);(case zh4=>k_is);(case zb4=>k_is);(case zo4=>k_is);(case zs4=>k_is);(case zt4=>k_is);(case zm4=>k_is);(case zc4=>k_is);(case zv4=>kit_is)
   (case za5=>k_is);(case zx5=>k_exc);(case zg5=>k_is);(case zh5=>k_is);(case zb5=>k_is);(case zo5=>k_is);(case zs5=>k_is);(case zt5=>k_is);(case zm5=>k_is);(case zc5=>k_is);(case zv5=>kit_is)
   (case hs =>
    intro e c Ce Cc h1 h2
    refine Tk.q3C (P:=λ e=>exmOne _ (.ref Ce) (.ref Cc)=some (Mk.subC e c)/\kitOne _ (.ref Ce) (.ref Cc)=some (Mk.subC e c)) h1 rfl ?_ ?_ ?_ ?_ ?_ ?_<;>
    (intro z;subst z;cases h1;refine Tk.q3C (P:=λ c=>exmOne _ _ (.ref Cc)=some (Mk.subC _ c)/\kitOne _ _ (.ref Cc)=some (Mk.subC _ c)) h2 rfl ?_ ?_ ?_ ?_ ?_ ?_<;>(intro z;subst z;cases h2;refine⟨?_,?_⟩;kts_exm;kit_is)))
   (case zk0=>kernel_rfl)
   (case zk1=>kernel_rfl)
   (case hb=>simp only[q08,Q9];exact⟨b_len,b_sorted,b_tuple,b_list,b_sum,b_all,b_int,b_abs,b_range,b_isinstance,b_set,b_bool,b_ValueError,b_min,b_max,b_any,b_str,λ _ z=>absurd z List.not_mem_nil⟩)
  obtain⟨p,T⟩:=T
  obtain⟨fd,hb,hF⟩:=Snd.qI0 (l:=PySem.Challenge.rw_learnyard_k60_texts) (w:=w) (j:=19) (d:=Tk.qDU) (x := "_law_script") Snd.sset T KX G rfl rfl hmg 12
  exact⟨fd,hb,λ base kb nb=>(hF base kb nb).imp (Snd.qBD T.pk Tk.qKA)⟩
