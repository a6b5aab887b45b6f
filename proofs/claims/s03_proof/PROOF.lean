import PyProof.Rows.All
import Wide.All
import OpenK.AllK
import Wide.FinOn
import KE.OsHead
import KE.OsGo
import PyProof.EqAt
import PyProof.EqKinds
import PyProof.TupleCall
import KE.BitLaws
import Open.SpecLaws
import PyProof.Rows.BitMore
import Ql28Neutral
import PyQl28
import PySem.Challenge.RW_condwords_s03_arm_interrupt
set_option Elab.async false
set_option linter.all false
section
set_option Elab.async false
set_option linter.all false
set_option maxRecDepth 100000
set_option maxHeartbeats 0
open PySem PySem.W PyProof.Rows
local macro_rules | `(tactic| o_law)=>`(tactic| skip)
local macro_rules | `(tactic| k_head)=>`(tactic| k_headS)
local macro_rules | `(tactic| w_witness2)=>`(tactic| exact ⟨[.int 0,.list [.int 0,.int 0,.int 0,.int 0,.int 0,.int 0,.int 0,.int 0,.int 0,.int 0,.int 0,.int 0,.int 0,.int 0,.int 0,.int 0,.int 0,.int 0,.int 0,.int 0,.int 0,.int 0,.int 0,.int 0,.int 0,.int 0,.int 0,.int 0,.int 0,.int 0,.int 0,.int 0,.int 0,.int 16,.int 0,.int 0,.int 0,.int 0,.int 0],.list [],.list []],by decide +kernel,by decide +kernel⟩)
open_top hd for PySem.Challenge.rw_condwords_s03_arm_interrupt
end

set_option maxRecDepth 100000
namespace L2
open PySem PySem.Spec PyProof.Rows
abbrev Key:=Sum Int Str
def fN:Key→Value→Bool
 | .inl k,v=>Value.isInt k v
 | .inr x,v=>Value.isStrOf x v
def aGi (w:World):Key→Int
 | .inl k=>hashInt k
 | .inr x=>hashStr w x
theorem dF:∀{k:Key} {v:Value},fN k v=true→(∃i t,k=Sum.inl i∧v=Value.int i t)∨(∃x t,k=Sum.inr x∧v=Value.str x t)
 | .inl i,v,h=>by
  obtain ⟨t,e⟩:=Value.isInt_shape (k:=i) (v:=v) h
  exact .inl ⟨i,t,rfl,e⟩
 | .inr x,v,h=>by
  obtain ⟨t,e⟩:=Value.isStrOf_shape (x:=x) (v:=v) h
  exact .inr ⟨x,t,rfl,e⟩
theorem aGw (i:Int) (t:Tok):fN (.inl i) (.int i t)=true:=by simp [fN,Value.isInt]
theorem aBc (x:Str) (t:Tok):fN (.inr x) (.str x t)=true:=by simp [fN,Value.isStrOf]
theorem aCa (a b:Int):decide ((Sum.inl a:Key)=Sum.inl b)=(a==b):=by
 by_cases e:a=b
 ·subst e;simp
 ·have h:¬(Sum.inl a:Key)=Sum.inl b:=fun q=>e (Sum.inl.inj q)
  rw[decide_eq_false h]
  exact (beq_eq_false_iff_ne.mpr e).symm
theorem zX (a b:Str):decide ((Sum.inr a:Key)=Sum.inr b)=decide (a=b):=by
 by_cases e:a=b
 ·subst e;simp
 ·have h:¬(Sum.inr a:Key)=Sum.inr b:=fun q=>e (Sum.inr.inj q)
  rw[decide_eq_false h,decide_eq_false e]
theorem aA6 (a:Int) (b:Str):decide ((Sum.inl a:Key)=Sum.inr b)=false:=decide_eq_false (fun q=>nomatch q)
theorem aDj (a:Str) (b:Int):decide ((Sum.inr a:Key)=Sum.inl b)=false:=decide_eq_false (fun q=>nomatch q)
def aX (prog:Program) (w:World):PySem.KeyKind prog w Key where
 is:=fN
 hash:=aGi w
 inj:=fun v a b ha hb=>by
  rcases dF ha with ⟨i,t,rfl,rfl⟩ | ⟨x,t,rfl,rfl⟩
  ·rcases dF hb with ⟨j,u,rfl,e⟩ | ⟨y,u,rfl,e⟩
   ·injection e with e1 _;rw[e1]
   ·exact nomatch e
  ·rcases dF hb with ⟨j,u,rfl,e⟩ | ⟨y,u,rfl,e⟩
   ·exact nomatch e
   ·injection e with e1 _;rw[e1]
 byValue:=fun k v h=>by
  rcases dF h with ⟨i,t,rfl,rfl⟩ | ⟨x,t,rfl,rfl⟩<;>rfl
 pyHash:=fun hv h=>by
  rcases dF hv with ⟨i,t,rfl,rfl⟩ | ⟨x,t,rfl,rfl⟩
  ·exact wpAny_pyHash_int h
  ·exact wpAny_pyHash_str h
 eqBool:=fun hu hv h=>by
  rcases dF hu with ⟨i,t,rfl,rfl⟩ | ⟨x,t,rfl,rfl⟩
  ·rcases dF hv with ⟨j,u,rfl,rfl⟩ | ⟨y,u,rfl,rfl⟩
   ·rw[aCa] at h;exact wpAny_eqBool_int h
   ·rw[aA6] at h;exact SeqAt.EqAt.int_str i t y u _ _ _ _ h
  ·rcases dF hv with ⟨j,u,rfl,rfl⟩ | ⟨y,u,rfl,rfl⟩
   ·rw[aDj] at h;exact SeqAt.EqAt.str_int x t j u _ _ _ _ h
   ·rw[zX] at h;exact wpAny_eqBool_str h
 «strs»:=fun k x t v h=>by
  rcases dF h with ⟨i,u,rfl,e⟩ | ⟨y,u,rfl,e⟩
  ·exact nomatch e
  ·injection e with e1 _
   subst e1
   cases v<;>rfl
theorem xJ (prog:Program) (w:World) (i:Int) (t:Tok):(aX prog w).is (.inl i) (.int i t)=true:=aGw i t
theorem aGt (prog:Program) (w:World) (x:Str) (t:Tok):(aX prog w).is (.inr x) (.str x t)=true:=aBc x t
end L2
namespace L2
open PySem PySem.Spec PyProof.Rows
inductive V where
 | non | bl (b:Bool) | int (i:Int) | str (x:Str) | byt (b:Array UInt8) | flt (b:UInt64) | ref (a:Addr) | ty (n:String)
 deriving DecidableEq
def RelV:V→Value→Prop
 | .non,u=>u=Value.none
 | .bl b,u=>u=Value.bool b
 | .int i,u=>∃t,u=Value.int i t
 | .str x,u=>∃t,u=Value.str x t
 | .byt b,u=>∃t,u=Value.bytes b t
 | .flt b,u=>∃t,u=Value.float b t
 | .ref a,u=>u=Value.ref a
 | .ty n,u=>u=Value.type n
abbrev Vals:List V→List Value→Prop:=Paired RelV
theorem Vals.length {xs:List V} {us:List Value} (r:Vals xs us):xs.length=us.length:=Paired.length r
theorem Vals.get:∀{xs:List V} {us:List Value} {i:Nat} {x:V},Vals xs us→xs[i]?=some x→∃u,us[i]?=some u∧RelV x u
 | _,_,_,_,.nil,e=>by simp at e
 | _,_,0,_,.cons r _,e=>by simp at e;subst e;exact ⟨_,rfl,r⟩
 | _,_,i+1,x,.cons _ t,e=>by
  obtain ⟨u,h1,h2⟩:=Vals.get (i:=i) (x:=x) t (by simpa using e)
  exact ⟨u,by simpa using h1,h2⟩
theorem Vals.set {x:V} {u:Value} (r:RelV x u):∀{xs:List V} {us:List Value} (i:Nat),Vals xs us→Vals (xs.set i x) (us.set i u)
 | _,_,_,.nil=>.nil
 | _,_,0,.cons _ t=>.cons r t
 | _,_,i+1,.cons q t=>.cons q (Vals.set r i t)
theorem Vals.append:∀{xs ys:List V} {us ws:List Value},Vals xs us→Vals ys ws→Vals (xs++ys) (us++ws)
 | _,_,_,_,.nil,s=>s
 | _,_,_,_,.cons r t,s=>.cons r (Vals.append t s)
theorem Vals.take:∀{xs:List V} {us:List Value} (n:Nat),Vals xs us→Vals (xs.take n) (us.take n)
 | _,_,0,_=>.nil
 | _,_,_+1,.nil=>.nil
 | _,_,n+1,.cons r t=>.cons r (Vals.take n t)
theorem Vals.drop:∀{xs:List V} {us:List Value} (n:Nat),Vals xs us→Vals (xs.drop n) (us.drop n)
 | _,_,0,r=>r
 | _,_,_+1,.nil=>.nil
 | _,_,n+1,.cons _ t=>Vals.drop n t
def bJ:Option V→Option Value→Prop
 | some v,some u=>RelV v u
 | none,none=>True
 | _,_=>False
def KV {κ:Type}:List (κ×V)→List (κ×Value)→Prop:=Paired fun (p:κ×V) (q:κ×Value)=>p.1=q.1∧RelV p.2 q.2
def kV:Key→V
 | .inl i=>.int i
 | .inr x=>.str x
inductive HO where
 /-- a list -/
 | lst (xs:List V)
 /-- a tuple (never changes) -/
 | tup (xs:List V)
 /-- a dict whose keys are ints and texts;one whose keys are tuples of ints and texts (the empty one is both) -/
 | dK (kvs:List (Key×V)) | dT (kvs:List (List Key×V))
 /-- a set of ints: its members,its size -/
 | set (S:Int→Bool) (n:Nat)
 /-- an instance of the class at C,its dict at dx,its attributes -/
 | ins (C dx:Addr) (fs:List (Str×V))
 /-- the dict of the instance at x -/
 | own (x:Addr)
 /-- the dict of an exception -/
 | xd (fs:List (Str×V))
 /-- a bound method,f of x -/
 | met (f x:Addr)
 /-- a range object lo,lo+1,.. below hi -/
 | rng (lo hi:Int)
 /-- a thing that is known to the object (the script;a dict while a loop walks it): read,never written while it is so -/
 | frz (o:Obj) (u:HO)
 /-- a code object's table -/
 | tbl (ps:Array Value)
 /-- any other thing,by what is true of its one object (a def of one's own: SetO a S n:=HO.ext fun h=>..) -/
 | ext (φ:Heap→Prop)
abbrev Hp:=Addr→Option HO
def upd (H:Hp) (a:Addr) (o:HO):Hp:=fun b=>if b=a then some o else H b
theorem aY {H:Hp} {a:Addr} {o:HO}:upd H a o a=some o:=by unfold upd;rw[if_pos rfl]
theorem aE {H:Hp} {a b:Addr} {o:HO} (h:b≠a):upd H a o b=H b:=by unfold upd;rw[if_neg h]
theorem bR {H:Hp} {a b:Addr} {o u:HO} (h:H a=some o) (h':H b=some u) (d:o≠u):a≠b:=by
 intro e;subst e;rw[h] at h';exact d (Option.some.inj h')
theorem bV {H:Hp} {a b:Addr} {o:HO} (h:H a=some o) (h':H b=none):a≠b:=by
 intro e;subst e;rw[h] at h';cases h'
section
variable (P:Program) (w:World)
def aQ (H:Hp) (h:Heap) (a:Addr):HO→Prop
 | .lst xs=>xs.length≤sizeLine∧∃(its:List Value) (n:Nat),Vals xs its∧h.get? a=some { cls:=.type "list",data:=.seq its.toArray n }
 | .tup xs=>xs.length≤sizeLine∧∃its:List Value,Vals xs its∧IsTup h a its.toArray
 | .dK kvs=>kvs.length≤sizeLine∧(a==sysModules)=false∧∃vs,KV kvs vs∧h.DictOf (aX P w) a vs
 | .dT kvs=>kvs.length≤sizeLine∧(a==sysModules)=false∧∃xs:List (List Key×Addr×Value),
   Paired (fun (p:List Key×V) (q:List Key×Addr×Value)=>p.1=q.1∧H q.2.1=some (.tup (p.1.map kV))∧RelV p.2 q.2.2) kvs xs ∧
   ∃o es ep,h.get? a=some o∧o.ExactDict∧o.data=.dict es ep∧es.toList=xs.map (entryOfKey (tupleKind (aX P w)))∧(xs.map (·.1)).Nodup
 | .set S n=>h.SetOf (intKind P w) a S n
 | .ins C dx fs=>H dx=some (.own a)∧fs.length≤1000∧dx≠a∧h.get? a=some (PySem.W.instObj C dx) ∧
   ∃mA,h.Ns1 dx mA∧(∀f,bJ (fs.lookup f) (mA f))∧PySem.Within mA (fs.map (·.1))
 | .own _=>∃o,h.get? a=some o
 | .xd fs=>∃mA,h.Ns1 a mA∧∀f,bJ (fs.lookup f) (mA f)
 | .rng lo hi=>∃t u v,h.get? a=some { cls:=.type "range",data:=.fields #[.int lo t,.int hi u,.int 1 v] }
 | .frz o u=>h.get? a=some o∧aQ H h a u
 | .tbl ps=>h.get? a=some { cls:=.none,data:=.fields ps }
 | .met f x=>h.get? a=some (PySem.W.methodObj (.ref f) (.ref x))
 | .ext φ=>φ h∧(∃o,h.get? a=some o)∧∀h1 h2:Heap,φ h1→(∀o,h1.get? a=some o→h2.get? a=some o)→φ h2
def HOk (H:Hp) (h:Heap):Prop:=∀a o,H a=some o→aQ P w H h a o
end
section
variable {P:Program} {w:World} {H H':Hp} {h h':Heap} {a:Addr} {o:HO}
theorem aQ.lt (x:aQ P w H h a o):a<h.objs.size:=by
 cases o with
 | lst xs=>obtain ⟨_,_,_,_,e⟩:=x;exact Heap.lt_size e
 | tup xs=>obtain ⟨_,_,_,p⟩:=x;exact p.lt
 | dK kvs=>obtain ⟨_,_,_,_,o,_,_,e,_⟩:=x;exact Heap.lt_size e
 | dT kvs=>obtain ⟨_,_,_,_,o,_,_,e,_⟩:=x;exact Heap.lt_size e
 | set S n=>obtain ⟨o,_,_,_,e,_⟩:=x;exact Heap.lt_size e
 | ins C dx fs=>obtain ⟨_,_,_,e,_⟩:=x;exact Heap.lt_size e
 | own y=>obtain ⟨_,e⟩:=x;exact Heap.lt_size e
 | xd fs=>obtain ⟨_,⟨_,_,_,e,_⟩,_⟩:=x;exact Heap.lt_size e
 | rng lo hi=>obtain ⟨_,_,_,e⟩:=x;exact Heap.lt_size e
 | frz ob u=>obtain ⟨e,_⟩:=x;exact Heap.lt_size e
 | tbl ps=>exact Heap.lt_size (show h.get? a=some _ from x)
 | met f y=>exact Heap.lt_size (show h.get? a=some _ from x)
 | ext φ=>obtain ⟨_,⟨_,e⟩,_⟩:=x;exact Heap.lt_size e
theorem Paired.nO {α β:Type} {F G:α→β→Prop}:∀{l₁:List α} {l₂:List β},Paired F l₁ l₂→(∀a b,F a b→G a b)→Paired G l₁ l₂
 | _,_,.nil,_=>.nil
 | _,_,.cons r t,f=>.cons (f _ _ r) (Paired.nO t f)
theorem aQ.gQ (x:aQ P w H h a o) (k:∀b u,(b=a∨H b=some (.own a))→h.get? b=some u→h'.get? b=some u)
  (ho:∀b,H b=some (.own a)→H' b=some (.own a)) (ht:∀b xs,H b=some (.tup xs)→H' b=some (.tup xs)):aQ P w H' h' a o:=by
 induction o with
 | lst xs=>obtain ⟨z,its,n,r,e⟩:=x;exact ⟨z,its,n,r,k _ _ (.inl rfl) e⟩
 | tup xs=>obtain ⟨z,its,r,ob,e,c⟩:=x;exact ⟨z,its,r,ob,k _ _ (.inl rfl) e,c⟩
 | dK kvs=>obtain ⟨z,y,vs,r,ob,es,ep,e,c⟩:=x;exact ⟨z,y,vs,r,ob,es,ep,k _ _ (.inl rfl) e,c⟩
 | dT kvs=>
  obtain ⟨z,y,xs,r,ob,es,ep,e,c⟩:=x
  exact ⟨z,y,xs,Paired.nO r fun p q z=>⟨z.1,ht _ _ z.2.1,z.2.2⟩,ob,es,ep,k _ _ (.inl rfl) e,c⟩
 | set S n=>obtain ⟨ob,es,ep,t,e,c⟩:=x;exact ⟨ob,es,ep,t,k _ _ (.inl rfl) e,c⟩
 | ins C dx fs=>
  obtain ⟨d,z,ne,e,mA,⟨od,es,ep,e2,c⟩,r⟩:=x
  exact ⟨ho _ d,z,ne,k _ _ (.inl rfl) e,mA,⟨od,es,ep,k _ _ (.inr d) e2,c⟩,r⟩
 | own y=>obtain ⟨ob,e⟩:=x;exact ⟨ob,k _ _ (.inl rfl) e⟩
 | xd fs=>obtain ⟨mA,⟨od,es,ep,e,c⟩,r⟩:=x;exact ⟨mA,⟨od,es,ep,k _ _ (.inl rfl) e,c⟩,r⟩
 | rng lo hi=>obtain ⟨t,u,v,e⟩:=x;exact ⟨t,u,v,k _ _ (.inl rfl) e⟩
 | frz ob u ih=>obtain ⟨e,q⟩:=x;exact ⟨k _ _ (.inl rfl) e,ih q⟩
 | tbl ps=>
  have e:h.get? a=some { cls:=.none,data:=.fields ps }:=x
  show h'.get? a=some { cls:=.none,data:=.fields ps }
  exact k a _ (.inl rfl) e
 | met f y=>
  have e:h.get? a=some (PySem.W.methodObj (.ref f) (.ref y)):=x
  show h'.get? a=some (PySem.W.methodObj (.ref f) (.ref y))
  exact k a _ (.inl rfl) e
 | ext φ=>obtain ⟨p,⟨o,e⟩,st⟩:=x;exact ⟨st _ _ p fun o q=>k _ _ (.inl rfl) q,⟨o,k _ _ (.inl rfl) e⟩,st⟩
theorem HOk.lt (x:HOk P w H h) (e:H a=some o):a<h.objs.size:=(x a o e).lt
theorem HOk.fresh (x:HOk P w H h) (e:h.objs.size≤a):H a=none:=by
 cases q:H a with
 | none=>rfl
 | some u=>exact absurd (Nat.lt_of_lt_of_le (x.lt q) e) (Nat.lt_irrefl _)
theorem HOk.kept (x:HOk P w H h) (k:∀b u,h.get? b=some u→h'.get? b=some u):HOk P w H h':=fun a o e=>
 (x a o e).gQ (fun b u _ q=>k b u q) (fun _ q=>q) fun _ _ q=>q
theorem HOk.laid (x:HOk P w H h) (k:∀b u,h.get? b=some u→h'.get? b=some u) (hp:h.objs.size≤a) (new:aQ P w (upd H a o) h' a o):HOk P w (upd H a o) h':=fun b u e=>by
 have hn:=x.fresh hp
 by_cases hb:b=a
 ·subst hb;rw[aY] at e;cases e;exact new
 ·rw[aE hb] at e
  exact (x b u e).gQ (fun c v _ q=>k c v q) (fun c q=>by rw[aE (bV q hn)];exact q) fun c xs q=>by rw[aE (bV q hn)];exact q
end
def Rd (H:Hp) (a:Addr) (u:HO):Prop:=H a=some u∨∃o,H a=some (.frz o u)
theorem Rd.ok {P:Program} {w:World} {H:Hp} {h:Heap} {a:Addr} {u:HO} (r:Rd H a u) (x:HOk P w H h):aQ P w H h a u:=by
 rcases r with r | ⟨o,r⟩
 ·exact x a u r
 ·obtain ⟨_,q⟩:=x a _ r
  exact q
def Mut:Option HO→Prop
 | some (.lst _)=>True
 | some (.dK _)=>True
 | some (.dT _)=>True
 | some (.set _ _)=>True
 | some (.ins _ _ _)=>True
 | some (.ext _)=>True
 | _=>False
section
variable {P:Program} {w:World} {H:Hp} {h h':Heap} {x e:Addr} {o':HO}
theorem HOk.write (ok:HOk P w H h) (mu:Mut (H x)) (he:e=x∨H e=some (.own x)) (k:∀b u,b≠e→h.get? b=some u→h'.get? b=some u) (heo:∃u,h'.get? e=some u)
  (new:aQ P w (upd H x o') h' x o'):HOk P w (upd H x o') h':=fun b u q=>by
 have nown:∀c y,H c=some (.own y)→c≠x:=fun c y r z=>by subst z;rw[r] at mu;exact mu
 have ntup:∀c xs,H c=some (.tup xs)→c≠x:=fun c xs r z=>by subst z;rw[r] at mu;exact mu
 by_cases hb:b=x
 ·subst hb;rw[aY] at q;cases q;exact new
 ·rw[aE hb] at q
  by_cases hbe:b=e
  ·have q':H b=some (.own x):=by
    rcases he with z | z
    ·exact absurd (hbe.trans z) hb
    ·rw[hbe];exact z
   rw[q] at q';cases q'
   obtain ⟨v,hv⟩:=heo
   exact ⟨v,by rw[hbe];exact hv⟩
  ·refine (ok b u q).gQ (fun c v hc r=>k c v ?_ r) (fun c r=>by rw[aE (nown c b r)];exact r) fun c xs r=>by rw[aE (ntup c xs r)];exact r
   rcases hc with rfl | hc
   ·exact hbe
   ·rintro rfl
    rcases he with z | z
    ·exact nown c b hc z
    ·rw[hc] at z;cases z;exact hb rfl
end
structure Un (fs ex:List Addr) (H H':Hp) (h h':Heap):Prop where
 keep:∀b o,h.get? b=some o→H b=none→b∉fs→b∉ex→h'.get? b=some o
 slot:∀b o,h.get? b=some o→H b=none→b∈fs→b∉ex→∃sl,h'.get? b=some { o with slots:=sl }
 free:∀b o,h.get? b=some o→H b=none→b∉ex→H' b=none
 there:∀b o,h.get? b=some o→b∉ex→∃o',h'.get? b=some o'
 tups:∀b xs,H b=some (.tup xs)→H' b=some (.tup xs)
 frzs:∀b o u,H b=some (.frz o u)→H' b=some (.frz o u)
 tbls:∀b ps,H b=some (.tbl ps)→∃more,H' b=some (.tbl (ps++more))
section
variable {fs fs' ex ex':List Addr} {H H1 H2:Hp} {h h1 h2 h':Heap} {a x e:Addr} {o:HO}
theorem Un.any (u:Un fs ex H H1 h h1) {b:Addr} {ob:Obj} (q:h.get? b=some ob) (n:H b=none) (hx:b∉ex):∃sl,h1.get? b=some { ob with slots:=sl }:=by
 by_cases hb:b∈fs
 ·exact u.slot b ob q n hb hx
 ·exact ⟨ob.slots,u.keep b ob q n hb hx⟩
theorem Un.kept (k:∀b u,h.get? b=some u→h'.get? b=some u):Un fs ex H H h h':=
 ⟨fun b ob q _ _ _=>k b ob q,fun b ob q _ _ _=>⟨ob.slots,k b ob q⟩,fun _ _ _ n _=>n,fun b ob q _=>⟨ob,k b ob q⟩,fun _ _ q=>q,fun _ _ _ q=>q,fun _ ps q=>⟨#[],by rw[q];simp⟩⟩
theorem Un.refl:Un fs ex H H h h:=Un.kept fun _ _ q=>q
theorem Un.laid (k:∀b u,h.get? b=some u→h'.get? b=some u) (hp:h.objs.size≤a) (hn:H a=none):Un fs ex H (upd H a o) h h' where
 keep:=fun b u q _ _ _=>k b u q
 slot:=fun b u q _ _ _=>⟨u.slots,k b u q⟩
 free:=fun b u q n _=>by rw[aE (Nat.ne_of_lt (Nat.lt_of_lt_of_le (Heap.lt_size q) hp))];exact n
 there:=fun b u q _=>⟨u,k b u q⟩
 tups:=fun b xs q=>by rw[aE (bV q hn)];exact q
 frzs:=fun b u xs q=>by rw[aE (bV q hn)];exact q
 tbls:=fun b ps q=>⟨#[],by rw[aE (bV q hn),q];simp⟩
theorem Un.write (mu:Mut (H x)) (he:e=x∨H e=some (.own x)) (k:∀b u,b≠e→h.get? b=some u→h'.get? b=some u) (heo:∃u,h'.get? e=some u):Un fs ex H (upd H x o) h h':=by
 have hx:∀b,H b=none→b≠x:=fun b n z=>by subst z;rw[n] at mu;exact mu
 have hb:∀b,H b=none→b≠e:=fun b n z=>by
  subst z
  rcases he with r | r
  ·exact hx b n r
  ·rw[n] at r;cases r
 have hm:∀b u,H b=some u→¬Mut (some u)→b≠x:=fun b u q nm z=>by subst z;rw[q] at mu;exact nm mu
 refine ⟨fun b u q n _ _=>k b u (hb b n) q,fun b u q n _ _=>⟨u.slots,k b u (hb b n) q⟩,fun b u q n _=>by rw[aE (hx b n)];exact n,fun b u q _=>?_,
  fun b xs q=>by rw[aE (hm b _ q fun z=>z)];exact q,fun b u xs q=>by rw[aE (hm b _ q fun z=>z)];exact q,fun b ps q=>⟨#[],by rw[aE (hm b _ q fun z=>z),q];simp⟩⟩
 by_cases hbe:b=e
 ·subst hbe;exact heo
 ·exact ⟨u,k b u hbe q⟩
end
def trk (h:Heap) (H:Hp):List Addr:=(List.range h.objs.size).filter fun a=>(H a).isSome
def dA (h:Heap) (H:Hp):Heap:=PySem.W.hideAll h (trk h H)
theorem yU (h:Heap) (H:Hp):(dA h H).objs.size=h.objs.size:=PySem.W.hideAll_size _ _
theorem aCz {h:Heap} {H:Hp} {b:Addr} {o:Obj} (e:h.get? b=some o) (n:H b=none):(dA h H).get? b=some o:=
 PySem.W.hideAll_get _ e fun hm=>by
  have q:(H b).isSome=true:=(List.mem_filter.mp hm).2
  rw[n] at q;simp at q
theorem aAk {h:Heap} {H:Hp} {b:Addr} {o:Obj} (e:(dA h H).get? b=some o):h.get? b=some o∧H b=none:=by
 have e':h.get? b=some o:=PySem.W.of_hideAll (trk h H) e
 refine ⟨e',?_⟩
 cases q:H b with
 | none=>rfl
 | some x=>
  have hm:b∈trk h H:=List.mem_filter.mpr ⟨List.mem_range.mpr (Heap.lt_size e'),by simp [q]⟩
  have z:(dA h H).get? b=none:=PySem.W.hideAll_none (trk h H) hm
  rw[z] at e;cases e
end L2
namespace L2
open PySem PySem.Spec PyProof.Rows
structure Mod (K:PySem.W.Frag) (mg:Str→Option Value) (base:Heap):Prop where
 kin:K.In base
 glob:base.Ns mainGlobals mg
 blt:∃mb,base.Ns builtinsNs mb∧∀x:Str,x≠"__name__"→mb x=bootBuiltins x
 nolimit:base.NoLimit
structure Cx where
 prog:Program
 w:World
 K:PySem.W.Frag
 mg:Str→Option Value
 base:Heap
 A:Around
 N:List Str
 s_0:Shared
 H_0:Hp
 env:Env
 outer:List Env
 stack:List Env
 ex:List Addr
 fn:Str→Bool
 calm:Bool
 pn:List (Addr×Obj)
 xe:Value→Shared→Prop
def frs (l:List Env):List Addr:=l.filterMap (·.frame)
abbrev Cx.fs (X:Cx):List Addr:=frs X.outer
def Vis (sc:Scope) (x:Str):Prop:=sc.names.lookup x=some .local∨sc.names.lookup x=some .cell∨sc.names.lookup x=some .free
def Loc (sc:Scope) (x:Str):Prop:=sc.names.lookup x=some .local∨sc.names.lookup x=some .cell
def Look (env:Env) (h:Heap) (m:Str→Option Value) (x:Str) (u:Value):Prop:=
 (env.kindOf x=some .local∧m x=some u)∨((env.kindOf x=some .cell∨env.kindOf x=some .free)∧∃c,env.cells.lookup x=some c∧h.IsCell c (some u))
structure Cx.Ok (X:Cx):Prop where
 mod:Mod X.K X.mg X.base
 kind:X.env.scope.kind=.function
 glob:X.env.globals=mainGlobals
 blt:X.env.builtins=builtinsNs
 above:X.s_0.heap.objs.size≤X.env.locals
 inj:∀x y c,X.env.cells.lookup x=some c→X.env.cells.lookup y=some c→x=y
 has:∀x,(X.env.kindOf x=some .cell∨X.env.kindOf x=some .free)→∃c,X.env.cells.lookup x=some c
 cab:∀x c,X.fn x=true→X.env.cells.lookup x=some c→X.s_0.heap.objs.size≤c
 hd:X.calm=true→X.A.handled=none
 frames:X.A.frames=some X.stack
 stk:X.stack=X.outer∨(X.stack=X.env::X.outer∧X.env.frame=some X.env.locals)
 exf:∀b∈X.ex,b≠X.env.locals∧∀x c,X.env.cells.lookup x=some c→c≠b
 bs:∀b o,X.base.get? b=some o→X.s_0.heap.get? b=some o∧X.H_0 b=none
 bsz:X.base.objs.size≤X.s_0.heap.objs.size
 noex:∀b o,X.base.get? b=some o→b∉X.ex
 exfs:∀b∈X.ex,b∉X.fs
 cJ:X.s_0.heap.FunFrames X.base X.outer
 frf:∀b∈X.fs,X.H_0 b=none
structure Inv (X:Cx) (pins:List (Addr×Obj)) (σ:List (Option V)) (H:Hp) (s:Shared):Prop where
 ok:X.Ok
 os:s.os=X.s_0.os
 bare:AllBare s.gens
 base:Un X.fs X.ex X.H_0 H X.s_0.heap s.heap
 loc:∃m,s.heap.Ns X.env.locals m∧∀(i:Nat) (x:Str) (v:V),X.N[i]?=some x→σ[i]?=some (some v)→Vis X.env.scope x→∃u,RelV v u∧Look X.env s.heap m x u
 cell:∀x c,X.env.cells.lookup x=some c→∃v,s.heap.IsCell c v
 free:H X.env.locals=none
 freeC:∀x c,X.env.cells.lookup x=some c→H c=none
 pin:∀p∈X.pn++pins,s.heap.get? p.1=some p.2∧H p.1=none∧p.1≠X.env.locals∧p.1∉X.fs∧∀v,p.2.data≠.cell v
 hok:HOk X.prog X.w H s.heap
 len:σ.length=X.N.length
section
variable {X:Cx} {pins:List (Addr×Obj)} {σ:List (Option V)} {H H':Hp} {s:Shared} {h':Heap}
theorem Cx.Ok.zO (ok:X.Ok) {b:Addr} {o:Obj} (e:X.base.get? b=some o):b∉X.fs:=fun hb=>by
 have:=(ok.cJ.mem hb).1
 rw[e] at this;cases this
theorem Inv.bs (I:Inv X pins σ H s):∀b o,X.base.get? b=some o→s.heap.get? b=some o∧H b=none:=fun b o e=>
 ⟨I.base.keep b o (I.ok.bs b o e).1 (I.ok.bs b o e).2 (I.ok.zO e) (I.ok.noex b o e),I.base.free b o (I.ok.bs b o e).1 (I.ok.bs b o e).2 (I.ok.noex b o e)⟩
theorem Inv.bk (I:Inv X pins σ H s):∀b o,X.base.get? b=some o→s.heap.get? b=some o:=fun b o e=>(I.bs b o e).1
theorem Inv.mod (I:Inv X pins σ H s):Mod X.K X.mg X.base:=I.ok.mod
theorem Inv.kIn (I:Inv X pins σ H s):X.K.In s.heap:=I.ok.mod.kin.keeps I.bk
theorem Inv.lt (I:Inv X pins σ H s):X.env.locals<s.heap.objs.size:=let ⟨_,hn,_⟩:=I.loc;hn.lt
theorem Inv.sz (I:Inv X pins σ H s):X.s_0.heap.objs.size≤s.heap.objs.size:=Nat.le_trans I.ok.above (Nat.le_of_lt I.lt)
theorem Inv.xN (I:Inv X pins σ H s) {a:Addr} (h:s.heap.objs.size≤a):a∉X.fs:=fun hb=>by
 obtain ⟨_,o,ho,_⟩:=I.ok.cJ.mem hb
 exact absurd (Nat.lt_of_lt_of_le (Heap.lt_size ho) (Nat.le_trans I.sz h)) (Nat.lt_irrefl _)
theorem Inv.cne (I:Inv X pins σ H s):∀x c,X.env.cells.lookup x=some c→c≠X.env.locals:=fun x c e z=>by
 obtain ⟨v,o,ho,hd⟩:=I.cell x c e
 obtain ⟨m,⟨o',es,ep,ho',hd',_⟩,_⟩:=I.loc
 rw[z,ho'] at ho;cases ho;rw[hd'] at hd;cases hd
theorem Inv.cJ (I:Inv X pins σ H s):s.heap.FunFrames X.base X.outer:=by
 have all:∀(l:List Env),(∀b∈frs l,b∈X.fs)→X.s_0.heap.FunFrames X.base l→s.heap.FunFrames X.base l:=by
  intro l
  induction l with
  | nil=>intro _ _;trivial
  | cons env r ih=>
   intro hs hl
   obtain ⟨hk,⟨L,o,hf,hn,ho,hd⟩,hr⟩:=hl
   have hL:L∈X.fs:=hs L (by unfold frs;rw[List.filterMap_cons,hf];exact List.mem_cons_self)
   obtain ⟨sl,e⟩:=I.base.slot L o ho (I.ok.frf L hL) hL fun z=>I.ok.exfs L z hL
   exact ⟨hk,⟨L,_,hf,hn,e,hd⟩,ih (fun b hb=>hs b (by unfold frs;rw[List.filterMap_cons,hf];exact List.mem_cons_of_mem _ hb)) hr⟩
 exact all X.outer (fun _ hb=>hb) I.ok.cJ
theorem Inv.stack (I:Inv X pins σ H s):s.heap.FunFrames X.base X.stack:=by
 rcases I.ok.stk with e | ⟨e,hf⟩
 ·rw[e];exact I.cJ
 ·rw[e]
  obtain ⟨m,hn,_⟩:=I.loc
  refine .cons (by rw[I.ok.kind];decide) hf hn ?_ I.cJ
  exact Heap.get?_none_of_le (Nat.le_trans I.ok.bsz I.ok.above)
theorem Inv.kT (I:Inv X pins σ H s):∀b∈frs X.stack,b∈X.env.locals::X.fs:=fun b hb=>by
 rcases I.ok.stk with e | ⟨e,hf⟩
 ·rw[e] at hb;exact List.mem_cons_of_mem _ hb
 ·rw[e] at hb
  unfold frs at hb
  rw[List.filterMap_cons,hf] at hb
  exact hb
theorem Inv.pD (I:Inv X pins σ H s):∀b∈frs X.stack,H b=none:=fun b hb=>by
 rcases List.mem_cons.mp (I.kT b hb) with e | hb
 ·rw[e];exact I.free
 ·obtain ⟨_,o,ho,_⟩:=I.ok.cJ.mem hb
  exact I.base.free b o ho (I.ok.frf b hb) fun z=>I.ok.exfs b z hb
theorem Inv.step {g':Array GenState} {t':Nat} {d':Drawn} {ch:List Addr} (I:Inv X pins σ H s)
  (hch:∀b∈ch,(b∈X.ex∨X.s_0.heap.objs.size≤b)∧b≠X.env.locals∧(∀x c,X.env.cells.lookup x=some c→c≠b)∧∀p∈X.pn++pins,p.1≠b)
  (keep:∀b o,b≠X.env.locals→b∉X.fs→b∉ch→s.heap.get? b=some o→H b=none→h'.get? b=some o)
  (slot:∀b o,b≠X.env.locals→b∈X.fs→b∉ch→s.heap.get? b=some o→H b=none→∃sl,h'.get? b=some { o with slots:=sl }) (free:∀b o,b∉ch→s.heap.get? b=some o→H b=none→H' b=none)
  (there:∀b o,b∉ch→s.heap.get? b=some o→∃o',h'.get? b=some o')
  (tups:∀b xs,H b=some (.tup xs)→H' b=some (.tup xs)) (frzs:∀b o u,H b=some (.frz o u)→H' b=some (.frz o u)) (tbls:∀b ps,H b=some (.tbl ps)→∃more,H' b=some (.tbl (ps++more)))
  (ns:∀m,s.heap.Ns X.env.locals m→h'.Ns X.env.locals m) (hok:HOk X.prog X.w H' h') (hg:AllBare g') :
  Inv X pins σ H' { s with heap:=h',gens:=g',drawn:=d',toks:=t' }:=by
 have neL:∀b o,X.s_0.heap.get? b=some o→b≠X.env.locals:=fun b o e=>Nat.ne_of_lt (Nat.lt_of_lt_of_le (Heap.lt_size e) I.ok.above)
 have neC:∀b o,X.s_0.heap.get? b=some o→b∉X.ex→b∉ch:=fun b o e hx hb=>by
  rcases (hch b hb).1 with z | z
  ·exact hx z
  ·exact absurd (Nat.lt_of_lt_of_le (Heap.lt_size e) z) (Nat.lt_irrefl _)
 have cellK:∀x c,X.env.cells.lookup x=some c→∀v,s.heap.IsCell c v→h'.IsCell c v:=fun x c e v ⟨o,ho,hd⟩=>by
  have nch:c∉ch:=fun z=>(hch c z).2.2.1 x c e rfl
  by_cases hc:c∈X.fs
  ·obtain ⟨sl,q⟩:=slot c o (I.cne x c e) hc nch ho (I.freeC x c e)
   exact ⟨_,q,hd⟩
  ·exact ⟨o,keep c o (I.cne x c e) hc nch ho (I.freeC x c e),hd⟩
 refine ⟨I.ok,I.os,hg,⟨fun b o e n hb hx=>?_,fun b o e n hb hx=>?_,fun b o e n hx=>?_,fun b o e hx=>?_,fun b xs e=>tups b xs (I.base.tups b xs e),fun b o xs e=>frzs b o xs (I.base.frzs b o xs e),fun b ps e=>?_⟩,?_,fun x c e=>?_,?_,fun x c e=>?_,fun p hp=>?_,hok,I.len⟩
 ·exact keep b o (neL b o e) hb (neC b o e hx) (I.base.keep b o e n hb hx) (I.base.free b o e n hx)
 ·obtain ⟨sl,e1⟩:=I.base.slot b o e n hb hx
  obtain ⟨sl',e2⟩:=slot b _ (neL b o e) hb (neC b o e hx) e1 (I.base.free b o e n hx)
  exact ⟨sl',e2⟩
 ·obtain ⟨o',e1⟩:=I.base.there b o e hx
  exact free b o' (neC b o e hx) e1 (I.base.free b o e n hx)
 ·obtain ⟨o',e1⟩:=I.base.there b o e hx
  exact there b o' (neC b o e hx) e1
 ·obtain ⟨m1,e1⟩:=I.base.tbls b ps e
  obtain ⟨m2,e2⟩:=tbls b _ e1
  exact ⟨m1++m2,by rw[e2,Array.append_assoc]⟩
 ·obtain ⟨m,hn,hl⟩:=I.loc
  refine ⟨m,ns m hn,fun i x v e1 e2 e3=>?_⟩
  obtain ⟨u,r,l⟩:=hl i x v e1 e2 e3
  refine ⟨u,r,?_⟩
  rcases l with l | ⟨k,c,e,z⟩
  ·exact .inl l
  ·exact .inr ⟨k,c,e,cellK x c e _ z⟩
 ·obtain ⟨v,z⟩:=I.cell x c e
  exact ⟨v,cellK x c e v z⟩
 ·obtain ⟨m,⟨o,_,_,ho,_⟩,_⟩:=I.loc
  exact free _ o (fun z=>(hch _ z).2.1 rfl) ho I.free
 ·obtain ⟨v,o,ho,hd⟩:=I.cell x c e
  exact free c o (fun z=>(hch c z).2.2.1 x c e rfl) ho (I.freeC x c e)
 ·obtain ⟨e,n,ne,nf,d⟩:=I.pin p hp
  have nch:p.1∉ch:=fun z=>(hch p.1 z).2.2.2 p hp rfl
  exact ⟨keep p.1 p.2 ne nf nch e n,free p.1 p.2 nch e n,ne,nf,d⟩
theorem Inv.un {t':Nat} (I:Inv X pins σ H s) (u:Un X.fs [] H H' s.heap h') (hok:HOk X.prog X.w H' h'):Inv X pins σ H' { s with heap:=h',toks:=t' }:=by
 obtain ⟨m,⟨o,es,ep,ho,r⟩,_⟩:=id I.loc
 obtain ⟨sl,hL⟩:=u.any ho I.free (by simp)
 exact I.step (g':=s.gens) (d':=s.drawn) (ch:=[]) (fun _ z=>nomatch z) (fun b o _ hb _ e n=>u.keep b o e n hb (by simp)) (fun b o _ hb _ e n=>u.slot b o e n hb (by simp)) (fun b o _ e n=>u.free b o e n (by simp)) (fun b o _ e=>u.there b o e (by simp)) u.tups u.frzs u.tbls (fun m' hm=>by
  obtain ⟨o',es',ep',ho',r'⟩:=hm
  rw[ho] at ho';cases ho'
  exact ⟨_,es',ep',hL,r'⟩) hok I.bare
theorem Inv.call {g':Array GenState} {t':Nat} {d':Drawn} {ch:List Addr} (I:Inv X pins σ H s) (u:Un (frs X.stack) ch H H' s.heap h') (hok:HOk X.prog X.w H' h') (hg:AllBare g')
  (hch:∀b∈ch,(b∈X.ex∨X.s_0.heap.objs.size≤b)∧b≠X.env.locals∧(∀x c,X.env.cells.lookup x=some c→c≠b)∧∀p∈X.pn++pins,p.1≠b) :
  Inv X pins σ H' { s with heap:=h',gens:=g',drawn:=d',toks:=t' }:=by
 obtain ⟨m,⟨o,es,ep,ho,r⟩,_⟩:=id I.loc
 obtain ⟨sl,hL⟩:=u.any ho I.free fun z=>(hch _ z).2.1 rfl
 exact I.step (ch:=ch) hch (fun b o hL hb hc e n=>u.keep b o e n (fun z=>(List.mem_cons.mp (I.kT b z)).elim hL hb) hc) (fun b o _ _ hc e n=>u.any e n hc) (fun b o hc e n=>u.free b o e n hc) (fun b o hc e=>u.there b o e hc) u.tups u.frzs u.tbls (fun m' hm=>by
  obtain ⟨o',es',ep',ho',r'⟩:=hm
  rw[ho] at ho';cases ho'
  exact ⟨_,es',ep',hL,r'⟩) hok hg
theorem Inv.turned {t':Nat} {it:Addr} (I:Inv X pins σ H s) (k:∀b o,b≠it→s.heap.get? b=some o→h'.get? b=some o) (hn:H it=none) (hL:it≠X.env.locals)
  (h1:it∈X.ex∨X.s_0.heap.objs.size≤it) (h2:∀x c,X.env.cells.lookup x=some c→c≠it) (h3:∀p∈X.pn++pins,p.1≠it):Inv X pins σ H { s with heap:=h',toks:=t' }:=by
 have nit:∀b u,H b=some u→b≠it:=fun b u e z=>by rw[z,hn] at e;cases e
 refine I.step (g':=s.gens) (d':=s.drawn) (ch:=[it]) (fun b hb=>?_) (fun b o _ _ hc e _=>k b o (fun z=>hc (by simp [z])) e) (fun b o _ _ hc e _=>⟨o.slots,k b o (fun z=>hc (by simp [z])) e⟩) (fun _ _ _ _ n=>n)
  (fun b o hc e=>⟨o,k b o (fun z=>hc (by simp [z])) e⟩) (fun _ _ e=>e) (fun _ _ _ e=>e) (fun b ps e=>⟨#[],by rw[e];simp⟩) (fun m hm=>?_) (fun b u e=>?_) I.bare
 ·have e:b=it:=by simpa using hb
  subst e
  exact ⟨h1,hL,h2,h3⟩
 ·obtain ⟨o,es,ep,ho,r⟩:=hm
  exact ⟨o,es,ep,k _ o (Ne.symm hL) ho,r⟩
 ·refine (I.hok b u e).gQ (fun c v hc q=>k c v ?_ q) (fun _ q=>q) fun _ _ q=>q
  rcases hc with z | z
  ·rw[z];exact nit b u e
  ·exact nit c _ z
theorem Inv.tok (I:Inv X pins σ H s) (t:Nat):Inv X pins σ H { s with toks:=t }:=I.un (h':=s.heap) (t':=t) Un.refl I.hok
theorem Inv.kept {t':Nat} (I:Inv X pins σ H s) (k:∀b u,s.heap.get? b=some u→h'.get? b=some u):Inv X pins σ H { s with heap:=h',toks:=t' }:=I.un (Un.kept k) (I.hok.kept k)
theorem Inv.laid {a:Addr} {o:HO} {t':Nat} (I:Inv X pins σ H s) (k:∀b u,s.heap.get? b=some u→h'.get? b=some u) (hp:s.heap.objs.size≤a) (new:aQ X.prog X.w (upd H a o) h' a o) :
  Inv X pins σ (upd H a o) { s with heap:=h',toks:=t' }:=I.un (Un.laid k hp (I.hok.fresh hp)) (I.hok.laid k hp new)
theorem Inv.write {x e:Addr} {o:HO} {t':Nat} (I:Inv X pins σ H s) (mu:Mut (H x)) (he:e=x∨H e=some (.own x)) (k:∀b u,b≠e→s.heap.get? b=some u→h'.get? b=some u) (heo:∃u,h'.get? e=some u)
  (new:aQ X.prog X.w (upd H x o) h' x o):Inv X pins σ (upd H x o) { s with heap:=h',toks:=t' }:=I.un (Un.write mu he k heo) (I.hok.write mu he k heo new)
theorem Inv.weak {σ':List (Option V)} (I:Inv X pins σ H s) (hl:σ'.length=σ.length) (w:∀(i:Nat) v,σ'[i]?=some (some v)→σ[i]?=some (some v)):Inv X pins σ' H s:=
 ⟨I.ok,I.os,I.bare,I.base,let ⟨m,hn,hl'⟩:=I.loc;⟨m,hn,fun i x v e1 e2 e3=>hl' i x v e1 (w i v e2) e3⟩,I.cell,I.free,I.freeC,I.pin,I.hok,hl.trans I.len⟩
theorem Inv.rZ {pins':List (Addr×Obj)} (I:Inv X pins σ H s) (h:∀p∈pins',s.heap.get? p.1=some p.2∧H p.1=none∧p.1≠X.env.locals∧p.1∉X.fs∧∀v,p.2.data≠.cell v):Inv X pins' σ H s:=
 ⟨I.ok,I.os,I.bare,I.base,I.loc,I.cell,I.free,I.freeC,fun p hp=>(List.mem_append.mp hp).elim (fun z=>I.pin p (List.mem_append_left _ z)) (h p),I.hok,I.len⟩
theorem kC {N:List Str} (hN:N.Nodup) {i j:Nat} {x:Str} (a:N[i]?=some x) (b:N[j]?=some x):i=j:=by
 obtain ⟨h1,e1⟩:=List.getElem?_eq_some_iff.mp a
 obtain ⟨h2,e2⟩:=List.getElem?_eq_some_iff.mp b
 exact (List.getElem_inj hN).mp (e1.trans e2.symm)
theorem aFl {M:Model} {A:Around} {E:Value→Shared→Prop} {i:Nat} {x:Str} {v:V} {u:Value} {Q:Unit→Shared→Prop} (I:Inv X pins σ H s) (hN:X.N.Nodup) (hi:X.N[i]?=some x) (hx:Loc X.env.scope x) (r:RelV v u)
  (h:∀s',Inv X pins (σ.set i (some v)) H s'→(∃a,Heap.SameBut a s.heap s'.heap∧(a=X.env.locals∨X.env.cells.lookup x=some a))→Q () s') (hf:X.fn x=true∨X.env.scope.names.lookup x=some .local:=by first | exact .inl rfl | exact .inr rfl | assumption):wpAny M A (storeName X.env x u) Q E s:=by
 obtain ⟨m,hn,hl⟩:=id I.loc
 have hcls:(X.env.scope.kind==.class||(X.env.scope.kind==.module&&X.env.locals != X.env.globals))=false:=by rw[I.ok.kind];rfl
 have hiσ:i<σ.length:=by rw[I.len];exact (List.getElem?_eq_some_iff.mp hi).1
 have cne:=I.cne
 have tracked:∀{a:Addr} {h':Heap},(∃o,s.heap.get? a=some o∧H a=none)→Heap.SameBut a s.heap h'→HOk X.prog X.w H h':=fun {a h'} ha hs b ob e=>by
  obtain ⟨_,_,hfree⟩:=ha
  refine (I.hok b ob e).gQ (fun c w' hc q=>(hs.2 c ?_).trans q) (fun _ q=>q) fun _ _ q=>q
  rintro rfl
  rcases hc with rfl | hc
  ·rw[hfree] at e;cases e
  ·rw[hfree] at hc;cases hc
 rcases hx with hk | hk
 ·refine wpAny_storeName_local hk hn (fun h' hn' hs=>?_) hcls
  obtain ⟨oL,_,_,hoL,_⟩:=id hn
  refine h _ ⟨I.ok,I.os,I.bare,⟨fun b o e n hb hx=>?_,fun b o e n hb hx=>?_,I.base.free,fun b o e hx=>?_,I.base.tups,I.base.frzs,I.base.tbls⟩,⟨_,hn',fun j y v' e1 e2 e3=>?_⟩,fun y c e=>?_,I.free,I.freeC,fun p hp=>?_,tracked ⟨oL,hoL,I.free⟩ hs,by simpa using I.len⟩ ⟨_,hs,.inl rfl⟩
  ·exact (hs.2 b (Nat.ne_of_lt (Nat.lt_of_lt_of_le (Heap.lt_size e) I.ok.above))).trans (I.base.keep b o e n hb hx)
  ·obtain ⟨sl,e1⟩:=I.base.slot b o e n hb hx
   exact ⟨sl,(hs.2 b (Nat.ne_of_lt (Nat.lt_of_lt_of_le (Heap.lt_size e) I.ok.above))).trans e1⟩
  ·obtain ⟨o',e1⟩:=I.base.there b o e hx
   exact ⟨o',(hs.2 b (Nat.ne_of_lt (Nat.lt_of_lt_of_le (Heap.lt_size e) I.ok.above))).trans e1⟩
  ·by_cases hj:j=i
   ·subst hj
    rw[hi] at e1;cases e1
    rw[List.getElem?_set_self hiσ] at e2
    cases e2
    exact ⟨u,r,.inl ⟨hk,by simp⟩⟩
   ·rw[List.getElem?_set_ne (Ne.symm hj)] at e2
    obtain ⟨u',r',q⟩:=hl j y v' e1 e2 e3
    refine ⟨u',r',?_⟩
    rcases q with ⟨k,e⟩ | ⟨k,c,e,z⟩
    ·refine .inl ⟨k,?_⟩
     have:y≠x:=fun e=>hj (kC hN e1 (e▸hi))
     simp [this,e]
    ·exact .inr ⟨k,c,e,z.sameBut hs (cne y c e)⟩
  ·obtain ⟨w',z⟩:=I.cell y c e
   exact ⟨w',z.sameBut hs (cne y c e)⟩
  ·obtain ⟨e,n,ne,nf,d⟩:=I.pin p hp
   exact ⟨(hs.2 p.1 ne).trans e,n,ne,nf,d⟩
 ·have hfn:X.fn x=true:=by
   rcases hf with z | z
   ·exact z
   ·rw[z] at hk;cases hk
  obtain ⟨c,hc⟩:=I.ok.has x (.inl hk)
  obtain ⟨w',z⟩:=I.cell x c hc
  refine wpAny_storeName_cell I.ok.kind hk hc z (fun h' hc' hs=>?_)
  obtain ⟨oc,hoc,hocd⟩:=id z
  refine h { s with heap:=h' } ⟨I.ok,I.os,I.bare,⟨fun b o e n hb hx=>?_,fun b o e n hb hx=>?_,I.base.free,fun b o e hx=>?_,I.base.tups,I.base.frzs,I.base.tbls⟩,⟨m,hn.sameBut hs (Ne.symm (cne x c hc)),fun j y v' e1 e2 e3=>?_⟩,fun y c' e=>?_,I.free,I.freeC,fun p hp=>?_,tracked ⟨oc,hoc,I.freeC x c hc⟩ hs,by simpa using I.len⟩ ⟨c,hs,.inr hc⟩
  ·exact (hs.2 b (Nat.ne_of_lt (Nat.lt_of_lt_of_le (Heap.lt_size e) (I.ok.cab x c hfn hc)))).trans (I.base.keep b o e n hb hx)
  ·obtain ⟨sl,e1⟩:=I.base.slot b o e n hb hx
   exact ⟨sl,(hs.2 b (Nat.ne_of_lt (Nat.lt_of_lt_of_le (Heap.lt_size e) (I.ok.cab x c hfn hc)))).trans e1⟩
  ·obtain ⟨o',e1⟩:=I.base.there b o e hx
   exact ⟨o',(hs.2 b (Nat.ne_of_lt (Nat.lt_of_lt_of_le (Heap.lt_size e) (I.ok.cab x c hfn hc)))).trans e1⟩
  ·by_cases hj:j=i
   ·subst hj
    rw[hi] at e1;cases e1
    rw[List.getElem?_set_self hiσ] at e2
    cases e2
    exact ⟨u,r,.inr ⟨.inl hk,c,hc,hc'⟩⟩
   ·rw[List.getElem?_set_ne (Ne.symm hj)] at e2
    obtain ⟨u',r',q⟩:=hl j y v' e1 e2 e3
    refine ⟨u',r',?_⟩
    rcases q with q | ⟨k,c',e,z'⟩
    ·exact .inl q
    ·refine .inr ⟨k,c',e,z'.sameBut hs ?_⟩
     rintro rfl
     exact hj (kC hN e1 (I.ok.inj _ _ _ e hc▸hi))
  ·by_cases hcc:c'=c
   ·subst hcc;exact ⟨_,hc'⟩
   ·obtain ⟨w2,z2⟩:=I.cell y c' e
    exact ⟨w2,z2.sameBut hs hcc⟩
  ·obtain ⟨e,n,ne,nf,d⟩:=I.pin p hp
   refine ⟨(hs.2 p.1 ?_).trans e,n,ne,nf,d⟩
   intro q
   rw[q,hoc] at e
   have q':oc=p.2:=Option.some.inj e
   exact d w' (by rw[←q'];exact hocd)
theorem rF {M:Model} {A:Around} {E:Value→Shared→Prop} {i:Nat} {x:Str} {v:V} {u:Value} {Q:Unit→Shared→Prop} (I:Inv X pins σ H s) (hN:X.N.Nodup) (hi:X.N[i]?=some x) (hx:Loc X.env.scope x) (r:RelV v u)
  (h:∀s',Inv X pins (σ.set i (some v)) H s'→Q () s') (hf:X.fn x=true∨X.env.scope.names.lookup x=some .local:=by first | exact .inl rfl | exact .inr rfl | assumption):wpAny M A (storeName X.env x u) Q E s:=
 aFl I hN hi hx r (fun s' I' _=>h s' I') hf
theorem Inv.aC0 {s':Shared} {ch:List Addr} (I:Inv X pins σ H s) (ho:s'.os=s.os) (u:Un (frs X.stack) ch H H' s.heap s'.heap) (hok:HOk X.prog X.w H' s'.heap) (hg:AllBare s'.gens)
  (hch:∀b∈ch,(b∈X.ex∨X.s_0.heap.objs.size≤b)∧b≠X.env.locals∧(∀x c,X.env.cells.lookup x=some c→c≠b)∧∀p∈X.pn++pins,p.1≠b):Inv X pins σ H' s':=by
 obtain ⟨h',g',d',t',o'⟩:=s'
 have e:o'=s.os:=ho
 subst e
 exact I.call (g':=g') (t':=t') (d':=d') u hok hg hch
end
abbrev XK:=Value→Option Addr→Hp→Prop
abbrev St:=List (Option V)
abbrev VK:=V→Hp→Prop
abbrev TE:=St→Hp→VK→Prop
abbrev TT:=St→Hp→(Bool→Hp→Prop)→Prop
abbrev TA:=St→Hp→(List V→Hp→Prop)→Prop
structure Ends where
 nx:St→Hp→Prop
 rt:VK
 bk:St→Hp→Prop:=fun _ _=>False
 ct:St→Hp→Prop:=fun _ _=>False
abbrev TS:=Ends→St→Hp→Prop
def EP (X:Cx) (pins:List (Addr×Obj)) (σ:St) (Q:VK) (u:Value) (s':Shared):Prop:=∃v H',Inv X pins σ H' s'∧RelV v u∧Q v H'
def TP (X:Cx) (pins:List (Addr×Obj)) (σ:St) (Q:Bool→Hp→Prop) (b:Bool) (s':Shared):Prop:=∃H',Inv X pins σ H' s'∧Q b H'
def AP (X:Cx) (pins:List (Addr×Obj)) (σ:St) (Q:List V→Hp→Prop) (us:List Value) (s':Shared):Prop:=∃vs H',Inv X pins σ H' s'∧Vals vs us∧Q vs H'
def SP (X:Cx) (pins:List (Addr×Obj)) (D:Ends) (f:Flow) (s':Shared):Prop:=
 match f with
 | .next=>∃σ' H',Inv X pins σ' H' s'∧D.nx σ' H'
 | .brk=>∃σ' H',Inv X pins σ' H' s'∧D.bk σ' H'
 | .cont=>∃σ' H',Inv X pins σ' H' s'∧D.ct σ' H'
 | .ret u=>∃v σ' H',Inv X pins σ' H' s'∧RelV v u∧D.rt v H'
def PE (X:Cx) (e:Expr) (t:TE):Prop:=
 ∀(pins:List (Addr×Obj)) (s:Shared) (σ:St) (H:Hp) (Q:VK),Inv X pins σ H s→t σ H Q→wpAny (model X.prog X.w) X.A (eval e X.env) (EP X pins σ Q) X.xe s
def PT (X:Cx) (e:Expr) (t:TT):Prop:=
 ∀(pins:List (Addr×Obj)) (s:Shared) (σ:St) (H:Hp) (Q:Bool→Hp→Prop),Inv X pins σ H s→t σ H Q→wpAny (model X.prog X.w) X.A (isTrue e X.env (eval e X.env)) (TP X pins σ Q) X.xe s
def PA (X:Cx) (es:List Expr) (t:TA):Prop:=
 ∀(pos:Pos) (pins:List (Addr×Obj)) (s:Shared) (σ:St) (H:Hp) (Q:List V→Hp→Prop),Inv X pins σ H s→t σ H Q→wpAny (model X.prog X.w) X.A (spliced (backTo pos (starEach es X.env))) (AP X pins σ Q) X.xe s
def PS (X:Cx) (st:Stmt) (t:TS):Prop:=
 ∀(pins:List (Addr×Obj)) (s:Shared) (σ:St) (H:Hp) (D:Ends),Inv X pins σ H s→t D σ H→wpAny (model X.prog X.w) X.A (exec st X.env) (SP X pins D) X.xe s
def PSs (X:Cx) (st:List Stmt) (t:TS):Prop:=
 ∀(pins:List (Addr×Obj)) (s:Shared) (σ:St) (H:Hp) (D:Ends),Inv X pins σ H s→t D σ H→wpAny (model X.prog X.w) X.A (execs st X.env) (SP X pins D) X.xe s
theorem thn {α:Type} {t:Sem α} {Q Q':α→Shared→Prop} {M:Model} {A:Around} {E:Value→Shared→Prop} {s:Shared} (h:wpAny M A t Q E s) (hQ:∀a s,Q a s→Q' a s):wpAny M A t Q' E s:=wpAny_mono h hQ fun _ _ x=>x
end L2
namespace L2
open PySem PySem.Spec PyProof.Rows
section
variable {X:Cx}
theorem bin {a b:Expr} {ta tb:TE} (ha:PE X a ta) (hb:PE X b tb) {pins:List (Addr×Obj)} {s:Shared} {σ:St} {H:Hp} {R:V→V→Hp→Prop} (I:Inv X pins σ H s) (h:ta σ H fun x H1=>tb σ H1 fun y H2=>R x y H2)
  {α:Type} {Q:α→Shared→Prop} {f:Value→Value→Sem α}
  (hf:∀v u s2 x y H2,Inv X pins σ H2 s2→RelV x v→RelV y u→R x y H2→wpAny (model X.prog X.w) X.A (f v u) Q X.xe s2) :
  wpAny (model X.prog X.w) X.A (eval a X.env) (fun v s₁=>wpAny (model X.prog X.w) X.A (eval b X.env) (fun u s₂=>wpAny (model X.prog X.w) X.A (f v u) Q X.xe s₂) X.xe s₁) X.xe s:=by
 refine thn (ha pins s σ H _ I h) fun v s1 ⟨x,H1,I1,r1,q1⟩=>?_
 refine thn (hb pins s1 σ H1 _ I1 q1) fun u s2 ⟨y,H2,I2,r2,q2⟩=>?_
 exact hf v u s2 x y H2 I2 r1 r2 q2
def aF8 (i:Nat):TE:=fun σ H Q=>∃v,σ[i]?=some (some v)∧Q v H
def tC (v:V):TE:=fun _ H Q=>Q v H
theorem eR {i:Nat} {x:Str} {pos:Pos} (hN:X.N[i]?=some x) (hv:Vis X.env.scope x) (hd:(x==("__debug__":Str))=false:=by decide) (hcd:(x==("__classdict__":Str))=false:=by decide):PE X (.Name x pos) (aF8 i):=by
 intro pins s σ H Q I h
 obtain ⟨v,e,h⟩:=h
 obtain ⟨m,hn,hl⟩:=I.loc
 obtain ⟨u,r,l⟩:=hl i x v hN e hv
 have fin:EP X pins σ Q u s:=⟨v,H,I,r,h⟩
 rcases l with ⟨hk,hm⟩ | ⟨hk,c,hc,hcell⟩
 ·exact wpAny_Name (wpAny_loadName_local I.ok.kind hk hn hm fin) hd
 ·rcases hk with hk | hk
  ·exact wpAny_Name (wpAny_loadName_cell I.ok.kind hk hc hcell fin) hd
  ·exact wpAny_Name (wpAny_loadName_free I.ok.kind hk hc hcell fin hcd) hd
theorem dN {i j pos}:PE X (.Constant (.int i) j pos) (tC (.int i)):=fun _ _ _ H _ I h=>wpAny_Constant_int ⟨.int i,H,I.tok _,⟨_,rfl⟩,h⟩
theorem xU {b j pos}:PE X (.Constant (.bool b) j pos) (tC (.bl b)):=fun _ _ _ H _ I h=>Constant_bool ⟨.bl b,H,I,rfl,h⟩
def Gl (X:Cx) (x:Str):Prop:=X.env.kindOf x=some .globalImplicit
theorem nX {E:Value→Shared→Prop} {pins:List (Addr×Obj)} {s:Shared} {σ:St} {H:Hp} {x:Str} {u:Value} {pos:Pos} {Q:Value→Shared→Prop} (I:Inv X pins σ H s) (hg:Gl X x) (hm:X.mg x=some u) (h:Q u s)
  (hd:(x==("__debug__":Str))=false:=by decide):wpAny (model X.prog X.w) X.A (eval (.Name x pos) X.env) Q E s:=
 Calls.Name_function_global I.ok.kind hg (Calls.loadGlobal_global (by rw[I.ok.glob];exact I.mod.glob.keeps I.bk) hm h) hd
theorem nJ {E:Value→Shared→Prop} {pins:List (Addr×Obj)} {s:Shared} {σ:St} {H:Hp} {x:Str} {u:Value} {pos:Pos} {Q:Value→Shared→Prop} (I:Inv X pins σ H s) (hg:Gl X x) (hm:X.mg x=none) (hv:bootBuiltins x=some u) (h:Q u s)
  (hn:x≠"__name__":=by decide) (hd:(x==("__debug__":Str))=false:=by decide):wpAny (model X.prog X.w) X.A (eval (.Name x pos) X.env) Q E s:=by
 obtain ⟨mb,h1,h2⟩:=I.mod.blt
 exact Calls.Name_function_global I.ok.kind hg (Calls.loadGlobal_builtin (by rw[I.ok.glob];exact I.mod.glob.keeps I.bk) hm (by rw[I.ok.blt];exact h1.keeps I.bk) ((h2 x hn).trans hv) h) hd
theorem fZ {x:Str} {v:V} {u:Value} {pos:Pos} (hg:Gl X x) (hm:X.mg x=some u) (r:RelV v u) (hd:(x==("__debug__":Str))=false:=by decide):PE X (.Name x pos) (tC v):=
 fun _ _ _ H _ I h=>nX I hg hm ⟨v,H,I,r,h⟩ hd
def t2I (ta tb:TE) (k:Int→Int→Hp→Prop):St→Hp→Prop:=fun σ H=>ta σ H fun x H1=>tb σ H1 fun y H2=>∃i j,x=.int i∧y=.int j∧k i j H2
variable {a b:Expr} {ta tb:TE} {pos:Pos}
def PC (X:Cx) (op:CmpOp) (a b:Expr) (t:TE):Prop:=
 ∀(pins:List (Addr×Obj)) (s:Shared) (σ:St) (H:Hp) (Q:VK),Inv X pins σ H s→t σ H Q →
  wpAny (model X.prog X.w) X.A (eval a X.env) (fun v s₁=>wpAny (model X.prog X.w) X.A (eval b X.env) (fun u s₂=>wpAny (model X.prog X.w) X.A (compareOp op v u) (EP X pins σ Q) X.xe s₂) X.xe s₁) X.xe s
def gK (p:Int→Int→Bool) (ta tb:TE):TE:=fun σ H Q=>t2I ta tb (fun i j H2=>Q (.bl (p i j)) H2) σ H
abbrev zU:TE→TE→TE:=gK fun i j=>decide (i=j)
abbrev zM:TE→TE→TE:=gK fun i j=>!decide (i=j)
theorem uO {op:CmpOp} {p:Int→Int→Bool} (ha:PE X a ta) (hb:PE X b tb)
  (rule:∀(i j:Int) (t u:Tok) (Q:Value→Shared→Prop) (s:Shared),Q (.bool (p i j)) s→wpAny (model X.prog X.w) X.A (compareOp op (.int i t) (.int j u)) Q X.xe s):PC X op a b (gK p ta tb):=by
 intro pins s σ H Q I h
 refine bin ha hb I h fun v u s2 x y H2 I2 rx ry q=>?_
 obtain ⟨i,j,rfl,rfl,q⟩:=q
 obtain ⟨t,rfl⟩:=rx
 obtain ⟨t',rfl⟩:=ry
 exact rule i j t t' _ s2 ⟨.bl _,H2,I2,rfl,q⟩
theorem qC (ha:PE X a ta) (hb:PE X b tb):PC X .Eq a b (zU ta tb):=uO ha hb fun _ _ _ _ _ _ h=>eq_int (by rw[Bool.beq_eq_decide_eq];exact h)
theorem qR (ha:PE X a ta) (hb:PE X b tb):PC X .NotEq a b (zM ta tb):=uO ha hb fun _ _ _ _ _ _ h=>ne_int (by rw[bne,Bool.beq_eq_decide_eq];exact h)
def tB (t:TE):TT:=fun σ H Q=>t σ H fun x H1=>∃c,x=.bl c∧Q c H1
theorem yJ {op:CmpOp} {t:TE} (h:PC X op a b t) (h1:behindInMarks op b=false:=by first | exact nobehind _ (by decide) (by decide) | rfl):PE X (.Compare a [op] [b] pos) t:=fun pins s σ H Q I hw=>wpAny_Compare1 (h pins s σ H Q I hw) h1
theorem wV {op:CmpOp} {t:TE} (h:PC X op a b t) (h1:behindInMarks op b=false:=by first | exact nobehind _ (by decide) (by decide) | rfl):PT X (.Compare a [op] [b] pos) (tB t):=by
 intro pins s σ H Q I hw
 refine wpAny_isTrue_Compare1 (thn (h pins s σ H _ I hw) fun v s1 h1=>thn h1 fun u s2 h2=>thn h2 fun c s3 ⟨x,H1,I1,r1,q1⟩=>?_) h1
 obtain ⟨d,rfl,q⟩:=q1
 cases r1
 exact wpAny_truthy_bool ⟨H1,I1,q⟩
theorem vJ {e:Expr} {t:TE} (h:PE X e t) (he:∀whole,isTrue e X.env whole=(do let v ←whole;standAt e.pos;holding [v] (truthy v)):=by intro _;rfl):PT X e (tB t):=by
 intro pins s σ H Q I hw
 refine isTrue_plain (thn (h pins s σ H _ I hw) fun v s1 ⟨x,H1,I1,r1,q1⟩=>?_) (he _)
 obtain ⟨d,rfl,q⟩:=q1
 cases r1
 exact wpAny_truthy_bool ⟨H1,I1,q⟩
variable {tA tB':TT} {rest:List Expr}
def aDt (t:TT):TT:=fun σ H Q=>t σ H fun c H1=>Q (!c) H1
theorem aFh (ha:PT X a tA):PT X (.UnaryOp .Not a pos) (aDt tA):=by
 intro pins s σ H Q I h
 exact isTrue_not (ha pins s σ H (fun c H1=>Q (!c) H1) I h)
def aGx (ta tb:TE):TE:=fun σ H Q=>ta σ H fun x H1=>∃c,x=.bl c∧if c=true then Q (.bl true) H1 else tb σ H1 Q
def aF5 (ta:TE):TE:=fun σ H Q=>ta σ H fun x H1=>∃c,x=.bl c∧Q (.bl (!c)) H1
theorem aBi {op} {t:TE} (h:PE X a t):PE X (.BoolOp op [a] pos) t:=fun pins s σ H Q I hw=>BoolOp_one (h pins s σ H Q I hw)
theorem uY (ha:PE X a ta) (hb:PE X (.BoolOp .Or (b::rest) pos) tb):PE X (.BoolOp .Or (a::b::rest) pos) (aGx ta tb):=by
 intro pins s σ H Q I h
 refine BoolOp_or (thn (ha pins s σ H _ I h) fun v s1 ⟨x,H1,I1,r1,q1⟩=>?_)
 obtain ⟨c,rfl,q1⟩:=q1
 cases r1
 refine wpAny_truthy_bool ?_
 cases c with
 | false=>exact hb pins s1 σ H1 Q I1 q1
 | true=>exact ⟨.bl true,H1,I1,rfl,q1⟩
theorem wJ (ha:PE X a ta):PE X (.UnaryOp .Not a pos) (aF5 ta):=by
 intro pins s σ H Q I h
 refine UnaryOp_ (thn (ha pins s σ H _ I h) fun v s1 ⟨x,H1,I1,r1,q1⟩=>?_)
 obtain ⟨c,rfl,q1⟩:=q1
 cases r1
 exact not_of (wpAny_truthy_bool ⟨.bl (!c),H1,I1,rfl,q1⟩)
def tIf (t:TT) (ta tb:TE):TE:=fun σ H Q=>t σ H fun c H1=>if c=true then ta σ H1 Q else tb σ H1 Q
theorem sW {c:Expr} (hc:PT X c tA) (ha:PE X a ta) (hb:PE X b tb):PE X (.IfExp c a b pos) (tIf tA ta tb):=by
 intro pins s σ H Q I h
 refine wpAny_IfExp (thn (hc pins s σ H _ I h) fun d s1 ⟨H1,I1,q1⟩=>?_)
 cases d with
 | true=>exact ha pins s1 σ H1 Q I1 q1
 | false=>exact hb pins s1 σ H1 Q I1 q1
end
end L2
namespace L2
open PySem PySem.Spec PyProof.Rows
def SqL (K:PySem.W.Frag) (H:Hp) (a:Addr) (xs:List V):Prop:=
 Rd H a (.lst xs) ∨
  ∃(o:Obj) (its:Array Value) (n:Nat),K.lookup a=some o∧o.cls=.type "list"∧o.dict=none∧o.data=.seq its n∧its.size≤sizeLine∧Vals xs its.toList
def SqT (K:PySem.W.Frag) (H:Hp) (a:Addr) (xs:List V):Prop:=
 Rd H a (.tup xs) ∨
  ∃(o:Obj) (its:Array Value) (n:Nat),K.lookup a=some o∧o.cls=.type "tuple"∧o.data=.seq its n∧its.size≤sizeLine∧Vals xs its.toList
def aGh:Value→Option V
 | .none=>some .non
 | .bool b=>some (.bl b)
 | .int i _=>some (.int i)
 | .str x _=>some (.str x)
 | .bytes b _=>some (.byt b)
 | .float b _=>some (.flt b)
 | .ref a=>some (.ref a)
 | .type n=>some (.ty n)
 | _=>none
theorem RelV.abs {x:V} {u:Value} (r:RelV x u):aGh u=some x:=by
 cases x with
 | non=>cases r;rfl
 | bl _=>cases r;rfl
 | int _=>obtain ⟨t,rfl⟩:=r;rfl
 | str _=>obtain ⟨t,rfl⟩:=r;rfl
 | byt _=>obtain ⟨t,rfl⟩:=r;rfl
 | flt _=>obtain ⟨t,rfl⟩:=r;rfl
 | ref _=>cases r;rfl
 | ty _=>cases r;rfl
theorem RelV.inj {x y:V} {u:Value} (r:RelV x u) (q:RelV y u):x=y:=Option.some.inj (r.abs.symm.trans q.abs)
theorem Vals.inj:∀{xs ys:List V} {us:List Value},Vals xs us→Vals ys us→xs=ys
 | _,_,_,.nil,.nil=>rfl
 | _,_,_,.cons r t,.cons r' t'=>by rw[r.inj r',Vals.inj t t']
section
variable {X:Cx} {pins:List (Addr×Obj)} {σ:St} {H:Hp} {s:Shared} {a:Addr} {xs ys:List V}
theorem SqL.of {K:PySem.W.Frag} (h:H a=some (.lst xs)):SqL K H a xs:=.inl (.inl h)
theorem Inv.list (I:Inv X pins σ H s) (h:SqL X.K H a xs):∃its:List Value,Vals xs its∧PlainL s.heap a its.toArray∧xs.length≤sizeLine:=by
 rcases h with h | ⟨o,its,n,hk,hc,hd,hs,hz,r⟩
 ·obtain ⟨z,its,n,r,e⟩:=h.ok I.hok
  exact ⟨its,r,⟨_,n,e,rfl,rfl,rfl⟩,z⟩
 ·refine ⟨its.toList,r,⟨o,n,I.kIn a o hk,hc,hd,by simpa using hs⟩,?_⟩
  have e:=r.length
  simp only[Array.length_toList] at e
  omega
theorem Inv.tuple (I:Inv X pins σ H s) (h:SqT X.K H a xs):∃its:List Value,Vals xs its∧IsTup s.heap a its.toArray∧xs.length≤sizeLine:=by
 rcases h with h | ⟨o,its,n,hk,hc,hs,hz,r⟩
 ·obtain ⟨z,its,r,p⟩:=h.ok I.hok
  exact ⟨its,r,p,z⟩
 ·refine ⟨its.toList,r,⟨o,I.kIn a o hk,hc,n,by simpa using hs⟩,?_⟩
  have e:=r.length
  simp only[Array.length_toList] at e
  omega
theorem Inv.aC7 (I:Inv X pins σ H s) (h:SqL X.K H a xs) (h':SqL X.K H a ys):xs=ys:=by
 obtain ⟨its,r,⟨o,n,e,_,_,d⟩,_⟩:=I.list h
 obtain ⟨its',r',⟨o',n',e',_,_,d'⟩,_⟩:=I.list h'
 rw[e] at e';cases e'
 rw[d] at d'
 injection d' with d1 _
 have:its=its':=by simpa using congrArg Array.toList d1
 subst this
 exact r.inj r'
end
abbrev Cx.cQ (X:Cx) (E:Value→Shared→Prop):Cx:={ X with xe:=E }
abbrev Cx.nox (X:Cx):Cx:=X.cQ fun _ _=>False
theorem Cx.Ok.cQ {X:Cx} (ok:X.Ok) (E:Value→Shared→Prop):(X.cQ E).Ok:=
 ⟨ok.mod,ok.kind,ok.glob,ok.blt,ok.above,ok.inj,ok.has,ok.cab,ok.hd,ok.frames,ok.stk,ok.exf,ok.bs,ok.bsz,ok.noex,ok.exfs,ok.cJ,ok.frf⟩
theorem Cx.Ok.dS {X:Cx} {E:Value→Shared→Prop} (ok:(X.cQ E).Ok):X.Ok:=
 ⟨ok.mod,ok.kind,ok.glob,ok.blt,ok.above,ok.inj,ok.has,ok.cab,ok.hd,ok.frames,ok.stk,ok.exf,ok.bs,ok.bsz,ok.noex,ok.exfs,ok.cJ,ok.frf⟩
section
variable {X:Cx} {pins:List (Addr×Obj)} {σ:St} {H:Hp} {s:Shared} {E:Value→Shared→Prop}
theorem Inv.cQ (I:Inv X pins σ H s) (E:Value→Shared→Prop):Inv (X.cQ E) pins σ H s:=⟨I.ok.cQ E,I.os,I.bare,I.base,I.loc,I.cell,I.free,I.freeC,I.pin,I.hok,I.len⟩
theorem Inv.dS (I:Inv (X.cQ E) pins σ H s):Inv X pins σ H s:=⟨I.ok.dS,I.os,I.bare,I.base,I.loc,I.cell,I.free,I.freeC,I.pin,I.hok,I.len⟩
theorem SP.dS {D:Ends} {f:Flow} {s':Shared} (h:SP (X.cQ E) pins D f s'):SP X pins D f s':=by
 cases f with
 | next=>obtain ⟨σ',H',I,q⟩:=h;exact ⟨σ',H',I.dS,q⟩
 | brk=>obtain ⟨σ',H',I,q⟩:=h;exact ⟨σ',H',I.dS,q⟩
 | cont=>obtain ⟨σ',H',I,q⟩:=h;exact ⟨σ',H',I.dS,q⟩
 | ret u=>obtain ⟨v,σ',H',I,r,q⟩:=h;exact ⟨v,σ',H',I.dS,r,q⟩
theorem PSs.nox {st:List Stmt} {t:TS} (h:PSs X.nox st t):PSs X st t:=fun pins s σ H D I hw=>
 wpAny_mono (h pins s σ H D (I.cQ _) hw) (fun _ _ q=>q.dS) fun _ _ z=>False.elim z
end
section
variable {X:Cx} {st:Stmt} {rest:List Stmt} {t u:TS} {e:Expr} {te:TE} {pos:Pos}
def aBn:TS:=fun D σ H=>D.nx σ H
def aAa (t u:TS):TS:=fun D σ H=>t { D with nx:=u D } σ H
theorem jL:PSs X [] aBn:=fun _ _ σ H _ I h=>wpAny_execs_nil ⟨σ,H,I,h⟩
theorem bC (h1:PS X st t) (h2:PSs X rest u):PSs X (st::rest) (aAa t u):=by
 intro pins s σ H D I h
 refine wpAny_execs_cons (thn (h1 pins s σ H { D with nx:=u D } I h) fun f s1 q=>?_)
 cases f with
 | next=>
  obtain ⟨σ',H',I',q⟩:=q
  exact h2 pins s1 σ' H' D I' q
 | ret v=>exact q
 | brk=>exact q
 | cont=>exact q
theorem Inv.quiet {pins:List (Addr×Obj)} {σ:St} {H:Hp} {s:Shared} (I:Inv X pins σ H s):interactive X.env=false:=by simp [interactive,I.ok.kind]
def yC (te:TE):TS:=fun D σ H=>te σ H fun _ H1=>D.nx σ H1
theorem aFc (he:PE X e te) (hs:swapsWith e none pos.line X.env=pure false:=by rfl):PS X (.Expr e pos) (yC te):=by
 intro pins s σ H D I h
 exact wpAny_Expr_any (thn (he pins s σ H _ I h) fun v s1 ⟨x,H1,I1,r1,q1⟩=>⟨σ,H1,I1,q1⟩) I.quiet hs
def aG3 (te:TE):TS:=fun D σ H=>te σ H D.rt
theorem lH (he:PE X e te):PS X (.Return (some e) pos) (aG3 te):=by
 intro pins s σ H D I h
 exact wpAny_Return_some (thn (he pins s σ H _ I h) fun v s1 ⟨x,H1,I1,r1,q1⟩=>⟨x,σ,H1,I1,r1,q1⟩)
def aEa (c:TT) (t u:TS):TS:=fun D σ H=>c σ H fun b H1=>if b=true then t D σ H1 else u D σ H1
theorem oO {c:Expr} {a b:List Stmt} {tc:TT} (hc:PT X c tc) (ha:PSs X a t) (hb:PSs X b u):PS X (.If c a b pos) (aEa tc t u):=by
 intro pins s σ H D I h
 refine wpAny_If (thn (hc pins s σ H _ I h) fun d s1 ⟨H1,I1,q1⟩=>?_)
 cases d with
 | true=>exact ha pins s1 σ H1 D I1 q1
 | false=>exact hb pins s1 σ H1 D I1 q1
def aE9:TS:=fun _ _ _=>False
theorem lP {sts:List Stmt}:PSs X sts aE9:=fun _ _ _ _ _ _ h=>h.elim
end
abbrev TG:=V→St→Hp→(St→Hp→Prop)→Prop
def PG (X:Cx) (target:Expr) (t:TG):Prop:=
 ∀(pins:List (Addr×Obj)) (s:Shared) (σ:St) (H:Hp) (v:V) (u:Value) (Q:St→Hp→Prop),Inv X pins σ H s→RelV v u→t v σ H Q →
  wpAny (model X.prog X.w) X.A (assign target X.env u) (fun _ s'=>∃σ' H',Inv X pins σ' H' s'∧Q σ' H') X.xe s
abbrev nU:=V→V→V→Hp→(Hp→Prop)→Prop
def sE (X:Cx) (t:nU):Prop:=
 ∀(pins:List (Addr×Obj)) (s:Shared) (σ:St) (H:Hp) (o i v:V) (ov iv u:Value) (Q:Hp→Prop),Inv X pins σ H s→RelV o ov→RelV i iv→RelV v u→t o i v H Q →
  wpAny (model X.prog X.w) X.A (setItem ov iv u) (fun _ s'=>∃H',Inv X pins σ H' s'∧Q H') X.xe s
section
variable {X:Cx} {pos:Pos}
def mQ (i:Nat):TG:=fun v σ H Q=>Q (σ.set i (some v)) H
theorem hW {i:Nat} {x:Str} (hN:X.N.Nodup) (hi:X.N[i]?=some x) (hx:Loc X.env.scope x) (hf:X.fn x=true∨X.env.scope.names.lookup x=some .local:=by first | exact .inl rfl | exact .inr rfl | assumption):PG X (.Name x pos) (mQ i):=by
 intro pins s σ H v u Q I r h
 exact wpAny_assign_Name (rF I hN hi hx r (fun s' I'=>⟨_,H,I',h⟩) hf)
def aDu (to ti:TE) (t:nU):TG:=fun v σ H Q=>to σ H fun o H1=>ti σ H1 fun i H2=>t o i v H2 fun H3=>Q σ H3
theorem aDc {o i:Expr} {to ti:TE} {t:nU} (ho:PE X o to) (hi:PE X i ti) (hs:sE X t)
  (ha:∀v,assign (.Subscript o i pos) X.env v=(do
   let ov ←holding [v] (eval o X.env)
   let iv ←holding [v,ov] (eval i X.env)
   standAt pos
   holding [v,ov,iv] (setItem ov iv v)
   release [v,ov,iv] []):=by intro _;rfl):PG X (.Subscript o i pos) (aDu to ti t):=by
 intro pins s σ H v u Q I r h
 rw[ha]
 refine wpAny_bind (wpAny_holding (thn (ho pins s σ H _ I h) fun ov s1 ⟨x,H1,I1,r1,q1⟩=>?_))
 refine wpAny_bind (wpAny_holding (thn (hi pins s1 σ H1 _ I1 q1) fun iv s2 ⟨y,H2,I2,r2,q2⟩=>?_))
 refine wpAny_bind (wpAny_standAt (wpAny_bind (wpAny_holding (thn (hs pins s2 σ H2 x y v ov iv u _ I2 r1 r2 r q2) fun _ s3 ⟨H3,I3,q3⟩=>?_))))
 exact wpAny_release ⟨σ,H3,I3,q3⟩
def pT (te:TE) (g:TG):TS:=fun D σ H=>te σ H fun x H1=>g x σ H1 D.nx
theorem vR {tg e:Expr} {te:TE} {g:TG} (he:PE X e te) (hg:PG X tg g) (hs:swapsWithSole [tg] e pos.line X.env=pure false:=by rfl) (hw:swappedStores [tg] e X.env=pure none:=by rfl)
  (h1:(assignEach [tg] X.env).map (·.2)=[assign tg X.env]:=by rfl):PS X (.Assign [tg] e pos) (pT te g):=by
 intro pins s σ H D I h
 refine wpAny_Assign_stores (thn (he pins s σ H _ I h) fun v s1 ⟨x,H1,I1,r1,q1⟩=>?_) hs hw
 rw[h1]
 exact thn (hg pins s1 σ H1 x v _ I1 r1 q1) fun _ s2 q=>q
theorem kI {i:Nat} {x:Str} {e:Expr} {te:TE} {pos':Pos} (hN:X.N.Nodup) (hi:X.N[i]?=some x) (hx:Loc X.env.scope x) (he:PE X e te) (hs:swapsWith e (some (.Name x pos')) pos.line X.env=pure false:=by rfl) (hf:X.fn x=true∨X.env.scope.names.lookup x=some .local:=by first | exact .inl rfl | exact .inr rfl | assumption) :
  PS X (.Assign [.Name x pos'] e pos) (pT te (mQ i)):=by
 intro pins s σ H D I h
 refine wpAny_Assign_Name (thn (he pins s σ H _ I h) fun v s1 ⟨y,H1,I1,r1,q1⟩=>?_) hs
 exact rF I1 hN hi hx r1 (fun s2 I2=>⟨_,H1,I2,q1⟩) hf
end
section
variable {X:Cx} {pos:Pos}
end
structure It where
 go:Nat→Hp→Prop
 yld:Nat→Hp→V→Hp→Prop
 stop:Nat→Hp→Prop
def cU (X:Cx) (pins:List (Addr×Obj)) (H:Hp) (b:Addr):Prop:=
 H b=none∧b≠X.env.locals∧b∉X.fs∧(b∈X.ex∨X.s_0.heap.objs.size≤b)∧(∀x c,X.env.cells.lookup x=some c→c≠b)∧∀p∈X.pn++pins,p.1≠b
theorem Inv.iA {X:Cx} {pins:List (Addr×Obj)} {σ:St} {H H':Hp} {s:Shared} {b:Addr} (I:Inv X pins σ H s) (hb:s.heap.objs.size≤b) (hn:H' b=none):cU X pins H' b:=by
 refine ⟨hn,Nat.ne_of_gt (Nat.lt_of_lt_of_le I.lt hb),I.xN hb,.inr (Nat.le_trans I.sz hb),fun x c e z=>?_,fun p hp z=>?_⟩
 ·obtain ⟨v,q⟩:=I.cell x c e
  exact absurd (Nat.lt_of_lt_of_le q.lt (by rw[z];exact hb)) (Nat.lt_irrefl _)
 ·exact absurd (Nat.lt_of_lt_of_le (Heap.lt_size (I.pin p hp).1) (by rw[z];exact hb)) (Nat.lt_irrefl _)
structure Turn (P:Program) (w:World) (K:PySem.W.Frag) (tg:Expr) (J:It) (fp:List Addr) (it:Addr) (tn:Nat→Heap→Prop):Prop where
 mem:it∈fp
 obj:∀i h,tn i h→∀b∈fp,∃o,h.get? b=some o∧∀v,o.data≠.cell v
 keep:∀i h h',tn i h→(∀b∈fp,∀o,h.get? b=some o→h'.get? b=some o)→tn i h'
 item:∀(X:Cx),X.prog=P→X.w=w→X.K=K→X.calm=true→∀(i:Nat) (pins:List (Addr×Obj)) (s:Shared) (σ:St) (H:Hp) (E:Value→Shared→Prop),Inv X pins σ H s→(∀b∈fp,cU X pins H b)→tn i s.heap→J.go i H →
  wpAny (model P w) X.A (pyNext (.ref it)) (fun r s1=>∃u,r=some u ∧
   wpAny (model P w) X.A (letOwnedTupleGo tg (.ref it) u) (fun _ s2=>∃x H',Inv X pins σ H' s2∧RelV x u∧J.yld i H x H'∧tn (i+1) s2.heap∧∀b∈fp,H' b=none) E s1) E s
 done:∀(X:Cx),X.prog=P→X.w=w→X.K=K→X.calm=true→∀(i:Nat) (pins:List (Addr×Obj)) (s:Shared) (σ:St) (H:Hp) (E:Value→Shared→Prop),Inv X pins σ H s→(∀b∈fp,cU X pins H b)→tn i s.heap→J.stop i H →
  wpAny (model P w) X.A (pyNext (.ref it)) (fun r s1=>r=none∧Inv X pins σ H s1) E s
 self:∀(A:Around) (i:Nat) (s:Shared) (Q:Value→Shared→Prop) (E:Value→Shared→Prop),tn i s.heap→Q (.ref it) s→wpAny (model P w) A (pyIter (.ref it)) Q E s
abbrev TI:=St→Hp→(It→Hp→Prop)→Prop
def PIE (X:Cx) (pins:List (Addr×Obj)) (σ:St) (tg:Expr) (R:It→Hp→Prop) (itv:Value) (s2:Shared):Prop:=
 ∃(it:Addr) (fp:List Addr) (tn:Nat→Heap→Prop) (J:It) (H':Hp),itv=.ref it∧Inv X pins σ H' s2∧Turn X.prog X.w X.K tg J fp it tn∧tn 0 s2.heap∧(∀b∈fp,cU X pins H' b)∧R J H'
def PI (X:Cx) (tg iter:Expr) (wi:TI):Prop:=
 ∀(pins:List (Addr×Obj)) (s:Shared) (σ:St) (H:Hp) (R:It→Hp→Prop),Inv X pins σ H s→wi σ H R →
  wpAny (model X.prog X.w) X.A (eval iter X.env) (fun v s1=>wpAny (model X.prog X.w) X.A (pyIter v) (PIE X pins σ tg R) X.xe s1) X.xe s
theorem nE {M:Model} {A:Around} {E:Value→Shared→Prop} {s:Shared} {tg:Expr} {it:Addr} {u:Value} {o:Obj} {n:String} {vs:Array Value} {Q:Unit→Shared→Prop} (ho:s.heap.get? it=some o) (hc:o.cls=.type n) (hd:o.data=.fields vs)
  (hn:["enumerate","zip","dict_itemiterator","dict_reverseitemiterator","odict_iterator","itertools.zip_longest","itertools.pairwise"].contains n=false) (hQ:Q () s):wpAny M A (letOwnedTupleGo tg (.ref it) u) Q E s:=by
 unfold letOwnedTupleGo
 cases tg<;>first
  | exact wpAny_pure hQ
  | (cases u<;>first
      | exact wpAny_pure hQ
      | (refine wpAny_bind (wpAny_load ho ?_)
         rw[hc,hd]
         show wpAny M A (if (["enumerate","zip","dict_itemiterator","dict_reverseitemiterator","odict_iterator","itertools.zip_longest","itertools.pairwise"].contains n&&vs[0]?==some (rawInt _))=true then _ else _) Q E s
         rw[if_neg (by intro h;rw[hn,Bool.false_and] at h;cases h)]
         exact wpAny_pure hQ))
def Itl (K:PySem.W.Frag) (a:Addr):It:=
 ⟨fun i H=>∃xs x,SqL K H a xs∧xs[i]?=some x,fun i H x H'=>H'=H∧∀xs,SqL K H a xs→xs[i]?=some x,fun i H=>∃xs,SqL K H a xs∧xs.length≤i⟩
def Itr (lo:Int) (n:Nat):It:=⟨fun i _=>i<n,fun i H x H'=>H'=H∧x=.int (lo+i),fun i _=>n≤i⟩
theorem aD9 {P:Program} {w:World} {K:PySem.W.Frag} {tg:Expr} (a it:Addr):Turn P w K tg (Itl K a) [it] it (fun i h=>h.IsListIter it a i) where
 mem:=by simp
 obj:=fun i h st b hb=>by
  have e:b=it:=by simpa using hb
  subst e
  obtain ⟨o,e,c,d⟩:=st
  exact ⟨o,e,fun v z=>by rw[d] at z;cases z⟩
 keep:=fun i h h' st k=>st.at fun o e=>k it (by simp) o e
 item:=by
  intro X hP hw hK hc i pins s σ H E I hf st hg
  subst hP hw hK
  obtain ⟨xs,x,hq,hx⟩:=hg
  obtain ⟨its,rv,p,hz⟩:=I.list hq
  obtain ⟨u,hu,ru⟩:=rv.get hx
  obtain ⟨f0,f1,f2,f3,f4,f5⟩:=hf it (by simp)
  refine wpAny_pyNext_list_item st p.isList (x:=u) (by simpa using hu) fun h' st' sb=>?_
  have I1:Inv X pins σ H { s with heap:=h' }:=I.turned (t':=s.toks) (fun b o hb e=>(sb.2 b hb).trans e) f0 f1 f3 f4 f5
  obtain ⟨o,e,c,d⟩:=id st'
  exact ⟨u,rfl,nE (s:={ s with heap:=h' }) e c d (by decide) ⟨x,H,I1,ru,⟨rfl,fun ys hy=>by rw[I.aC7 hy hq];exact hx⟩,st',fun b hb=>(hf b hb).1⟩⟩
 done:=by
  intro X hP hw hK hc i pins s σ H E I hf st hg
  subst hP hw hK
  obtain ⟨xs,hq,hx⟩:=hg
  obtain ⟨its,rv,p,hz⟩:=I.list hq
  obtain ⟨f0,f1,f2,f3,f4,f5⟩:=hf it (by simp)
  have hl:=rv.length
  exact wpAny_pyNext_list_end (I.ok.hd hc) st p.isList (by simp;omega) fun h' eb=>⟨rfl,I.turned (t':=s.toks) (fun b o hb e=>eb b o hb e) f0 f1 f3 f4 f5⟩
 self:=fun _ _ _ _ _ st h=>wpAny_pyIter_listiter st h
theorem aC4 {P:Program} {w:World} {K:PySem.W.Frag} {tg:Expr} (it:Addr) (lo:Int) (n:Nat):Turn P w K tg (Itr lo n) [it] it (fun i h=>IsRangeIter h it (lo+(i:Nat)*1) ((n:Int)-(i:Nat)) 1) where
 mem:=by simp
 obj:=fun i h st b hb=>by
  have e:b=it:=by simpa using hb
  subst e
  exact ⟨_,st,fun v z=>by
   have z':Data.fields _=Data.cell v:=z
   cases z'⟩
 keep:=fun i h h' st k=>k it (by simp) _ st
 item:=by
  intro X hP hw hK hc i pins s σ H E I hf st hg
  subst hP hw hK
  obtain ⟨f0,f1,f2,f3,f4,f5⟩:=hf it (by simp)
  have W:=Walks.range (prog:=X.prog) (w:=X.w) (I.ok.hd hc) it lo 1 n
  refine W.item i s _ _ hg st fun v h' tk hv st' kk=>?_
  obtain ⟨t,rfl⟩:=hv
  have I1:Inv X pins σ H { s with heap:=h',toks:=tk }:=I.turned (fun b o hb e=>kk b o (by simpa using hb) e) f0 f1 f3 f4 f5
  refine ⟨_,rfl,nE (s:={ s with heap:=h',toks:=tk }) (n:="range_iterator") st' rfl rfl (by decide) ⟨.int (lo+i),H,I1,⟨t,?_⟩,⟨rfl,rfl⟩,st',fun b hb=>(hf b hb).1⟩⟩
  rw[Int.mul_one]
 done:=by
  intro X hP hw hK hc i pins s σ H E I hf st hg
  subst hP hw hK
  obtain ⟨f0,f1,f2,f3,f4,f5⟩:=hf it (by simp)
  exact wpAny_pyNext_range_end (I.ok.hd hc) st (by have:n≤i:=hg;omega) fun h' eb=>⟨rfl,I.turned (t':=s.toks) (fun b o hb e=>eb b o hb e) f0 f1 f3 f4 f5⟩
 self:=fun _ _ _ _ _ st h=>wpAny_pyIter_rangeiter st h
end L2
namespace L2
open PySem PySem.Spec PyProof.Rows
section
variable {X:Cx} {tg:Expr}
def yX (K:PySem.W.Frag) (tl:TE):TI:=fun σ H R=>tl σ H fun x H1=>∃a,x=.ref a∧(∃xs,SqL K H1 a xs)∧R (Itl K a) H1
theorem aBe {l:Expr} {tl:TE} (hl:PE X l tl):PI X tg l (yX X.K tl):=by
 intro pins s σ H R I h
 refine thn (hl pins s σ H _ I h) fun v s1 ⟨x,H1,I1,r1,q1⟩=>?_
 obtain ⟨a,e,⟨xs,hq⟩,q⟩:=q1
 subst e
 cases r1
 obtain ⟨its,rv,p,hz⟩:=I1.list hq
 refine wpAny_pyIter_list p.isList ?_
 refine ⟨s1.heap.objs.size,[s1.heap.objs.size],_,_,H1,rfl,I1.kept (t':=s1.toks) fun b o e=>Heap.get?_push_of_some _ e,aD9 a _,⟨_,Heap.get?_push_size _ rfl,rfl,rfl⟩,fun b hb=>?_,q⟩
 have e:b=s1.heap.objs.size:=by simpa using hb
 subst e
 exact I1.iA (Nat.le_refl _) (I1.hok.fresh (Nat.le_refl _))
theorem aFu {pins:List (Addr×Obj)} {σ:St} {H:Hp} {s:Shared} {R:It→Hp→Prop} {E:Value→Shared→Prop} {lo hi:Int} {t u v:Tok} {tk:Nat} (I:Inv X pins σ H s) (h1:-(2^62)≤lo) (h2:lo<2^62) (h3:-(2^62)≤hi) (h4:hi<2^62)
  (q:R (Itr lo (hi-lo).toNat) H):wpAny (model X.prog X.w) X.A (pyIter (.ref s.heap.objs.size)) (PIE X pins σ tg R) E { s with heap:=s.heap.push { cls:=.type "range",data:=.fields #[.int lo t,.int hi u,.int 1 v] },toks:=tk }:=by
 refine wpAny_pyIter_range (IsRange.new ..) (small_one h1 h2 h3 h4) ?_
 have I1:Inv X pins σ H { s with heap:=s.heap.push { cls:=.type "range",data:=.fields #[.int lo t,.int hi u,.int 1 v] },toks:=tk }:=I.kept fun b o e=>Heap.get?_push_of_some _ e
 refine ⟨(s.heap.push { cls:=.type "range",data:=.fields #[.int lo t,.int hi u,.int 1 v] }).objs.size,[(s.heap.push { cls:=.type "range",data:=.fields #[.int lo t,.int hi u,.int 1 v] }).objs.size],_,_,H,rfl,
  I1.kept (t':=tk) fun b o e=>Heap.get?_push_of_some _ e,aC4 _ lo (hi-lo).toNat,?_,fun b hb=>?_,q⟩
 ·have e1:lo+((0:Nat):Int)*1=lo:=by simp
  have e2:(((hi-lo).toNat:Nat):Int)-((0:Nat):Int)=Builtin.Range.rangeSize lo hi 1:=by rw[rangeSize_one];split<;>omega
  show IsRangeIter _ _ (lo+((0:Nat):Int)*1) ((((hi-lo).toNat:Nat):Int)-((0:Nat):Int)) 1
  rw[e1,e2]
  exact Heap.get?_push_size _ rfl
 ·have e:b=(s.heap.push { cls:=.type "range",data:=.fields #[.int lo t,.int hi u,.int 1 v] }).objs.size:=by simpa using hb
  subst e
  exact I1.iA (Nat.le_refl _) (I1.hok.fresh (Nat.le_refl _))
def aD4 (ta:TA):TI:=fun σ H R=>ta σ H fun vs H1=>∃j:Int,vs=[.int j]∧-(2^62)≤j∧j<2^62∧R (Itr 0 j.toNat) H1
theorem aA0 {a:Expr} {ta:TA} {p pos:Pos} (hg:Gl X "range") (hm:X.mg "range" = none) (ha:PA X [a] ta) (hs:starEach [a] X.env=[(false,eval a X.env)]:=by rfl):PI X tg (.Call (.Name "range" p) [a] [] pos) (aD4 ta):=by
 intro pins s σ H R I h
 refine Call_ (nJ I hg hm boot_range (PyProof.Rows.callWith_type1 (thn (ha pos pins s σ H _ I h) fun us s1 ⟨vs,H1,I1,r1,q1⟩=>?_) hs rfl))
 obtain ⟨j,e,q1,q2,q⟩:=q1
 subst e
 cases r1 with
 | cons r rr=>
  cases rr
  obtain ⟨t,rfl⟩:=r
  exact call_range_1 (aFu I1 (by omega) (by omega) q1 q2 (by simpa using q))
def aDq (wi:TI) (g:TG) (tb:TS):TS:=fun D σ H=>wi σ H fun J H1=>∃W:Nat→Nat→St→Hp→Prop,(∃m,W 0 m σ H1)∧∀i m σ H,W i m σ H →
 (J.stop i H∧D.nx σ H)∨(J.go i H∧∃N:St→Hp→Prop,(∀σ' H',N σ' H'→∃m',m'<m∧W (i+1) m' σ' H')∧∀x H',J.yld i H x H'→g x σ H' fun σ2 H2=>tb { D with nx:=N,ct:=N,bk:=D.nx } σ2 H2)
def gH (fp:List Addr) (h:Heap):List (Addr×Obj):=fp.filterMap fun b=>(h.get? b).map fun o=>(b,o)
theorem jZ {fp:List Addr} {h:Heap} {b:Addr} {o:Obj} (hb:b∈fp) (e:h.get? b=some o):(b,o)∈gH fp h:=List.mem_filterMap.mpr ⟨b,hb,by rw[e];rfl⟩
theorem vU {fp:List Addr} {h:Heap} {p:Addr×Obj} (hp:p∈gH fp h):p.1∈fp∧h.get? p.1=some p.2:=by
 obtain ⟨b,hb,e⟩:=List.mem_filterMap.mp hp
 cases q:h.get? b with
 | none=>rw[q] at e;cases e
 | some o=>
  rw[q] at e
  have e':(b,o)=p:=Option.some.inj e
  subst e'
  exact ⟨hb,q⟩
theorem Inv.pinned {pins:List (Addr×Obj)} {σ:St} {H:Hp} {s:Shared} {fp:List Addr} (I:Inv X pins σ H s) (hf:∀b∈fp,cU X pins H b) (ho:∀b∈fp,∃o,s.heap.get? b=some o∧∀v,o.data≠.cell v):Inv X (pins++gH fp s.heap) σ H s:=
 I.rZ fun p hp=>(List.mem_append.mp hp).elim (fun z=>I.pin p (List.mem_append_right _ z)) fun z=>by
  obtain ⟨hb,e⟩:=vU z
  obtain ⟨f0,f1,f2,_⟩:=hf p.1 hb
  obtain ⟨o,e',d⟩:=ho p.1 hb
  rw[e] at e';cases e'
  exact ⟨e,f0,f1,f2,d⟩
theorem Inv.jO {pins pl:List (Addr×Obj)} {σ:St} {H:Hp} {s:Shared} (I:Inv X (pins++pl) σ H s):Inv X pins σ H s:=I.rZ fun p hp=>I.pin p (List.mem_append_right _ (List.mem_append_left _ hp))
theorem sY {iter:Expr} {body:List Stmt} {wi:TI} {g:TG} {tb:TS} {pos:Pos} (hp:PassesOwn (model X.prog X.w) X.A X.env X.xe) (hc:X.calm=true) (hi:PI X tg iter wi) (hg:PG X tg g) (hb:PSs X body tb)
  (hs:∀x,foldedSetIterable iter X.env x=pure x:=by intro _;rfl):PS X (.For tg iter body [] pos) (aDq wi g tb):=by
 intro pins s σ H D I h
 refine wpAny_For (thn (hi pins s σ H _ I h) fun v s1 h1=>thn h1 fun itv s2 h2=>?_) hs
 obtain ⟨it,fp,tn,J,H2,e,I2,T,st2,f2,W,⟨m0,w0⟩,turn⟩:=h2
 subst e
 -- what stays true of the iterator's objects through the loop
 have stat:∀{H':Hp},(∀b∈fp,H' b=none)→∀b∈fp,cU X pins H' b:=fun hn b hb=>⟨hn b hb,(f2 b hb).2⟩
 refine codeAny_forLoop_any (fun n s'=>∃i σ' H',Inv X pins σ' H' s'∧tn i s'.heap∧(∀b∈fp,H' b=none)∧W i n σ' H') ?_ m0 ⟨0,σ,H2,I2,st2,fun b hb=>(f2 b hb).1,w0⟩
 rintro n s3 ⟨i,σ3,H3,I3,st3,fr3,w3⟩
 rcases turn i n σ3 H3 w3 with ⟨stop,qn⟩ | ⟨go,N,hN,step⟩
 ·refine wpAny_passesOwn hp (thn (T.done X rfl rfl rfl hc i pins s3 σ3 H3 X.xe I3 (stat fr3) st3 stop) fun r s4 ⟨hr,I4⟩=>?_)
  subst hr
  exact wpAny_execs_nil ⟨σ3,H3,I4,qn⟩
 ·refine wpAny_passesOwn hp (thn (T.item X rfl rfl rfl hc i pins s3 σ3 H3 X.xe I3 (stat fr3) st3 go) fun r s4 ⟨u,hr,h4⟩=>?_)
  subst hr
  refine wpAny_passesOwn hp (thn h4 fun _ s5 ⟨x,H5,I5,r5,y5,st5,fr5⟩=>?_)
  have I5':=I5.pinned (stat fr5) (T.obj _ _ st5)
  refine wpAny_passesOwn hp (thn (hg _ s5 σ3 H5 x u _ I5' r5 (step x H5 y5)) fun _ s6 ⟨σ6,H6,I6,q6⟩=>?_)
  refine wpAny_passesOwn hp (thn (hb _ s6 σ6 H6 _ I6 q6) fun f s7 q7=>?_)
  have again:∀{σ7:St} {H7:Hp},Inv X (pins++gH fp s5.heap) σ7 H7 s7→N σ7 H7→∃m,m<n∧∃i σ' H',Inv X pins σ' H' s7∧tn i s7.heap∧(∀b∈fp,H' b=none)∧W i m σ' H':=fun {σ7 H7} I7 n7=>by
   obtain ⟨m',hm,w7⟩:=hN σ7 H7 n7
   refine ⟨m',hm,i+1,σ7,H7,I7.jO,T.keep _ _ _ st5 fun b hb o e=>(I7.pin (b,o) (List.mem_append_right _ (List.mem_append_right _ (jZ hb e)))).1,fun b hb=>?_,w7⟩
   obtain ⟨o,e,d⟩:=T.obj _ _ st5 b hb
   exact (I7.pin (b,o) (List.mem_append_right _ (List.mem_append_right _ (jZ hb e)))).2.1
  cases f with
  | next=>obtain ⟨σ7,H7,I7,n7⟩:=q7;exact again I7 n7
  | cont=>obtain ⟨σ7,H7,I7,n7⟩:=q7;exact again I7 n7
  | brk=>obtain ⟨σ7,H7,I7,q7⟩:=q7;exact ⟨σ7,H7,I7.jO,q7⟩
  | ret v=>obtain ⟨x7,σ7,H7,I7,r7,q7⟩:=q7;exact ⟨x7,σ7,H7,I7.jO,r7,q7⟩
end
theorem aFf {lo:Int} {n:Nat} {g:TG} {tb:TS} {D:Ends} {σ:St} {H:Hp} (Pv:Nat→St→Hp→Prop) (h0:Pv 0 σ H)
  (hs:∀i σ H,i<n→Pv i σ H→g (.int (lo+i)) σ H fun σ2 H2=>tb { D with nx:=Pv (i+1),ct:=Pv (i+1),bk:=D.nx } σ2 H2) (hd:∀σ H,Pv n σ H→D.nx σ H) :
  ∃W:Nat→Nat→St→Hp→Prop,(∃m,W 0 m σ H)∧∀i m σ H,W i m σ H →
   ((Itr lo n).stop i H∧D.nx σ H)∨((Itr lo n).go i H∧∃N:St→Hp→Prop,(∀σ' H',N σ' H'→∃m',m'<m∧W (i+1) m' σ' H')∧∀x H',(Itr lo n).yld i H x H'→g x σ H' fun σ2 H2=>tb { D with nx:=N,ct:=N,bk:=D.nx } σ2 H2):=by
 refine ⟨fun i m σ H=>m=n-i∧i≤n∧Pv i σ H,⟨n,by simp,Nat.zero_le _,h0⟩,?_⟩
 rintro i m σ H ⟨rfl,hi,p⟩
 by_cases hlt:i<n
 ·refine .inr ⟨hlt,Pv (i+1),fun σ' H' p'=>⟨n-(i+1),by omega,rfl,hlt,p'⟩,fun x H' y=>?_⟩
  obtain ⟨e,y⟩:=y
  subst e y
  exact hs i σ _ hlt p
 ·have e:i=n:=by omega
  subst e
  exact .inl ⟨Nat.le_refl _,hd σ H p⟩
end L2
namespace L2
open PySem PySem.Spec PyProof.Rows
abbrev R2:=V→V→Hp→VK→Prop
def OpR (X:Cx) (f:Value→Value→Sem Value) (r:R2):Prop:=
 ∀(pins:List (Addr×Obj)) (s:Shared) (σ:St) (H:Hp) (x y:V) (v u:Value) (Q:VK),Inv X pins σ H s→RelV x v→RelV y u→r x y H Q →
  wpAny (model X.prog X.w) X.A (f v u) (EP X pins σ Q) X.xe s
def UnR (X:Cx) (f:Value→Sem Value) (r:V→Hp→VK→Prop):Prop:=
 ∀(pins:List (Addr×Obj)) (s:Shared) (σ:St) (H:Hp) (x:V) (v:Value) (Q:VK),Inv X pins σ H s→RelV x v→r x H Q →
  wpAny (model X.prog X.w) X.A (f v) (EP X pins σ Q) X.xe s
def tU (X:Cx) (f:Value) (r:List V→Hp→VK→Prop):Prop:=
 ∀(pins:List (Addr×Obj)) (s:Shared) (σ:St) (H:Hp) (xs:List V) (us:List Value) (Q:VK),Inv X pins σ H s→Vals xs us→r xs H Q →
  wpAny (model X.prog X.w) X.A (call f us) (EP X pins σ Q) X.xe s
def tOp (r:R2) (ta tb:TE):TE:=fun σ H Q=>ta σ H fun x H1=>tb σ H1 fun y H2=>r x y H2 Q
def tUn (r:V→Hp→VK→Prop) (ta:TE):TE:=fun σ H Q=>ta σ H fun x H1=>r x H1 Q
def rI (C:Int→Int→Prop) (g:Int→Int→V):R2:=fun x y H Q=>∃i j,x=.int i∧y=.int j∧C i j∧Q (g i j) H
def rI0 (g:Int→Int→V):R2:=fun x y H Q=>∃i j,x=.int i∧y=.int j∧Q (g i j) H
def rU (g:Int→V):V→Hp→VK→Prop:=fun x H Q=>∃i,x=.int i∧Q (g i) H
section
variable {X:Cx} {a b c:Expr} {ta tb tc:TE} {pos:Pos}
theorem nP (ha:PE X a ta) (hb:PE X b tb) {pins:List (Addr×Obj)} {s:Shared} {σ:St} {H:Hp} {R:V→V→Hp→Prop} (I:Inv X pins σ H s)
  (h:ta σ H fun x H1=>tb σ H1 fun y H2=>R x y H2) {Q:Value→Shared→Prop} {f:Value→Value→Sem Value}
  (hf:∀v u s2 x y H2,Inv X pins σ H2 s2→RelV x v→RelV y u→R x y H2→wpAny (model X.prog X.w) X.A (f v u) Q X.xe s2) :
  wpAny (model X.prog X.w) X.A (eval a X.env) (fun v s₁=>wpAny (model X.prog X.w) X.A (eval b X.env) (fun u s₂=>wpAny (model X.prog X.w) X.A (f v u) Q X.xe s₂) X.xe s₁) X.xe s:=by
 refine thn (ha pins s σ H _ I h) fun v s1 ⟨x,H1,I1,r1,q1⟩=>?_
 refine thn (hb pins s1 σ H1 _ I1 q1) fun u s2 ⟨y,H2,I2,r2,q2⟩=>?_
 exact hf v u s2 x y H2 I2 r1 r2 q2
theorem iI {op:Operator} {r:R2} (ho:OpR X (binaryOp op) r) (ha:PE X a ta) (hb:PE X b tb):PE X (.BinOp a op b pos) (tOp r ta tb):=by
 intro pins s σ H Q I h
 exact wpAny_BinOp (nP ha hb I h fun v u s2 x y H2 I2 rx ry q=>ho pins s2 σ H2 x y v u Q I2 rx ry q)
theorem aAy {op:UnaryOp} {r:V→Hp→VK→Prop} (ho:UnR X (unaryOp op) r) (ha:PE X a ta):PE X (.UnaryOp op a pos) (tUn r ta):=by
 intro pins s σ H Q I h
 exact UnaryOp_ (thn (ha pins s σ H _ I h) fun v s1 ⟨x,H1,I1,r1,q1⟩=>ho pins s1 σ H1 x v Q I1 r1 q1)
theorem opI {f:Value→Value→Sem Value} {C:Int→Int→Prop} {g:Int→Int→Int}
  (rule:∀(i j:Int) (t u:Tok) (s:Shared) (Q:Value→Shared→Prop) (E:Value→Shared→Prop),C i j→Q (.int (g i j) s.toks) { s with toks:=s.toks+1 }→wpAny (model X.prog X.w) X.A (f (.int i t) (.int j u)) Q E s) :
  OpR X f (rI C fun i j=>.int (g i j)):=by
 intro pins s σ H x y v u Q I rx ry h
 obtain ⟨i,j,rfl,rfl,hc,q⟩:=h
 obtain ⟨t,rfl⟩:=rx
 obtain ⟨t',rfl⟩:=ry
 exact rule i j t t' s _ _ hc ⟨.int (g i j),H,I.tok _,⟨_,rfl⟩,q⟩
theorem oR {f:Value→Value→Sem Value} {g:Int→Int→Int}
  (rule:∀(i j:Int) (t u:Tok) (s:Shared) (Q:Value→Shared→Prop) (E:Value→Shared→Prop),Q (.int (g i j) s.toks) { s with toks:=s.toks+1 }→wpAny (model X.prog X.w) X.A (f (.int i t) (.int j u)) Q E s) :
  OpR X f (rI0 fun i j=>.int (g i j)):=by
 intro pins s σ H x y v u Q I rx ry h
 obtain ⟨i,j,rfl,rfl,q⟩:=h
 obtain ⟨t,rfl⟩:=rx
 obtain ⟨t',rfl⟩:=ry
 exact rule i j t t' s _ _ ⟨.int (g i j),H,I.tok _,⟨_,rfl⟩,q⟩
def pG (i j:Int):Prop:=0≤j∧j≤1000000∧i.natAbs<2^64
def iJ (i j:Int):Prop:=(-(2^64)<i∧i<2^64)∨(-(2^64)<j∧j<2^64)
theorem iJ.ok {i j:Int} (h:iJ i j):IntMulOk i j:=by
 rcases h with ⟨h1,h2⟩ | ⟨h1,h2⟩
 ·exact .of_left (intBits_le_64 h1 h2)
 ·exact .of_right (intBits_le_64 h1 h2)
theorem aDo (k:Nat):(0:Int)≤2^k:=by
 rw[two_pow_cast]
 exact Int.natCast_nonneg _
theorem aFk:OpR X (binaryOp .Add) (rI0 fun i j=>.int (i+j)):=oR fun _ _ _ _ _ _ _ q=>add_int q
theorem aDi:OpR X (binaryOp .Mult) (rI iJ fun i j=>.int (i*j)):=opI fun _ _ _ _ _ _ _ hc q=>mul_int q hc.ok
theorem aA8:OpR X (binaryOp .LShift) (rI pG fun i j=>.int (i*2^j.toNat)):=opI fun _ _ _ _ _ _ _ hc q=>lshift_int_small hc.1 hc.2.1 hc.2.2 q
theorem aGl:OpR X (binaryOp .RShift) (rI (fun _ j=>0≤j) fun i j=>.int (i/2^j.toNat)):=opI fun i j _ _ _ _ _ hc q=>
 rshift_int hc (by rw[Int.fdiv_eq_ediv_of_nonneg i (aDo _)];exact q)
theorem rO:OpR X (binaryOp .BitAnd) (rI0 fun i j=>.int (Builtin.bitAnd i j)):=oR fun _ _ _ _ _ _ _ q=>and_int q
theorem aEq:OpR X (binaryOp .BitOr) (rI0 fun i j=>.int (Builtin.bitOr i j)):=oR fun _ _ _ _ _ _ _ q=>or_int q
theorem unI {f:Value→Sem Value} {g:Int→Int}
  (rule:∀(i:Int) (t:Tok) (s:Shared) (Q:Value→Shared→Prop) (E:Value→Shared→Prop),Q (.int (g i) s.toks) { s with toks:=s.toks+1 }→wpAny (model X.prog X.w) X.A (f (.int i t)) Q E s) :
  UnR X f (rU fun i=>.int (g i)):=by
 intro pins s σ H x v Q I rx h
 obtain ⟨i,rfl,q⟩:=h
 obtain ⟨t,rfl⟩:=rx
 exact rule i t s _ _ ⟨.int (g i),H,I.tok _,⟨_,rfl⟩,q⟩
theorem aG1:UnR X (unaryOp .Invert) (rU fun i=>.int (Builtin.bitNot i)):=unI fun _ _ _ _ _ q=>invert_int q
end
def aAw:V→V→Bool
 | .non,.non=>true | .non,.int _=>true | .int _,.non=>true | .non,.bl _=>true | .bl _,.non=>true | .non,.str _=>true | .str _,.non=>true
 | .int _,.int _=>true | .bl _,.bl _=>true | .str _,.str _=>true | .byt _,.byt _=>true
 | .int _,.str _=>true | .str _,.int _=>true | .bl _,.str _=>true | .str _,.bl _=>true
 | _,_=>false
def rNe:R2:=fun x y H Q=>aAw x y=true∧Q (.bl (!decide (x=y))) H
theorem aAv {i j:Int}:decide (V.int i=V.int j)=(i==j):=by
 rw[Bool.eq_iff_iff]
 simp
theorem oG {i j:Bool}:decide (V.bl i=V.bl j)=(i==j):=by
 rw[Bool.eq_iff_iff]
 simp
theorem aBm {i j:Str}:decide (V.str i=V.str j)=(i==j):=by
 rw[Bool.eq_iff_iff]
 simp
theorem wC {i j:Array UInt8}:decide (V.byt i=V.byt j)=(i.toList==j.toList):=by
 rw[Bool.eq_iff_iff]
 cases i
 cases j
 simp
section
variable {X:Cx} {a b c:Expr} {ta tb tc:TE} {pos:Pos}
theorem bL {pins:List (Addr×Obj)} {σ:St} {H:Hp} {s:Shared} {Q:VK} {k k':Bool} (I:Inv X pins σ H s) (q:Q (.bl k) H) (e:k=k'):EP X pins σ Q (.bool k') s:=by
 subst e
 exact ⟨.bl k,H,I,rfl,q⟩
theorem vY:OpR X (compareOp .NotEq) rNe:=by
 intro pins s σ H x y v u Q I rx ry h
 obtain ⟨hs,q⟩:=h
 cases x with
 | non=>
  cases rx
  cases y with
  | non=>cases ry;exact PySem.EqNone.ne_none_none (bL I q (by simp))
  | bl j=>cases ry;exact PySem.EqNone.ne_none_bool (bL I q (by simp))
  | int j=>obtain ⟨t',rfl⟩:=ry;exact PySem.EqNone.ne_none_int (bL I q (by simp))
  | str j=>obtain ⟨t',rfl⟩:=ry;exact PySem.EqNone.ne_none_str (bL I q (by simp))
  | _=>exact absurd (show false=true from hs) Bool.false_ne_true
 | bl i=>
  cases rx
  cases y with
  | non=>cases ry;exact PySem.EqNone.ne_bool_none (bL I q (by simp))
  | bl j=>cases ry;exact ne_bool (bL I q (congrArg not oG))
  | str j=>obtain ⟨t',rfl⟩:=ry;exact PySem.EqMixed.ne_bool_str (bL I q (by simp))
  | _=>exact absurd (show false=true from hs) Bool.false_ne_true
 | int i=>
  obtain ⟨t,rfl⟩:=rx
  cases y with
  | non=>cases ry;exact PySem.EqNone.ne_int_none (bL I q (by simp))
  | int j=>obtain ⟨t',rfl⟩:=ry;exact ne_int (bL I q (congrArg not aAv))
  | str j=>obtain ⟨t',rfl⟩:=ry;exact PySem.EqMixed.ne_int_str (bL I q (by simp))
  | _=>exact absurd (show false=true from hs) Bool.false_ne_true
 | str i=>
  obtain ⟨t,rfl⟩:=rx
  cases y with
  | non=>cases ry;exact PySem.EqNone.ne_str_none (bL I q (by simp))
  | bl j=>cases ry;exact PySem.EqMixed.ne_str_bool (bL I q (by simp))
  | int j=>obtain ⟨t',rfl⟩:=ry;exact PySem.EqMixed.ne_str_int (bL I q (by simp))
  | str j=>obtain ⟨t',rfl⟩:=ry;exact ne_str (bL I q (congrArg not aBm))
  | _=>exact absurd (show false=true from hs) Bool.false_ne_true
 | byt i=>
  obtain ⟨t,rfl⟩:=rx
  cases y with
  | byt j=>obtain ⟨t',rfl⟩:=ry;exact PySem.W.ne_bytes (bL I q (congrArg not wC))
  | _=>exact absurd (show false=true from hs) Bool.false_ne_true
 | _=>cases y<;>exact absurd (show false=true from hs) Bool.false_ne_true
theorem gM (b:Expr) {op:CmpOp} (h:op≠.In:=by decide) (h2:op≠.NotIn:=by decide):behindInMarks op b=false:=by
 have e1:(op==CmpOp.In)=false:=by cases op<;>first | rfl | exact absurd rfl h
 have e2:(op==CmpOp.NotIn)=false:=by cases op<;>first | rfl | exact absurd rfl h2
 cases b<;>simp [behindInMarks,e1,e2]
theorem aAx {op:CmpOp} {r:R2} (ho:OpR X (compareOp op) r) (ha:PE X a ta) (hb:PE X b tb) (hm:behindInMarks op b=false):PE X (.Compare a [op] [b] pos) (tOp r ta tb):=by
 intro pins s σ H Q I h
 exact wpAny_Compare1 (nP ha hb I h fun v u s2 x y H2 I2 rx ry q=>ho pins s2 σ H2 x y v u Q I2 rx ry q) hm
def aF2 (t:TE):TT:=fun σ H Q=>t σ H fun x H'=>∃k,x=.bl k∧Q k H'
theorem pK {op:CmpOp} {r:R2} (ho:OpR X (compareOp op) r) (ha:PE X a ta) (hb:PE X b tb) (hm:behindInMarks op b=false):PT X (.Compare a [op] [b] pos) (aF2 (tOp r ta tb)):=by
 intro pins s σ H Q I h
 refine wpAny_isTrue_Compare1 (thn (ha pins s σ H _ I h) fun v s1 ⟨x,H1,I1,r1,q1⟩=>thn (hb pins s1 σ H1 _ I1 q1) fun u s2 ⟨y,H2,I2,r2,q2⟩=>
  thn (ho pins s2 σ H2 x y v u _ I2 r1 r2 q2) fun c s3 ⟨z,H3,I3,r3,k,e,q3⟩=>?_) hm
 subst e
 cases r3
 exact wpAny_truthy_bool ⟨H3,I3,q3⟩
theorem mM:(sizeLine:Nat)<2^63:=by rw[sizeLine_eq];decide
theorem vals1 {x:V} {us:List Value} (r:Vals [x] us):∃u,us=[u]∧RelV x u:=by
 cases r with
 | cons r1 r2=>cases r2;exact ⟨_,rfl,r1⟩
end
end L2
namespace L2
open PySem PySem.Spec PyProof.Rows
structure eF (h:Heap) (x dx C:Addr) (mA:Str→Option Value):Prop where
 obj:h.get? x=some (PySem.W.instObj C dx)
 ns:h.Ns1 dx mA
 ne:dx≠x
theorem aCo {h:Heap} {dx:Addr} {mA:Str→Option Value} (n:h.Ns1 dx mA):∃od,h.get? dx=some od∧∀name,PySem.W.lookIn name od=some (mA name):=by
 obtain ⟨o,es,ep,ho,hd,hk,_,hm⟩:=n
 refine ⟨o,ho,fun name=>?_⟩
 have e:=hm name
 unfold nsFind findBy at e
 rw[←Array.find?_toList] at e
 unfold PySem.W.lookIn
 rw[hd]
 dsimp only
 split
 ·rename_i y q
  rw[q] at e
  exact congrArg some e
 ·rename_i q
  rw[q] at e
  have a:es.toList.any (·.refKey)=false:=by
   rw[List.any_eq_false]
   intro y hy
   obtain ⟨z,t,hkey⟩:=hk y (Array.mem_toList_iff.mp hy)
   simp [DictEntry.refKey,hkey]
  have a':¬es.toList.any (·.refKey)=true:=by rw[a];exact Bool.false_ne_true
  rw[if_neg a']
  exact congrArg some e
theorem eF.look {h:Heap} {x dx C:Addr} {mA:Str→Option Value} (I:eF h x dx C mA):∃od,PySem.W.InstAt h x (PySem.W.instObj C dx) C (some od)∧∀name,PySem.W.lookIn name od=some (mA name):=
 let ⟨od,ho,hl⟩:=aCo I.ns
 ⟨od,⟨I.obj,rfl,rfl,ho⟩,hl⟩
section
variable {prog:Program} {w:World} {A:Around} {E:Value→Shared→Prop} {s:Shared} {K:PySem.W.Frag} {x dx C f:Addr} {mA:Str→Option Value} {name:Str} {v:Value}
theorem get_map {expr:Bool} {Q:Value→Shared→Prop} (X:K.In s.heap) (I:eF s.heap x dx C mA) (hg:PySem.W.plainGet K C name=true) (hh:PySem.W.hasDictIn K C=true)
  (ha:PySem.W.findIn K (.ref C) name=some none) (hv:mA name=some v) (hv':PySem.W.handedIn v=true) (h:Q v { s with toks:=s.toks+1 }) :
  wpAny (model prog w) A (getAttr (.ref x) name expr) Q E s:=by
 obtain ⟨od,J,hl⟩:=I.look
 exact PySem.W.get_value X J (PySem.W.plainGet_of hg).1 (PySem.W.findObj_own hh ha rfl (by rw[hl,hv])) hv' h
theorem aAe {pl:Sem Bool} {Q:Value×List Value→Shared→Prop} (X:K.In s.heap) (I:eF s.heap x dx C mA) (hg:PySem.W.plainGet K C name=true)
  (hf:PySem.W.findIn K (.ref C) name=some (some (.ref f))) (ht:PySem.W.isFn K (.ref f)=true) (hv:mA name=none) (h:Q (.ref f,[.ref x]) s) :
  wpAny (model prog w) A (getMethod (.ref x) name pl) Q E s:=by
 obtain ⟨od,J,hl⟩:=I.look
 exact PySem.W.method_fn X J (PySem.W.plainGet_of hg).1 (PySem.W.plainGet_of hg).2 hf (beq_iff_eq.mp ht) (by show (PySem.W.lookIn name od).map (·.isSome)=some false;rw[hl,hv];rfl) h
theorem aAz {ns:List Str} {Q:Unit→Shared→Prop} (X:K.In s.heap) (I:eF s.heap x dx C mA)
  (hs:PySem.W.findIn K (.ref C) "__setattr__" = some (some (.builtin "object.__setattr__"))) (hp:PySem.W.plainOver K C=true) (ht:PySem.W.takerIn K C name=some none) (hh:PySem.W.hasDictIn K C=true)
  (hw:PySem.Within mA ns) (hsz:ns.length≤sizeLine)
  (h:∀h',eF h' x dx C (fun y=>if y=name then some v else mA y)→Heap.SameBut dx s.heap h'→Q () { s with heap:=h',toks:=s.toks+2 }) :
  wpAny (model prog w) A (setAttr (.ref x) name v) Q E s:=by
 obtain ⟨od,J,hl⟩:=I.look
 refine PySem.W.set_plain X J hs (PySem.W.osa_open (s:={ s with toks:=s.toks+1 }) (r:=none) X J hp ht fun b=>?_)
 obtain ⟨cd,hc,hd'⟩:=PySem.W.any_some hh
 have hx:s.heap.get? x=some ⟨.ref C,some dx,.plain,#[]⟩:=I.obj
 refine wpAny_bind (wpAny_pure (wpAny_bind (wpAny_bind (wpAny_loadPart hx (wpAny_bind (PySem.W.Looks.here (s:={ s with toks:=s.toks+1 }) (PySem.W.looks_clsIn X hc) ?_))))))
 rw[hd']
 refine wpAny_pure (a:=some dx) (wpAny_bind (wpAny_pure (wpAny_bind ?_)))
 refine wpAny_nsSet1 (s:={ s with toks:=s.toks+1 }) I.ns fun h' hn2 hs2=>?_
 obtain ⟨oD,esD,epD,hoD,hdD,hcD⟩:=hn2.count (PySem.Within.cons name v hw)
 refine wpAny_bind (wpAny_lookBehind hoD (by rw[hdD];exact pastItsLine_dict (Nat.le_trans hcD (by rw[List.length_cons];omega))) ?_)
 exact wpAny_pure (h _ ⟨(hs2.2 _ (Ne.symm I.ne)).trans I.obj,hn2,I.ne⟩ hs2)
theorem aC8 {R:Result→Shared→Prop} {vs:List Value} {kw:List (Str×Value)} (X:K.In s.heap) (hm:PySem.W.makesIn K C=true)
  (hi:PySem.W.findIn K (.ref C) "__init__" = some (some (.ref f))) (hf:PySem.W.typeIn K (.ref f)=some (.type "function"))
  (h:codeAny (model prog w) (A.under (.builtin "type.__call__" ⟨.ref C::vs,kw⟩)) (.call (.ref f) ⟨.ref (s.heap.objs.size+1)::vs,kw⟩) (PySem.W.InitBack (s.heap.objs.size+1) R)
   { s with heap:=(s.heap.push PySem.W.emptyDict).push (PySem.W.instObj C s.heap.objs.size) }) :
  codeAny (model prog w) A (.call (.ref C) ⟨vs,kw⟩) R s:=by
 obtain ⟨hh,g,d,t,os⟩:=s
 exact PySem.W.make_core (PySem.W.makes_of X hm) (PySem.W.looks_findIn X hi) (fun self=>PySem.W.bind_fn X self hf) (.inl rfl) h
end
def aL (f:Str) (v:V):List (Str×V)→List (Str×V)
 | []=>[(f,v)]
 | (g,x)::r=>if g=f then (g,v)::r else (g,x)::aL f v r
theorem rN (f g:Str) (v:V):∀fs:List (Str×V),(aL f v fs).lookup g=if g=f then some v else fs.lookup g
 | []=>by
  show List.lookup g [(f,v)]=_
  by_cases h:g=f
  ·have hb:(g==f)=true:=beq_iff_eq.mpr h
   simp only[List.lookup,hb,if_pos h]
  ·have hb:(g==f)=false:=beq_eq_false_iff_ne.mpr h
   simp only[List.lookup,hb,if_neg h]
 | (k,x)::r=>by
  have ih:=rN f g v r
  rw[show aL f v ((k,x)::r)=(if k=f then (k,v)::r else (k,x)::aL f v r) from rfl]
  by_cases hk:k=f
  ·rw[if_pos hk]
   by_cases h:g=k
   ·have hb:(g==k)=true:=beq_iff_eq.mpr h
    simp only[List.lookup,hb,if_pos (h.trans hk)]
   ·have hb:(g==k)=false:=beq_eq_false_iff_ne.mpr h
    simp only[List.lookup,hb,if_neg (fun e:g=f=>h (e.trans hk.symm))]
  ·rw[if_neg hk]
   by_cases h:g=k
   ·have hb:(g==k)=true:=beq_iff_eq.mpr h
    simp only[List.lookup,hb,if_neg (fun e:g=f=>hk (h.symm.trans e))]
   ·have hb:(g==k)=false:=beq_eq_false_iff_ne.mpr h
    simp only[List.lookup,hb]
    exact ih
theorem lD (f:Str) (v:V):∀fs:List (Str×V),f∈(aL f v fs).map (·.1)∧∀g,g∈fs.map (·.1)→g∈(aL f v fs).map (·.1)
 | []=>⟨by simp [aL],fun g h=>by simp at h⟩
 | (k,x)::r=>by
  obtain ⟨i1,i2⟩:=lD f v r
  rw[show aL f v ((k,x)::r)=(if k=f then (k,v)::r else (k,x)::aL f v r) from rfl]
  by_cases hk:k=f
  ·rw[if_pos hk]
   subst hk
   exact ⟨by simp,fun g h=>by simpa using h⟩
  ·rw[if_neg hk]
   refine ⟨?_,fun g h=>?_⟩
   ·rw[List.map_cons]
    exact List.mem_cons_of_mem _ i1
   ·rw[List.map_cons] at h ⊢
    rcases List.mem_cons.mp h with e | e
    ·exact List.mem_cons.mpr (.inl e)
    ·exact List.mem_cons_of_mem _ (i2 g e)
theorem pH (f:Str) (v:V):∀fs:List (Str×V),(aL f v fs).length≤fs.length+1
 | []=>by simp [aL]
 | (k,x)::r=>by
  have ih:=pH f v r
  rw[show aL f v ((k,x)::r)=(if k=f then (k,v)::r else (k,x)::aL f v r) from rfl]
  by_cases hk:k=f
  ·rw[if_pos hk,List.length_cons,List.length_cons];omega
  ·rw[if_neg hk,List.length_cons,List.length_cons];omega
theorem bJ.some_of {v:V} {o:Option Value} (r:bJ (some v) o):∃u,o=some u∧RelV v u:=by
 cases o with
 | none=>exact (show False from r).elim
 | some u=>exact ⟨u,rfl,r⟩
theorem bJ.none_of {o:Option Value} (r:bJ none o):o=none:=by
 cases o with
 | none=>rfl
 | some u=>exact (show False from r).elim
theorem aGj {v:V} {u:Value} (r:RelV v u):PySem.W.handedIn u=true:=by
 cases v with
 | non=>cases (show u=Value.none from r);rfl
 | bl b=>cases (show u=Value.bool b from r);rfl
 | int i=>obtain ⟨t,e⟩:=(show ∃t,u=Value.int i t from r);cases e;rfl
 | str x=>obtain ⟨t,e⟩:=(show ∃t,u=Value.str x t from r);cases e;rfl
 | byt b=>obtain ⟨t,e⟩:=(show ∃t,u=Value.bytes b t from r);cases e;rfl
 | flt b=>obtain ⟨t,e⟩:=(show ∃t,u=Value.float b t from r);cases e;rfl
 | ref a=>cases (show u=Value.ref a from r);rfl
 | ty n=>cases (show u=Value.type n from r);rfl
section
variable {P:Program} {w:World} {H H':Hp} {h h':Heap} {a C dx:Addr} {fs fs':List (Str×V)}
theorem jV (hok:HOk P w H h) (e:H a=some (.ins C dx fs)):∃mA,eF h a dx C mA∧(∀f,bJ (fs.lookup f) (mA f))∧PySem.Within mA (fs.map (·.1))∧fs.length≤1000∧H dx=some (.own a):=by
 obtain ⟨d,z,ne,ob,mA,n,r,q⟩:=(show aQ P w H h a (.ins C dx fs) from hok a _ e)
 exact ⟨mA,⟨ob,n,ne⟩,r,q,z,d⟩
end
structure Cls (K:PySem.W.Frag) (C:Addr):Prop where
 pg:PySem.W.plainGet K C Str.empty=true
 hd:PySem.W.hasDictIn K C=true
 po:PySem.W.plainOver K C=true
 sa:PySem.W.findIn K (.ref C) "__setattr__" = some (some (.builtin "object.__setattr__"))
theorem Cls.get {K:PySem.W.Frag} {C:Addr} (c:Cls K C) (f:Str):PySem.W.plainGet K C f=true:=c.pg
def bH (K:PySem.W.Frag) (C:Addr) (f:Str):Prop:=PySem.W.findIn K (.ref C) f=some none
theorem bH.aCb {K:PySem.W.Frag} {C:Addr} {f:Str} (n:bH K C f):PySem.W.takerIn K C f=some none:=by
 unfold PySem.W.takerIn
 rw[show PySem.W.findIn K (.ref C) f=some none from n]
 rfl
structure Meth (K:PySem.W.Frag) (C:Addr) (m:Str) (f:Addr):Prop where
 at_:PySem.W.findIn K (.ref C) m=some (some (.ref f))
 fn:PySem.W.isFn K (.ref f)=true
 kp:PySem.W.keepIn K (.ref f)=true
section
variable {X:Cx} {pins:List (Addr×Obj)} {σ:St} {H:Hp} {s:Shared} {a C dx:Addr} {fs:List (Str×V)} {f:Str} {v:V} {A:Around} {E:Value→Shared→Prop}
theorem xS {b:Bool} {Q:Value→Shared→Prop} (I:Inv X pins σ H s) (e:H a=some (.ins C dx fs)) (c:Cls X.K C) (n:bH X.K C f) (l:fs.lookup f=some v)
  (h:∀u s',Inv X pins σ H s'→RelV v u→Q u s'):wpAny (model X.prog X.w) A (getAttr (.ref a) f b) Q E s:=by
 obtain ⟨mA,O,r,_,_,_⟩:=jV I.hok e
 obtain ⟨u,hu,ru⟩:=bJ.some_of (v:=v) (o:=mA f) (by rw[←l];exact r f)
 exact get_map I.kIn O (c.get f) c.hd n hu (aGj ru) (h u _ (I.tok _) ru)
theorem aEs {m:Str} {g:Addr} {pl:Sem Bool} {Q:Value×List Value→Shared→Prop} (I:Inv X pins σ H s) (e:H a=some (.ins C dx fs)) (c:Cls X.K C) (k:Meth X.K C m g) (l:fs.lookup m=none)
  (h:Q (.ref g,[.ref a]) s):wpAny (model X.prog X.w) A (getMethod (.ref a) m pl) Q E s:=by
 obtain ⟨mA,O,r,_,_,_⟩:=jV I.hok e
 have hn:mA m=none:=bJ.none_of (by rw[←l];exact r m)
 exact aAe I.kIn O (c.get m) k.at_ k.fn hn h
theorem aGv {y:V} {u:Value} {Q:Unit→Shared→Prop} (I:Inv X pins σ H s) (e:H a=some (.ins C dx fs)) (c:Cls X.K C) (n:bH X.K C f) (hl:fs.length<1000) (ry:RelV y u)
  (h:∀s',Inv X pins σ (upd H a (.ins C dx (aL f y fs))) s'→Q () s'):wpAny (model X.prog X.w) A (setAttr (.ref a) f u) Q E s:=by
 obtain ⟨mA,O,r,wi,_,ho⟩:=jV I.hok e
 have hz:(fs.map (·.1)).length≤sizeLine:=by rw[List.length_map,sizeLine_eq];omega
 refine aAz I.kIn O c.sa c.po n.aCb c.hd wi hz fun h' O' sb=>h _ ?_
 have hd:∃o,h'.get? dx=some o:=let ⟨o,_,_,e',_⟩:=O'.ns;⟨o,e'⟩
 refine I.write (x:=a) (e:=dx) (by rw[e];exact True.intro) (.inr ho) (fun b q hb z=>(sb.2 b hb).trans z) hd ?_
 refine ⟨by rw[aE O.ne];exact ho,?_,O.ne,O'.obj,_,O'.ns,fun g=>?_,fun g hg=>?_⟩
 ·have:=pH f y fs;omega
 ·show bJ ((aL f y fs).lookup g) (if g=f then some u else mA g)
  rw[rN]
  by_cases q:g=f
  ·rw[if_pos q,if_pos q];exact ry
  ·rw[if_neg q,if_neg q];exact r g
 ·by_cases q:g=f
  ·rw[q];exact (lD f y fs).1
  ·refine (lD f y fs).2 g (wi g fun z=>hg ?_)
   show (if g=f then some u else mA g)=none
   rw[if_neg q];exact z
theorem Inv.made (I:Inv X pins σ H s):Inv X pins σ (upd (upd H s.heap.objs.size (.own (s.heap.objs.size+1))) (s.heap.objs.size+1) (.ins C s.heap.objs.size []))
  { s with heap:=(s.heap.push PySem.W.emptyDict).push (PySem.W.instObj C s.heap.objs.size) }:=by
 have e1:(s.heap.push PySem.W.emptyDict).get? s.heap.objs.size=some PySem.W.emptyDict:=Heap.get?_push_size s.heap rfl
 have e2:((s.heap.push PySem.W.emptyDict).push (PySem.W.instObj C s.heap.objs.size)).get? (s.heap.objs.size+1)=some (PySem.W.instObj C s.heap.objs.size):=by
  have:=Heap.get?_push_size (s.heap.push PySem.W.emptyDict) (o:=PySem.W.instObj C s.heap.objs.size) rfl
  rwa [Heap.size_push] at this
 have e3:(s.heap.push PySem.W.emptyDict).Ns s.heap.objs.size (fun _=>none):=⟨PySem.W.emptyDict,#[],_,e1,rfl,(fun e he=>absurd he (by simp)),fun _=>rfl⟩
 have I1:=I.laid (a:=s.heap.objs.size) (o:=.own (s.heap.objs.size+1)) (h':=s.heap.push PySem.W.emptyDict) (t':=s.toks) (fun b u q=>Heap.get?_push_of_some _ q) (Nat.le_refl _) ⟨_,e1⟩
 refine I1.laid (a:=s.heap.objs.size+1) (o:=.ins C s.heap.objs.size []) (t':=s.toks) (fun b u q=>Heap.get?_push_of_some _ q) (Nat.le_of_eq (Heap.size_push _ _)) ?_
 have ne:s.heap.objs.size≠s.heap.objs.size+1:=Nat.ne_of_lt (Nat.lt_succ_self _)
 refine ⟨by rw[aE ne,aY],Nat.zero_le _,ne,e2,fun _=>none,(Heap.Ns1.of_empty e3).at fun o q=>Heap.get?_push_of_some _ q,fun _=>True.intro,fun y hy=>absurd rfl hy⟩
theorem aEj {prog:Program} {w:World} {env:Env} {e:Expr} {f:Str} {pos:Pos} {s:Shared} {Q:Value→Shared→Prop} (hb:attributeBase e f env (eval e env)=eval e env)
  (h:wpAny (model prog w) A (eval e env) (fun o s₁=>wpAny (model prog w) A (getAttr o f true) Q E s₁) E s):wpAny (model prog w) A (eval (.Attribute e f pos) env) Q E s:=
 Attribute_any_ h (by rw[arm_eval_Attribute,hb])
end
def vV (K:PySem.W.Frag) (ta:TE) (f:Str):TE:=fun σ H Q=>ta σ H fun x H1=>∃a C dx fs v,x=.ref a∧H1 a=some (.ins C dx fs)∧Cls K C∧bH K C f∧fs.lookup f=some v∧Q v H1
def aCt (K:PySem.W.Frag) (ta tv:TE) (f:Str):TS:=fun D σ H=>tv σ H fun y H1=>ta σ H1 fun x H2=>∃a C dx fs,x=.ref a∧H2 a=some (.ins C dx fs)∧Cls K C∧bH K C f∧fs.length<1000 ∧
 D.nx σ (upd H2 a (.ins C dx (aL f y fs)))
section
variable {X:Cx} {o e value:Expr} {f:Str} {pos pos' tpos:Pos} {ta tv:TE}
theorem eV (he:PE X e ta) (hb:attributeBase e f X.env (eval e X.env)=eval e X.env):PE X (.Attribute e f pos) (vV X.K ta f):=by
 intro pins s σ H Q I h
 refine aEj hb (thn (he pins s σ H _ I h) fun u s1 ⟨x,H1,I1,rx,a,C,dx,fs,v,ex,ea,c,n,l,q⟩=>?_)
 subst ex
 obtain rfl:u=Value.ref a:=rx
 exact xS I1 ea c n l fun u' s2 I2 ru=>⟨v,H1,I2,ru,q⟩
theorem gS (ha:PE X o ta) (hv:PE X value tv) (hs:swapsWith value (some (.Attribute o f pos')) pos.line X.env=pure false):PS X (.Assign [.Attribute o f pos'] value pos) (aCt X.K ta tv f):=by
 intro pins s σ H D I h
 refine plainObj_wpAny_Assign_Attribute (thn (hv pins s σ H _ I h) fun u s1 ⟨y,H1,I1,ry,q⟩=>thn (ha pins s1 σ H1 _ I1 q) fun ov s2 ⟨x,H2,I2,rx,a,C,dx,fs,ex,ea,c,n,l,q2⟩=>?_) hs
 subst ex
 obtain rfl:ov=Value.ref a:=rx
 exact aGv I2 ea c n l ry fun s3 I3=>⟨σ,_,I3,q2⟩
end
section
variable {X:Cx} {pins:List (Addr×Obj)} {σ:St} {H:Hp} {s:Shared} {A:Around} {E:Value→Shared→Prop} {Q:Value→Shared→Prop} {c:Value} {b:Bool}
end
end L2
namespace L2
open PySem PySem.Spec PyProof.Rows
structure aJ (k:Nat) (A:Around):Prop where
 hd:A.handled=none
 dp:A.depth+3*k+5<recursionLimit
 un:A.units+16*k+200<cLine
theorem aJ.mono {j k:Nat} {A:Around} (r:aJ k A) (h:j≤k):aJ j A:=⟨r.hd,by have:=r.dp;omega,by have:=r.un;omega⟩
theorem aJ.deeper {k:Nat} {A:Around} (r:aJ (k+1) A) (env:Env):aJ k (A.deeper env):=
 ⟨r.hd,by have:=r.dp;show A.depth+1+3*k+5<_;omega,by have:=r.un;show A.units+3+16*k+200<_;omega⟩
theorem aGc {A:Around} {C:Addr} {us:List Value} {kw:List (Str×Value)}:(A.under (.builtin "type.__call__" ⟨.ref C::us,kw⟩)).depth=A.depth+1:=by
 first | rfl | simp [Around.under,Code.weight,Code.isCreation,Code.isGuard,Code.isCaller,Code.frames,Code.isFrame,guardIds]
theorem aEn {A:Around} {C:Addr} {us:List Value} {kw:List (Str×Value)}:(A.under (.builtin "type.__call__" ⟨.ref C::us,kw⟩)).units=A.units+1:=by
 first | rfl | simp [Around.under,Code.cUnits,Code.frames,Code.isFrame]
theorem aJ.make {k:Nat} {A:Around} (r:aJ (k+1) A) (C:Addr) (us:List Value) (kw:List (Str×Value)):aJ k (A.under (.builtin "type.__call__" ⟨.ref C::us,kw⟩)):=
 ⟨r.hd,by have:=r.dp;rw[aGc];omega,by have:=r.un;rw[aEn];omega⟩
theorem aJ.depth {k:Nat} {A:Around} (r:aJ k A):A.depth<recursionLimit:=by have:=r.dp;omega
theorem aJ.units {k:Nat} {A:Around} (r:aJ k A):A.units+64<cLine:=by have:=r.un;omega
def tX:TA:=fun _ H Q=>Q [] H
def aAh (ta:TE) (tr:TA):TA:=fun σ H Q=>ta σ H fun x H1=>tr σ H1 fun xs H2=>Q (x::xs) H2
section
variable {X:Cx} {e:Expr} {es:List Expr} {te:TE} {t:TA} {pos:Pos}
theorem dH:PA X [] tX:=fun _ _ _ _ H Q I h=>Calls.spliced_nil ⟨[],H,I,.nil,h⟩
theorem bO (ha:PE X e te) (hr:PA X es t) (hs:starEach (e::es) X.env=(false,eval e X.env)::starEach es X.env:=by rfl):PA X (e::es) (aAh te t):=by
 intro pos pins s σ H Q I h
 rw[hs]
 show wpAny _ _ (spliced ((false,eval e X.env)::backTo pos (starEach es X.env))) _ _ s
 refine Calls.spliced_cons (thn (ha pins s σ H _ I h) fun u s1 ⟨x,H1,I1,r1,q1⟩=>?_)
 exact thn (hr pos pins s1 σ H1 _ I1 q1) fun us s2 ⟨xs,H2,I2,r2,q2⟩=>⟨x::xs,H2,I2,.cons r1 r2,q2⟩
def aD6 (t:TA):TE:=fun σ H Q=>t σ H fun xs H1=>xs.length≤sizeLine∧∀p,H1 p=none→Q (.ref p) (upd H1 p (.lst xs))
theorem xQ (h:PA X es t):PE X (.List es pos) (aD6 t):=by
 intro pins s σ H Q I hq
 refine wpAny_List_spliced (thn (h pos pins s σ H _ I hq) fun us s1 ⟨xs,H1,I1,r,z,q⟩=>⟨by rw[←r.length];exact z,?_⟩)
 have hf:H1 s1.heap.objs.size=none:=I1.hok.fresh (Nat.le_refl _)
 refine ⟨.ref s1.heap.objs.size,upd H1 s1.heap.objs.size (.lst xs),I1.laid (t':=s1.toks) (fun b u e=>Heap.get?_push_of_some _ e) (Nat.le_refl _) ?_,rfl,q _ hf⟩
 exact ⟨z,us,0,r,Heap.get?_push_size _ rfl⟩
end
abbrev Sp:=List V→Hp→VK→XK→Prop
abbrev CXT:=List Env→Hp→Shared→XK→Value→Shared→Prop
structure eG (P:Program) (w:World) (K:PySem.W.Frag) (mg:Str→Option Value) (base:Heap) (A:Around) (outer:List Env) (s:Shared) (H:Hp):Prop where
 frames:A.frames=some outer
 mod:Mod K mg base
 bs:∀b o,base.get? b=some o→s.heap.get? b=some o∧H b=none
 bsz:base.objs.size≤s.heap.objs.size
 cJ:s.heap.FunFrames base outer
 frf:∀b∈frs outer,H b=none
 hok:HOk P w H s.heap
 bare:AllBare s.gens
def CE (outer:List Env) (P:Program) (w:World) (H:Hp) (s:Shared) (Q:VK) (u:Value) (s':Shared):Prop:=
 ∃v H',s'.os=s.os∧AllBare s'.gens∧Un (frs outer) [] H H' s.heap s'.heap∧HOk P w H' s'.heap∧RelV v u∧Q v H'
def CR (CX:CXT) (outer:List Env) (P:Program) (w:World) (H:Hp) (s:Shared) (Q:VK) (E:XK) (r:Result) (s':Shared):Prop:=
 match r with
 | .ok (.ret u)=>CE outer P w H s Q u s'
 | .ok _=>False
 | .error e=>CX outer H s E e s'
structure aH (P:Program) (w:World) (K:PySem.W.Frag) (mg:Str→Option Value) (base:Heap) (CX:CXT) (k:Nat) (f:Addr) (fd:FuncData) (ps:List Str) (sp:Sp):Prop where
 len:∀vs H Q E,sp vs H Q E→vs.length=ps.length
 run:∀(A:Around) (outer:List Env) (s:Shared) (H:Hp) (args:Args) (us:List Value) (vs:List V) (Q:VK) (E:XK),aJ k A→eG P w K mg base A outer s H→BindsTo s fd args (ps.zip us)→Vals vs us→sp vs H Q E →
  codeAny (model P w) A (.call (.ref f) args) (CR CX outer P w H s Q E) s
theorem eG.make {P:Program} {w:World} {K:PySem.W.Frag} {mg:Str→Option Value} {base:Heap} {A:Around} {outer:List Env} {s:Shared} {H:Hp} (e:eG P w K mg base A outer s H) (C:Addr) (us:List Value) (kw:List (Str×Value)) :
  eG P w K mg base (A.under (.builtin "type.__call__" ⟨.ref C::us,kw⟩)) outer s H:=⟨by first | exact e.frames | (simpa [Around.under,Code.envs,Code.isFrame,pushEnvs] using e.frames),e.mod,e.bs,e.bsz,e.cJ,e.frf,e.hok,e.bare⟩
section
variable {X:Cx} {pins:List (Addr×Obj)} {σ:St} {H:Hp} {s s':Shared}
theorem Inv.uM (I:Inv X pins σ H s):eG X.prog X.w X.K X.mg X.base X.A X.stack s H:=
 ⟨I.ok.frames,I.ok.mod,I.bs,Nat.le_trans I.ok.bsz I.sz,I.stack,I.pD,I.hok,I.bare⟩
theorem Inv.after {Q:VK} {u:Value} (I:Inv X pins σ H s) (h:CE X.stack X.prog X.w H s Q u s'):EP X pins σ Q u s':=by
 obtain ⟨v,H',os,bare,un,hok,r,q⟩:=h
 obtain ⟨hh,g,d,t,os'⟩:=s'
 obtain rfl:os'=s.os:=os
 exact ⟨v,H',I.call (h':=hh) (g':=g) (d':=d) (t':=t) (ch:=[]) un hok bare (fun b z=>absurd z (by simp)),r,q⟩
end
def mH (sp:Sp) (dvs:List V) (E:XK) (t:TA):TE:=fun σ H Q=>t σ H fun vs H1=>sp (vs++dvs) H1 Q E
def aCk (C:Addr) (m:Str) (sp:Sp) (dvs:List V) (E:XK) (ta:TE) (t:TA):TE:=fun σ H Q=>ta σ H fun x H1=>∃a dx fs,x=.ref a∧H1 a=some (.ins C dx fs)∧fs.lookup m=none ∧
 t σ H1 fun vs H2=>sp (x::(vs++dvs)) H2 Q E
def aBy (C:Addr) (sp:Sp) (dvs:List V) (E:XK) (t:TA):TE:=fun σ H Q=>t σ H fun vs H1=>∀x dx,H1 x=none→H1 dx=none→dx≠x →
 sp (.ref x::(vs++dvs)) (upd (upd H1 dx (.own x)) x (.ins C dx [])) (fun v H2=>v=.non∧Q (.ref x) H2) E
def Binds (K:PySem.W.Frag) (fd:FuncData) (ps:List Str) (ds:List Value):Prop:=
 ∀(s:Shared) (us:List Value),K.In s.heap→(us++ds).length=ps.length→BindsTo s fd ⟨us,[]⟩ (ps.zip (us++ds))
theorem Binds.all {K:PySem.W.Frag} {fd:FuncData} {ps:List Str} (h:∀us:List Value,us.length=ps.length→bindArgs fd ⟨us,[]⟩=pure (ps.zip us)):Binds K fd ps []:=fun s us _ hl=>by
 rw[List.append_nil] at hl ⊢
 exact .of_eq (h us hl)
def Passes (CX:CXT) (X:Cx) (E:XK):Prop:=∀(pins:List (Addr×Obj)) (σ:St) (H:Hp) (s:Shared) (e:Value) (s':Shared),Inv X pins σ H s→CX X.stack H s E e s'→X.xe e s'
section
variable {X:Cx} {CX:CXT} {k:Nat} {f C:Addr} {fd:FuncData} {ps:List Str} {sp:Sp} {dvs:List V} {ds:List Value} {E:XK} {x m:Str} {p pos apos:Pos} {e o:Expr} {es:List Expr} {ta:TE} {t:TA}
theorem uA {pins:List (Addr×Obj)} {σ:St} {H:Hp} {s:Shared} {Q:VK} {us:List Value} {vs:List V} (F:aH X.prog X.w X.K X.mg X.base CX k f fd ps sp) (hr:aJ k X.A) (hb:Binds X.K fd ps ds) (hd:Vals dvs ds) (hx:Passes CX X E)
  (I:Inv X pins σ H s) (r:Vals vs us) (h:sp (vs++dvs) H Q E):wpAny (model X.prog X.w) X.A (call (.ref f) us) (EP X pins σ Q) X.xe s:=by
 have r2:Vals (vs++dvs) (us++ds):=r.append hd
 have hl:(us++ds).length=ps.length:=by rw[←r2.length];exact F.len _ _ _ _ h
 refine wpAny_call (codeAny_mono (F.run X.A X.stack s H ⟨us,[]⟩ (us++ds) (vs++dvs) Q E hr I.uM (hb s us I.kIn hl) r2 h) fun r s' hq=>?_)
 cases r with
 | error e=>exact hx pins σ H s e s' I hq
 | ok fl=>
  cases fl with
  | ret u=>exact I.after hq
  | next=>exact False.elim hq
  | brk=>exact False.elim hq
  | cont=>exact False.elim hq
theorem pR (F:aH X.prog X.w X.K X.mg X.base CX k f fd ps sp) (hr:aJ k X.A) (hg:Gl X x) (hm:X.mg x=some (.ref f)) (hk:PySem.W.keepIn X.K (.ref f)=true) (hb:Binds X.K fd ps ds) (hd:Vals dvs ds) (hx:Passes CX X E)
  (ha:PA X (e::es) t) (hdb:(x==("__debug__":Str))=false:=by decide) (he:starEach (e::es) X.env=(false,eval e X.env)::starEach es X.env:=by rfl) (hpl:(backTo pos (starEach es X.env)).any (·.1)=false:=by rfl) :
  PE X (.Call (.Name x p) (e::es) [] pos) (mH sp dvs E t):=by
 intro pins s σ H Q I h
 refine wpAny_Call_Name_kw (nX I hg hm ?_ hdb)
 refine PySem.W.callWith_K (h₀:=X.base) I.ok.mod.kin hk (thn (ha pos pins s σ H _ I h) fun us s1 ⟨vs,H1,I1,r,q⟩=>⟨I1.kIn,?_⟩) he hpl
 exact uA F hr hb hd hx I1 r q
theorem aC5 {pl:Sem Bool} (he:PE X o ta) (c:Cls X.K C) (hm:Meth X.K C m f) (F:aH X.prog X.w X.K X.mg X.base CX k f fd ps sp) (hr:aJ k X.A) (hb:Binds X.K fd ps ds) (hd:Vals dvs ds) (hx:Passes CX X E)
  (ht:eval (.Call (.Attribute o m apos) [] [] pos) X.env=(do
   let ov ←eval o X.env
   standAt apos.atName
   let (f,first) ←holding [ov] (getMethod ov m pl)
   callWith pos f first (backTo pos (starEach [] X.env)) (backToKw pos (keywordEach [] X.env))):=by rfl) :
  PE X (.Call (.Attribute o m apos) [] [] pos) (aCk C m sp dvs E ta tX):=by
 intro pins s σ H Q I h
 refine PySem.W.methodCall_KW (pl:=pl) (thn (he pins s σ H _ I h) fun u s1 ⟨x,H1,I1,rx,a,dx,fs,ex,ea,l,q⟩=>?_) ht
 subst ex
 obtain rfl:u=Value.ref a:=rx
 refine aEs I1 ea c hm l ?_
 exact PySem.W.callWith_K0 (first:=[.ref a]) I1.kIn hm.kp (uA (us:=[.ref a]) (vs:=[.ref a]) F hr hb hd hx I1 (.cons rfl .nil) q)
structure Mk (K:PySem.W.Frag) (C f:Addr):Prop where
 makes:PySem.W.makesIn K C=true
 init:PySem.W.findIn K (.ref C) "__init__" = some (some (.ref f))
 fn:PySem.W.isFn K (.ref f)=true
 kp:PySem.W.keepIn K (.ref C)=true
theorem aG6 {pins:List (Addr×Obj)} {σ:St} {H:Hp} {s:Shared} {Q:VK} {us:List Value} {vs:List V} (M:Mk X.K C f) (F:aH X.prog X.w X.K X.mg X.base CX k f fd ps sp) (hr:aJ (k+1) X.A) (hb:Binds X.K fd ps ds) (hd:Vals dvs ds)
  (hx:Passes CX X E) (I:Inv X pins σ H s) (r:Vals vs us)
  (h:∀x dx,H x=none→H dx=none→dx≠x→sp (.ref x::(vs++dvs)) (upd (upd H dx (.own x)) x (.ins C dx [])) (fun v H2=>v=.non∧Q (.ref x) H2) E) :
  wpAny (model X.prog X.w) X.A (call (.ref C) us) (EP X pins σ Q) X.xe s:=by
 have hq:=h (s.heap.objs.size+1) s.heap.objs.size (I.hok.fresh (Nat.le_succ _)) (I.hok.fresh (Nat.le_refl _)) (Nat.ne_of_lt (Nat.lt_succ_self _))
 have I2:=Inv.made (C:=C) I
 have r2:Vals (V.ref (s.heap.objs.size+1)::(vs++dvs)) (Value.ref (s.heap.objs.size+1)::(us++ds)):=.cons rfl (r.append hd)
 have hl:(Value.ref (s.heap.objs.size+1)::us++ds).length=ps.length:=by
  have e:=r2.length
  rw[F.len _ _ _ _ hq] at e
  exact e.symm
 refine wpAny_call (aC8 (f:=f) I.kIn M.makes M.init (beq_iff_eq.mp M.fn) (codeAny_mono (F.run _ X.stack _ _ ⟨Value.ref (s.heap.objs.size+1)::us,[]⟩ (Value.ref (s.heap.objs.size+1)::(us++ds)) _ _ E (hr.make C us [])
  (I2.uM.make C us []) (hb _ (Value.ref (s.heap.objs.size+1)::us) I2.kIn hl) r2 hq) fun r s' hq'=>?_))
 cases r with
 | error e=>exact hx pins σ _ _ e s' I2 hq'
 | ok fl=>
  cases fl with
  | ret u=>
   obtain ⟨v,H',I3,rv,ev,q3⟩:=I2.after hq'
   subst ev
   exact ⟨rv,⟨V.ref (s.heap.objs.size+1),H',I3,rfl,q3⟩⟩
  | next=>exact False.elim hq'
  | brk=>exact False.elim hq'
  | cont=>exact False.elim hq'
theorem aFx (M:Mk X.K C f) (F:aH X.prog X.w X.K X.mg X.base CX k f fd ps sp) (hr:aJ (k+1) X.A) (hg:Gl X x) (hm:X.mg x=some (.ref C)) (hb:Binds X.K fd ps ds) (hd:Vals dvs ds) (hx:Passes CX X E)
  (ha:PA X (e::es) t) (hdb:(x==("__debug__":Str))=false:=by decide) (he:starEach (e::es) X.env=(false,eval e X.env)::starEach es X.env:=by rfl) (hpl:(backTo pos (starEach es X.env)).any (·.1)=false:=by rfl) :
  PE X (.Call (.Name x p) (e::es) [] pos) (aBy C sp dvs E t):=by
 intro pins s σ H Q I h
 refine wpAny_Call_Name_kw (nX I hg hm ?_ hdb)
 refine PySem.W.callWith_K (h₀:=X.base) I.ok.mod.kin M.kp (thn (ha pos pins s σ H _ I h) fun us s1 ⟨vs,H1,I1,r,q⟩=>⟨I1.kIn,?_⟩) he hpl
 exact aG6 M F hr hb hd hx I1 r q
end
section
variable {X:Cx} {CX:CXT} {k:Nat} {f C:Addr} {fd:FuncData} {ps ks:List Str} {sp:Sp} {E:XK} {x m:Str} {p pos apos kpos:Pos} {e o:Expr} {es:List Expr} {kws:List Keyword} {te ta:TE} {t tk:TA} {nm:Option Str}
variable {g:List Value→List Value→List Value} {gV:List V→List V→List V}
end
structure aP (N P:List Str) (sc:Scope):Prop where
 kind:sc.kind=.function
 co:sc.isCoroutine=false
 gen:sc.isGenerator=false
 nd:N.Nodup
 pre:N.take P.length=P
 par:∀x∈P,sc.names.lookup x=some .local∨sc.names.lookup x=some .cell
 nofree:∀y∈sc.names,y.2≠.free
theorem sZ {kindOf:Str→Option NameKind} {x:Str}:∀{binds:List (Str×Value)} {m:Str→Option Value},(∀v,(x,v)∉binds)→bindL kindOf binds m x=m x
 | [],_,_=>rfl
 | (n,v)::r,m,h=>by
  unfold bindL
  rw[sZ fun w hw=>h w (List.mem_cons_of_mem _ hw)]
  split
  ·have:x≠n:=by rintro rfl;exact h v List.mem_cons_self
   simp [this]
  ·rfl
theorem sV {kindOf:Str→Option NameKind} {x:Str}:∀{binds:List (Str×Value)} {m:Str→Option Value},(∀v,(x,v)∉binds)→bindC kindOf binds m x=m x
 | [],_,_=>rfl
 | (n,v)::r,m,h=>by
  unfold bindC
  rw[sV fun w hw=>h w (List.mem_cons_of_mem _ hw)]
  split
  ·rfl
  ·have:x≠n:=by rintro rfl;exact h v List.mem_cons_self
   simp [this]
theorem uZ {kindOf:Str→Option NameKind} {x:Str} {v:Value}:∀{P:List Str} {vs:List Value} {i:Nat} {m:Str→Option Value},P.Nodup→P[i]?=some x→vs[i]?=some v→kindOf x=some .local →
  bindL kindOf (P.zip vs) m x=some v
 | [],_,_,_,_,h,_,_=>by simp at h
 | _::_,[],_,_,_,_,h,_=>by simp at h
 | p::P,w::vs,0,m,nd,h1,h2,hk=>by
  simp at h1 h2;subst h1;subst h2
  show bindL kindOf ((p,w)::P.zip vs) m p=_
  unfold bindL
  rw[sZ fun v hv=>(List.nodup_cons.mp nd).1 (List.of_mem_zip hv).1,if_pos hk]
  simp
 | p::P,w::vs,i+1,m,nd,h1,h2,hk=>by
  show bindL kindOf ((p,w)::P.zip vs) m x=_
  unfold bindL
  exact uZ (i:=i) (List.nodup_cons.mp nd).2 (by simpa using h1) (by simpa using h2) hk
theorem pI {kindOf:Str→Option NameKind} {x:Str} {v:Value}:∀{P:List Str} {vs:List Value} {i:Nat} {m:Str→Option Value},P.Nodup→P[i]?=some x→vs[i]?=some v→kindOf x≠some .local →
  bindC kindOf (P.zip vs) m x=some v
 | [],_,_,_,_,h,_,_=>by simp at h
 | _::_,[],_,_,_,_,h,_=>by simp at h
 | p::P,w::vs,0,m,nd,h1,h2,hk=>by
  simp at h1 h2;subst h1;subst h2
  show bindC kindOf ((p,w)::P.zip vs) m p=_
  unfold bindC
  rw[sV fun v hv=>(List.nodup_cons.mp nd).1 (List.of_mem_zip hv).1,if_neg hk]
  simp
 | p::P,w::vs,i+1,m,nd,h1,h2,hk=>by
  show bindC kindOf ((p,w)::P.zip vs) m x=_
  unfold bindC
  exact pI (i:=i) (List.nodup_cons.mp nd).2 (by simpa using h1) (by simpa using h2) hk
def start (N:List Str) (vs:List V):St:=vs.map some++List.replicate (N.length-vs.length) none
def eZ (CX:CXT) (P:Program) (w:World) (K:PySem.W.Frag) (mg:Str→Option Value) (base:Heap) (N:List Str) (qual:Str) (scope:Scope) (f:Addr) (cd:Value) (A:Around) (outer:List Env) (s:Shared) (H:Hp) (E:XK):Cx where
 prog:=P
 w:=w
 K:=K
 mg:=mg
 base:=base
 A:=A.deeper (envOfC qual scope s.heap.objs.size f cd)
 N:=N
 s_0:=s
 H_0:=H
 env:=envOfC qual scope s.heap.objs.size f cd
 outer:=outer
 stack:=envOfC qual scope s.heap.objs.size f cd::outer
 ex:=[]
 calm:=true
 fn:=fun _=>true
 pn:=[]
 xe:=fun e s'=>wpAny (model P w) (A.deeper (envOfC qual scope s.heap.objs.size f cd)) (leaving (envOfC qual scope s.heap.objs.size f cd) e) (fun _ s''=>CX outer H s E e s'') (fun e' s''=>CX outer H s E e' s'') s'
theorem rS {sc:Scope} {n:Nat} {x:Str} (h:sc.names.lookup x=some .cell):∃c,(cellsFrom n sc.names []).lookup x=some c:=by
 have q:=PySem.W.cellsFrom_some sc.names n [] (.inl h)
 exact Option.isSome_iff_exists.mp q
theorem aBu {CX:CXT} {P:Program} {w:World} {K:PySem.W.Frag} {mg:Str→Option Value} {base:Heap} {N ps:List Str} {qual:Str} {scope:Scope} {f:Addr} {cd:Value} {A:Around} {outer:List Env} {s s1:Shared} {H:Hp} {E:XK} {us:List Value} {vs:List V}
  (S:aP N ps scope) (hd:A.handled=none) (e0:eG P w K mg base A outer s H) (hl:vs.length=ps.length) (r:Vals vs us)
  (x:InCallC s s.heap.objs.size (bindL (envOfC qual scope s.heap.objs.size f cd).kindOf (ps.zip us) fun _=>none) (cellsFrom (s.heap.objs.size+1) scope.names []) (bindC (envOfC qual scope s.heap.objs.size f cd).kindOf (ps.zip us) fun _=>none) s1) :
  Inv (eZ CX P w K mg base N qual scope f cd A outer s H E) [] (start N vs) H s1:=by
 have hpl:ps.length≤N.length:=by have:=congrArg List.length S.pre;rw[List.length_take] at this;omega
 obtain ⟨h1,tk,rfl,hk⟩:=x.done
 have noA:∀b:Addr,b∉(eZ CX P w K mg base N qual scope f cd A outer s H E).ex:=fun b z=>absurd (show b∈([]:List Addr) from z) (by simp)
 refine ⟨⟨e0.mod,S.kind,rfl,rfl,Nat.le_refl _,fun y z c h1 h2=>?_,fun y hy=>?_,fun y c _ h=>?_,fun _=>hd,Around.frames_deeper e0.frames,.inr ⟨rfl,rfl⟩,fun b z=>absurd z (noA b),e0.bs,e0.bsz,fun b _ _=>noA b,fun b z=>absurd z (noA b),e0.cJ,e0.frf⟩,
  rfl,e0.bare,Un.kept hk,⟨_,x.toInCall.ns,fun i y v h1 h2 h3=>?_⟩,fun y c h=>⟨_,x.cell y c h⟩,e0.hok.fresh (Nat.le_refl _),fun y c h=>?_,fun p hp=>absurd (show p∈([]:List (Addr×Obj)) from hp) (by simp),e0.hok.kept hk,?_⟩
 ·exact name_of_addr x.apart (PySem.mem_of_lookup h1) (PySem.mem_of_lookup h2)
 ·have hy:scope.names.lookup y=some .cell∨scope.names.lookup y=some .free:=hy
  rcases hy with hy | hy
  ·exact rS hy
  ·exact absurd rfl (S.nofree _ (PySem.mem_of_lookup hy))
 ·exact Nat.le_of_lt (x.above y c (PySem.mem_of_lookup h))
 ·have hi:i<vs.length:=by
   unfold start at h2
   by_cases hi:i<vs.length
   ·exact hi
   ·rw[List.getElem?_append_right (by simpa using hi)] at h2
    rw[List.getElem?_replicate] at h2
    split at h2<;>cases h2
  have ha:vs[i]?=some v:=by
   unfold start at h2
   rw[List.getElem?_append_left (by simpa using hi),List.getElem?_map] at h2
   cases e:vs[i]? with
   | none=>rw[e] at h2;cases h2
   | some a=>rw[e] at h2;cases h2;rfl
  obtain ⟨u,hu,rv⟩:=r.get ha
  have hp:ps[i]?=some y:=by
   rw[←S.pre,List.getElem?_take_of_lt (by omega)];exact h1
  have ndP:ps.Nodup:=by rw[←S.pre];exact S.nd.sublist (List.take_sublist _ _)
  refine ⟨u,rv,?_⟩
  rcases S.par y (List.mem_of_getElem? hp) with k | k
  ·exact .inl ⟨k,uZ ndP hp hu k⟩
  ·obtain ⟨c,e⟩:=rS (n:=s.heap.objs.size+1) k
   refine .inr ⟨.inl k,c,e,?_⟩
   have q:=x.cell y c e
   rw[pI ndP hp hu (by show scope.names.lookup y≠_;rw[k];decide)] at q
   exact q
 ·exact e0.hok.fresh (Nat.le_of_lt (x.above y c (PySem.mem_of_lookup h)))
 ·unfold start
  show _=N.length
  rw[List.length_append,List.length_map,List.length_replicate]
  omega
theorem aBo {CX:CXT} {P:Program} {w:World} {K:PySem.W.Frag} {mg:Str→Option Value} {base:Heap} {k:Nat} {f:Addr} {name qual:Str} {params:Arguments} {body:List Stmt} {scope:Scope} {dV kV doc pm cdv ct oc:Value} {an od:Option Addr}
  {osl:Array (Option Value)} {N ps:List Str} {sp:Sp} (lk:K.lookup f=some ⟨oc,od,.func (PySem.W.fnOf name qual params body scope dV kV doc pm an cdv ct),osl⟩) (hcd:PySem.W.codeIn K cdv qual=true) (S:aP N ps scope)
  (len:∀vs H Q E,sp vs H Q E→vs.length=ps.length)
  (hbody:∀(A:Around) (outer:List Env) (s:Shared) (H:Hp) (vs:List V) (Q:VK) (E:XK),aJ k (A.deeper (envOfC qual scope s.heap.objs.size f cdv))→sp vs H Q E →
   ∃t,PSs (eZ CX P w K mg base N qual scope f cdv A outer s H E) body t∧t { nx:=fun _ H'=>Q .non H',rt:=Q } (start N vs) H) :
  aH P w K mg base CX (k+1) f (PySem.W.fnOf name qual params body scope dV kV doc pm an cdv ct) ps sp:=by
 refine ⟨len,fun A outer s H args us vs Q E hr e0 hb r hsp=>?_⟩
 have hl:=len _ _ _ _ hsp
 have KX:K.In s.heap:=e0.mod.kin.keeps fun b o e=>(e0.bs b o e).1
 have lim:s.heap.NoLimit:=e0.mod.nolimit.keeps fun b o e=>(e0.bs b o e).1
 have hkind:∀y∈ps.zip us,scope.names.lookup y.1=some .local∨(scope.names.lookup y.1=some .cell∧((cellsFrom (s.heap.objs.size+1) scope.names []).lookup y.1).isSome=true):=fun ⟨n,v⟩ hy=>by
  rcases S.par n (List.of_mem_zip hy).1 with q | q
  ·exact .inl q
  ·exact .inr ⟨q,PySem.W.cellsFrom_some _ _ _ (.inl q)⟩
 refine codeAny_call_function hr.depth (KX _ _ lk) rfl S.co S.gen rfl (PySem.W.codeRec_of KX hcd) (hb _ _ _ _ ?_)
 refine wpAny_newFunctionEnv_cells S.kind hkind fun env he s1 x=>?_
 subst he
 refine ⟨lim.keeps x.toInCall.keep,codeAny_func ?_⟩
 obtain ⟨t,ht,hq⟩:=hbody A outer s H vs Q E (hr.deeper _) hsp
 have I:Inv (eZ CX P w K mg base N qual scope f cdv A outer s H E) [] (start N vs) H s1:=aBu S hr.hd e0 hl r x
 refine wpAny_mono (ht [] s1 (start N vs) H _ I hq) (fun fl s' hs=>?_) fun e s' hs=>hs
 have fin:∀{σ':St} {H':Hp} {v:V} {u:Value},Inv (eZ CX P w K mg base N qual scope f cdv A outer s H E) [] σ' H' s'→RelV v u→Q v H'→CE outer P w H s Q u s':=
  fun {σ' H' v u} J rv q=>⟨v,H',J.os,J.bare,J.base,J.hok,rv,q⟩
 cases fl with
 | ret u=>
  obtain ⟨v,σ',H',J,rv,q⟩:=hs
  exact fin J rv q
 | next=>
  obtain ⟨σ',H',J,q⟩:=hs
  exact fin (v:=V.non) (u:=Value.none) J rfl q
 | brk=>
  obtain ⟨_,_,_,q⟩:=hs
  exact False.elim q
 | cont=>
  obtain ⟨_,_,_,q⟩:=hs
  exact False.elim q
end L2
namespace L2
open PySem PySem.Spec PyProof.Rows
section
variable {X:Cx} {x:Str} {p pos:Pos} {e:Expr} {es:List Expr} {t:TA} {id T:String} {r:List V→Hp→VK→Prop}
def tCB (r:List V→Hp→VK→Prop) (t:TA):TE:=fun σ H Q=>t σ H fun vs H1=>r vs H1 Q
theorem yI (hc:tU X (.builtin id) r) (hg:Gl X x) (hm:X.mg x=none) (hv:bootBuiltins x=some (.builtin id)) (ha:PA X (e::es) t) (hn:x≠"__name__":=by decide) (hdb:(x==("__debug__":Str))=false:=by decide)
  (he:starEach (e::es) X.env=(false,eval e X.env)::starEach es X.env:=by rfl) (hpl:(backTo pos (starEach es X.env)).any (·.1)=false:=by rfl):PE X (.Call (.Name x p) (e::es) [] pos) (tCB r t):=by
 intro pins s σ H Q I h
 refine wpAny_Call_Name_kw (nJ I hg hm hv ?_ hn hdb)
 exact PyProof.Rows.callWith_builtin1 (thn (ha pos pins s σ H _ I h) fun us s1 ⟨vs,H1,I1,r1,q1⟩=>hc pins s1 σ H1 vs us Q I1 r1 q1) he hpl
end
end L2
namespace HT
open PySem PyProof.Rows
section
open PySem.SeqAt
open PySem.AutoSeq1 (wpAny_loadPart')
open PySem.MeetsSeq PySem.MeetsSeq2 PySem.MeetsSeq3
end
section
variable {prog:Program} {w:World} {A:Around} {E:Value→Shared→Prop} {s:Shared}
def sIx (n d:Nat):Option Int→Nat
 | none=>d
 | some v=>if v<0 then (v+(n:Int)).toNat else min v.toNat n
theorem aFm (n d k:Nat):sIx n d (some (k:Int))=min k n:=by
 show (if (k:Int)<0 then ((k:Int)+(n:Int)).toNat else min (k:Int).toNat n)=min k n
 rw[if_neg (by omega),Int.toNat_natCast]
end
end HT
namespace L2
open PySem PySem.Spec PyProof.Rows
abbrev TO:=St→Hp→(Option Int→Hp→Prop)→Prop
def PO (X:Cx) (e:Option Expr) (t:TO):Prop:=
 ∀(pins:List (Addr×Obj)) (s:Shared) (σ:St) (H:Hp) (Q:Option Int→Hp→Prop),Inv X pins σ H s→t σ H Q →
  wpAny (model X.prog X.w) X.A (evalPart e X.env) (fun u s'=>∃o H',Inv X pins σ H' s'∧IsPart u o∧Q o H') X.xe s
def wI (t:TE):TO:=fun σ H Q=>t σ H fun x H1=>∃i,x=.int i∧Q (some i) H1
section
variable {X:Cx} {e:Expr} {te:TE} {lo hi:Option Expr} {tl th:TO} {pos p2:Pos}
theorem hR (h:PE X e te):PO X (some e) (wI te):=by
 intro pins s σ H Q I hw
 rw[evalPart_some]
 refine thn (h pins s σ H _ I hw) fun u s1 ⟨x,H1,I1,r1,q1⟩=>?_
 obtain ⟨i,rfl,q⟩:=q1
 obtain ⟨t,rfl⟩:=r1
 exact ⟨some i,H1,I1,.int i t,q⟩
def SlR (X:Cx) (r:V→Option Int→Option Int→Hp→VK→Prop):Prop:=
 ∀(pins:List (Addr×Obj)) (s:Shared) (σ:St) (H:Hp) (x:V) (v vl vu:Value) (lo hi:Option Int) (sl:Addr) (Q:VK),Inv X pins σ H s→RelV x v→s.heap.IsSliceOf sl vl vu .none→IsPart vl lo→IsPart vu hi→r x lo hi H Q →
  ∃T id,typeLookup (.type T) "__getitem__" = pure (some (.builtin id))∧s.TypeIs v T∧wpAny (model X.prog X.w) X.A (getItem v (.ref sl)) (EP X pins σ Q) X.xe s
def tSl (r:V→Option Int→Option Int→Hp→VK→Prop) (te:TE) (tl th:TO):TE:=fun σ H Q=>te σ H fun x H1=>tl σ H1 fun l H2=>th σ H2 fun u H3=>r x l u H3 Q
theorem sJ {r:V→Option Int→Option Int→Hp→VK→Prop} (hr:SlR X r) (he:PE X e te) (hl:PO X lo tl) (hu:PO X hi th):PE X (.Subscript e (.Slice lo hi none p2) pos) (tSl r te tl th):=by
 intro pins s σ H Q I h
 refine Subscript_ (thn (he pins s σ H _ I h) fun v s1 ⟨x,H1,I1,r1,q1⟩=>?_)
 refine wpAny_Slice (thn (hl pins s1 σ H1 _ I1 q1) fun vl s2 ⟨l,H2,I2,pl,q2⟩=>thn (hu pins s2 σ H2 _ I2 q2) fun vu s3 ⟨u,H3,I3,pu,q3⟩=>?_)
 rw[evalPart_none]
 refine wpAny_pure ?_
 have I4:Inv X pins σ H3 { s3 with heap:=s3.heap.push { cls:=.type "slice",data:=.fields #[vl,vu,.none] } }:=I3.kept (t':=s3.toks) fun b ob q=>Heap.get?_push_of_some _ q
 obtain ⟨T,id,hT,ht,hg⟩:=hr pins { s3 with heap:=s3.heap.push { cls:=.type "slice",data:=.fields #[vl,vu,.none] } } σ H3 x v vl vu l u s3.heap.objs.size Q I4 r1 (Heap.IsSliceOf.new ..) pl pu q3
 show wpAny (model X.prog X.w) X.A (subscriptTail e (.Slice lo hi none p2) v (.ref s3.heap.objs.size)) (EP X pins σ Q) X.xe { s3 with heap:=s3.heap.push { cls:=.type "slice",data:=.fields #[vl,vu,.none] } }
 exact tail_any (ops:=[.ref s3.heap.objs.size,v]) ht hT hg (by with_unfolding_all rfl)
def cZ (xs:List V) (lo hi:Option Int):List V:=(xs.drop (HT.sIx xs.length 0 lo)).take (HT.sIx xs.length xs.length hi-HT.sIx xs.length 0 lo)
theorem aA1 (xs:List V) (lo hi:Option Int):(cZ xs lo hi).length≤xs.length:=by
 unfold cZ
 rw[List.length_take,List.length_drop]
 omega
end
end L2
namespace L2
open PySem PySem.Spec PyProof.Rows
def ixN (n:Nat) (i:Int):Option Nat:=if 0≤i then (if i<n then some i.toNat else none) else if -(n:Int)≤i then some (i+n).toNat else none
def atI {α:Type} (xs:List α) (i:Int):Option α:=(ixN xs.length i).bind fun j=>xs[j]?
theorem uH {n:Nat} {i:Int} {j:Nat} (h:ixN n i=some j):seqIndex? i n=some j∧j<n∧-(n:Int)≤i∧i<n:=by
 unfold ixN at h
 by_cases h0:0≤i
 ·rw[if_pos h0] at h
  by_cases h1:i<n
  ·rw[if_pos h1] at h
   have e:i.toNat=j:=Option.some.inj h
   exact ⟨by rw[seqIndex_of h0 h1,e],by omega,by omega,h1⟩
  ·rw[if_neg h1] at h;cases h
 ·rw[if_neg h0] at h
  by_cases h1:-(n:Int)≤i
  ·rw[if_pos h1] at h
   have e:(i+n).toNat=j:=Option.some.inj h
   exact ⟨by rw[seqIndex_neg (by omega) h1,e],by omega,h1,by omega⟩
  ·rw[if_neg h1] at h;cases h
theorem aGu {α:Type} {xs:List α} {i:Int} {v:α} (h:atI xs i=some v):∃j,seqIndex? i xs.length=some j∧xs[j]?=some v∧j<xs.length∧-(xs.length:Int)≤i∧i<xs.length:=by
 unfold atI at h
 cases e:ixN xs.length i with
 | none=>rw[e] at h;cases h
 | some j=>
  rw[e] at h
  obtain ⟨h1,h2,h3,h4⟩:=uH e
  exact ⟨j,h1,h,h2,h3,h4⟩
theorem aG8 {α:Type} {xs:List α} {j:Nat} {v:α} (h:xs[j]?=some v):atI xs (j:Int)=some v:=by
 have hj:j<xs.length:=(List.getElem?_eq_some_iff.mp h).1
 have e:ixN xs.length (j:Int)=some j:=by
  unfold ixN
  rw[if_pos (by omega),if_pos (by omega)];simp
 unfold atI;rw[e];exact h
def fT (b:Expr):Prop:=∀o i,subscripted b false o i=operate [o,i] (getItem o i)
def IxR (X:Cx) (r:R2):Prop:=
 ∀(value slice:Expr) (pins:List (Addr×Obj)) (s:Shared) (σ:St) (H:Hp) (x y:V) (v u:Value) (Q:VK),Inv X pins σ H s→RelV x v→RelV y u→r x y H Q →
  subscripted slice false v u=operate [v,u] (getItem v u)→wpAny (model X.prog X.w) X.A (subscriptTail value slice v u) (EP X pins σ Q) X.xe s
section
variable {X:Cx} {a b:Expr} {ta tb:TE} {pos:Pos}
theorem pF {r:R2} (hr:IxR X r) (ha:PE X a ta) (hb:PE X b tb) (hs:fT b):PE X (.Subscript a b pos) (tOp r ta tb):=by
 intro pins s σ H Q I h
 exact Subscript_ (nP ha hb I h fun v u s2 x y H2 I2 rx ry q=>hr a b pins s2 σ H2 x y v u Q I2 rx ry q (hs _ _))
def aDv (K:PySem.W.Frag):R2:=fun x y H Q=>∃p xs i v,x=.ref p∧y=.int i∧SqL K H p xs∧atI xs i=some v∧Q v H
theorem tI:IxR X (aDv X.K):=by
 intro value slice pins s σ H x y v u Q I rx ry h hs
 obtain ⟨p,xs,i,z,rfl,rfl,hq,he,q⟩:=h
 cases rx
 obtain ⟨t,rfl⟩:=ry
 obtain ⟨its,r,pl,hz⟩:=I.list hq
 obtain ⟨j,h1,h2,h3,h4,h5⟩:=aGu he
 obtain ⟨w,ew,rw'⟩:=r.get h2
 have hl:=r.length
 have hn:=mM
 have fin:EP X pins σ Q w s:=⟨z,H,I,rw',q⟩
 by_cases h0:0≤i
 ·have hj:i.toNat=j:=by
   rw[seqIndex_of h0 h5] at h1
   exact Option.some.inj h1
  exact item_listR pl.isList h0 (by omega) (by rw[hj];simpa using ew) fin hs
 ·have hj:(i+(its.toArray.size:Int)).toNat=j:=by
   rw[seqIndex_neg (by omega) h4] at h1
   rw[List.size_toArray,←hl]
   exact Option.some.inj h1
  exact subscriptTail_builtinR (x:=w) pl.isList.typeIs slot_list_getitem.lookup
   (wpAny_getItem_list_neg (Q:=fun r s'=>r=w∧EP X pins σ Q r s') pl.isList (by omega) (by rw[List.size_toArray]<;>omega) (by omega) (by rw[hj];simpa using ew) ⟨rfl,fin⟩) hs
theorem vX (its:List Value) (n j:Nat) (u:Value):Obj.mapSeq (·.setIfInBounds j u) { cls:=.type "list",data:=.seq its.toArray n }={ cls:=.type "list",data:=.seq (its.set j u).toArray n }:=by
 simp [Obj.mapSeq]
theorem Inv.lst {pins:List (Addr×Obj)} {σ:St} {H:Hp} {s:Shared} {p:Addr} {xs:List V} (I:Inv X pins σ H s) (h:H p=some (.lst xs)) :
  ∃(its:List Value) (n:Nat),Vals xs its∧s.heap.get? p=some { cls:=.type "list",data:=.seq its.toArray n }∧xs.length≤sizeLine:=by
 obtain ⟨z,its,n,r,e⟩:=I.hok p _ h
 exact ⟨its,n,r,e,z⟩
theorem Inv.aFj {pins:List (Addr×Obj)} {σ:St} {H:Hp} {s:Shared} {p:Addr} {xs ys:List V} {its its':List Value} {n n':Nat} {f:Obj→Obj} (I:Inv X pins σ H s) (h:H p=some (.lst xs))
  (ho:s.heap.get? p=some { cls:=.type "list",data:=.seq its.toArray n }) (hf:f { cls:=.type "list",data:=.seq its.toArray n }={ cls:=.type "list",data:=.seq its'.toArray n' }) (r:Vals ys its') (hz:ys.length≤sizeLine) (t:Nat) :
  Inv X pins σ (upd H p (.lst ys)) { s with heap:=s.heap.update p f,toks:=t }:=by
 have e:(s.heap.update p f).get? p=some { cls:=.type "list",data:=.seq its'.toArray n' }:=by
  rw[Heap.get?_update_self f ho (by rw[hf]<;>rfl),hf]
 refine I.write (x:=p) (e:=p) (by rw[h];trivial) (.inl rfl) (fun b u hb q=>(Heap.get?_update_other _ _ (Ne.symm hb)).trans q) ⟨_,e⟩ ?_
 exact ⟨hz,its',n',r,e⟩
def aAq:V→V→V→Hp→(Hp→Prop)→Prop:=fun o i v H Q=>∃p xs k j,o=.ref p∧i=.int k∧H p=some (.lst xs)∧ixN xs.length k=some j∧Q (upd H p (.lst (xs.set j v)))
theorem set_list:sE X aAq:=by
 intro pins s σ H o i v ov iv u Q I ro ri rv h
 obtain ⟨p,xs,k,j,rfl,rfl,hp,hj,q⟩:=h
 cases ro
 obtain ⟨t,rfl⟩:=ri
 obtain ⟨its,n,r,ho,hz⟩:=I.lst hp
 obtain ⟨h1,h2,h3,h4⟩:=uH hj
 have hl:=r.length
 have hn:=mM
 have I':Inv X pins σ (upd H p (.lst (xs.set j v))) { s with heap:=s.heap.update p (Obj.mapSeq (·.setIfInBounds j u)) }:=
  I.aFj hp ho (vX its n j u) (r.set rv j) (by rw[List.length_set];exact hz) s.toks
 by_cases h0:0≤k
 ·have hk:k.toNat=j:=by
   rw[seqIndex_of h0 h4] at h1
   exact Option.some.inj h1
  exact PySem.W.ki_setAt ho h0 (by omega) (by rw[List.size_toArray,←hl];exact h4) (by rw[hk];exact ⟨_,I',q⟩)
 ·have hk:(k+(its.toArray.size:Int)).toNat=j:=by
   rw[seqIndex_neg (by omega) h3] at h1
   rw[List.size_toArray,←hl]
   exact Option.some.inj h1
  exact PySem.W.ki_setBack ho (by omega) (by rw[List.size_toArray,←hl];exact h3) (by omega) (by rw[hk];exact ⟨_,I',q⟩)
theorem aEx (lo hi:Option Int) (n:Nat):(sliceBounds lo hi none n).1=((HT.sIx n 0 lo:Nat):Int)∧(sliceBounds lo hi none n).2.1=((HT.sIx n n hi:Nat):Int)∧(sliceBounds lo hi none n).2.2=1:=by
 refine ⟨?_,?_,rfl⟩
 ·cases lo with
  | none=>simp [sliceBounds,HT.sIx]
  | some i=>
   simp only[sliceBounds,HT.sIx,Option.getD_none,show (1:Int)>0 by decide,if_true]
   by_cases h:i<0
   ·simp only[h,if_true]<;>omega
   ·simp only[h,if_false]<;>omega
 ·cases hi with
  | none=>simp [sliceBounds,HT.sIx]
  | some i=>
   simp only[sliceBounds,HT.sIx,Option.getD_none,show (1:Int)>0 by decide,if_true]
   by_cases h:i<0
   ·simp only[h,if_true]<;>omega
   ·simp only[h,if_false]<;>omega
theorem xK (its:List Value) (lo hi:Option Int):slicePick its.toArray lo hi none=((its.drop (HT.sIx its.length 0 lo)).take (HT.sIx its.length its.length hi-HT.sIx its.length 0 lo)).toArray:=by
 obtain ⟨h1,h2,h3⟩:=aEx lo hi its.toArray.size
 unfold slicePick
 rw[h1,h2,h3]
 simp only[sliceRange_one,pick_run,List.size_toArray]<;>rfl
def aFa (K:PySem.W.Frag):V→Option Int→Option Int→Hp→VK→Prop:=fun x lo hi H Q=>∃a xs,x=.ref a∧SqL K H a xs∧∀p,H p=none→Q (.ref p) (upd H p (.lst (cZ xs lo hi)))
theorem uG:SlR X (aFa X.K):=by
 intro pins s σ H x v vl vu lo hi sl Q I rx hs pl pu h
 obtain ⟨a,xs,rfl,hx,q⟩:=h
 cases rx
 obtain ⟨its,r,ht,hz⟩:=I.list hx
 have hlen:=r.length
 refine ⟨"list",_,slot_list_getitem.lookup,ht.isList.typeIs,?_⟩
 refine wpAny_getItem_list_slice ht.isList hs pl pu .none (by simp) ?_ (by rw[List.size_toArray]<;>omega)
 rw[xK,←hlen]
 refine ⟨.ref s.heap.objs.size,_,I.laid (t':=s.toks) (o:=.lst (cZ xs lo hi)) (fun b ob q=>Heap.get?_push_of_some _ q) (Nat.le_refl _) ?_,rfl,q _ (I.hok.fresh (Nat.le_refl _))⟩
 exact ⟨Nat.le_trans (aA1 xs lo hi) hz,_,0,(r.drop (HT.sIx xs.length 0 lo)).take (HT.sIx xs.length xs.length hi-HT.sIx xs.length 0 lo),Heap.get?_push_size _ rfl⟩
theorem vT:tU X (.builtin "len") (fun xs H Q=>∃p ys,xs=[.ref p]∧(SqL X.K H p ys∨SqT X.K H p ys)∧Q (.int ys.length) H):=by
 intro pins s σ H xs us Q I r h
 obtain ⟨p,ys,rfl,hq,q⟩:=h
 obtain ⟨u,rfl,rx⟩:=vals1 r
 cases rx
 have hn:=mM
 rcases hq with hq | hq
 ·obtain ⟨its,r',pl,hz⟩:=I.list hq
  have hlen:=r'.length
  exact Calls.call_len_list pl.isList (by simp only[List.size_toArray]<;>omega) ⟨.int ys.length,H,I.tok _,⟨s.toks+1,by rw[List.size_toArray,hlen]⟩,q⟩
 ·obtain ⟨its,r',pl,hz⟩:=I.tuple hq
  have hlen:=r'.length
  exact len_tuple pl (by simp only[List.size_toArray]<;>omega) ⟨.int ys.length,H,I.tok _,⟨s.toks+1,by rw[List.size_toArray,hlen]⟩,q⟩
variable {o e:Expr} {es:List Expr} {to:TE} {t:TA} {name:Str} {apos cpos:Pos} {T id:String} {r:V→List V→Hp→VK→Prop}
end
end L2
namespace L2
open PySem PySem.Spec PyProof.Rows
section
variable {X:Cx} {pins:List (Addr×Obj)} {σ:St} {H:Hp} {s:Shared} {l b:Addr} {xs ys zs:List V}
theorem Inv.aCg {its:List Value} {t':Nat} (I:Inv X pins σ H s) (hv:Vals ys its) (hz:ys.length≤sizeLine) :
  Inv X pins σ (upd H s.heap.objs.size (.lst ys)) { s with heap:=s.heap.push { cls:=.type "list",data:=.seq its.toArray },toks:=t' }:=
 I.laid (fun _ _ q=>Heap.get?_push_of_some _ q) (Nat.le_refl _) ⟨hz,its,0,hv,Heap.get?_push_size _ rfl⟩
theorem Inv.fresh (I:Inv X pins σ H s):H s.heap.objs.size=none:=I.hok.fresh (Nat.le_refl _)
theorem Inv.tG (I:Inv X pins σ H s) (hH:H l=some (.lst xs)):xs.length≤sizeLine∧∃(its:List Value) (n:Nat),Vals xs its∧xs.length=its.length∧s.heap.get? l=some { cls:=.type "list",data:=.seq its.toArray n }:=by
 obtain ⟨z,its,n,r,e⟩:=I.hok l _ hH
 exact ⟨z,its,n,r,r.length,e⟩
end
section
variable {X:Cx}
def aBl:R2:=fun x y H Q=>∃l b xs zs,x=.ref l∧y=.ref b∧H l=some (.lst xs)∧H b=some (.lst zs)∧xs.length+zs.length≤sizeLine∧∀p,H p=none→Q (.ref p) (upd H p (.lst (xs++zs)))
theorem vZ:OpR X (binaryOp .Add) aBl:=by
 intro pins s σ H x y v u Q I rx ry h
 obtain ⟨l,b,xs,zs,rfl,rfl,hH,hB,hz,q⟩:=h
 cases rx
 cases ry
 obtain ⟨z,its,n,r,hl,e⟩:=I.tG hH
 obtain ⟨z2,its2,n2,r2,hl2,e2⟩:=I.tG hB
 refine PySem.P.add_list e e2 ?_ (by rw[List.size_toArray,List.size_toArray];omega)
 have ea:its.toArray++its2.toArray=(its++its2).toArray:=by simp
 rw[ea]
 exact ⟨.ref _,_,I.aCg (t':=s.toks) (r.append r2) (by rw[List.length_append];omega),rfl,q _ I.fresh⟩
end
section
variable {prog:Program} {w:World} {A:Around} {E:Value→Shared→Prop} {s:Shared}
end
section
variable {X:Cx}
end
end L2
namespace L2
open PySem PySem.Spec PyProof.Rows
section
variable {prog:Program} {w:World} {A:Around} {E:Value→Shared→Prop} {s:Shared} {l:Addr} {its:List Value} {ns:List Int} {Q:Value→Shared→Prop}
end
section
variable {X:Cx}
end
section
variable {X:Cx}
end
section
variable {X:Cx}
end
section
variable {X:Cx}
end
mutual
inductive Dp (K:PySem.W.Frag) (H:Hp):V→PyData→Prop
 | non:Dp K H .non .none
 | bl (b:Bool):Dp K H (.bl b) (.bool b)
 | int (i:Int):Dp K H (.int i) (.int i)
 | str (x:Str):Dp K H (.str x) (.str x)
 | lst {a:Addr} {xs:List V} {ds:List PyData}:SqL K H a xs→fS K H xs ds→Dp K H (.ref a) (.list ds)
 | tup {a:Addr} {xs:List V} {ds:List PyData}:SqT K H a xs→fS K H xs ds→Dp K H (.ref a) (.tuple ds)
inductive fS (K:PySem.W.Frag) (H:Hp):List V→List PyData→Prop
 | nil:fS K H [] []
 | cons {v:V} {vs:List V} {d:PyData} {ds:List PyData}:Dp K H v d→fS K H vs ds→fS K H (v::vs) (d::ds)
end
section
variable {X:Cx} {pins:List (Addr×Obj)} {σ:St} {H:Hp} {s:Shared}
mutual
theorem Dp.reads (I:Inv X pins σ H s):∀(d:PyData) (v:V) (u:Value),Dp X.K H v d→RelV v u→∃as,Reads s.heap u d as
 | .none,_,_,h,r=>by
  cases h
  cases r
  exact ⟨_,Reads.none⟩
 | .bool b,_,_,h,r=>by
  cases h
  cases r
  exact ⟨_,Reads.bool b⟩
 | .int i,_,_,h,r=>by
  cases h
  obtain ⟨t,rfl⟩:=r
  exact ⟨_,Reads.int i t⟩
 | .str x,_,_,h,r=>by
  cases h
  obtain ⟨t,rfl⟩:=r
  exact ⟨_,Reads.str x t⟩
 | .list ds,_,_,h,r=>by
  cases h with
  | lst hs ha=>
   cases r
   obtain ⟨its,rv,⟨o,n,ho,hc,_,hd⟩,_⟩:=I.list hs
   obtain ⟨as,hr⟩:=Dp.readsAll I ds _ its ha rv
   exact ⟨_,Reads.list ho hc hd hr⟩
 | .tuple ds,_,_,h,r=>by
  cases h with
  | tup hs ha=>
   cases r
   obtain ⟨its,rv,⟨o,ho,hc,n,hd⟩,_⟩:=I.tuple hs
   obtain ⟨as,hr⟩:=Dp.readsAll I ds _ its ha rv
   exact ⟨_,Reads.tuple ho hc hd hr⟩
 | .dict _,_,_,h,_=>by cases h
theorem Dp.readsAll (I:Inv X pins σ H s):∀(ds:List PyData) (vs:List V) (us:List Value),fS X.K H vs ds→Vals vs us→∃as,ReadsAll s.heap us ds as
 | [],_,_,h,r=>by
  cases h
  cases r
  exact ⟨_,ReadsAll.nil⟩
 | d::ds,_,_,h,r=>by
  cases h with
  | cons h1 h2=>
   cases r with
   | cons r1 r2=>
    obtain ⟨as,q1⟩:=Dp.reads I d _ _ h1 r1
    obtain ⟨bs,q2⟩:=Dp.readsAll I ds _ _ h2 r2
    exact ⟨_,ReadsAll.cons q1 q2⟩
end
end
section
variable {X:Cx}
end
end L2
namespace L2
open PySem PySem.Spec PyProof.Rows
abbrev vM (h:Heap) (c:Addr) (v:Option Value):Prop:=h.IsCell c v
def aCu (scope sc:Scope):Scope:=
 { scope with names:=scope.names.map fun (n,k)=>if (k==.free&&sc.kind==.function&&sc.names.lookup n==some .cell) then (n,.cell) else (n,k) }
def aS (cells:List (Str×Addr)):List (Str×NameKind)→List (Str×Addr)→List (Str×Addr)
 | [],acc=>acc
 | (n,k)::r,acc=>if k==.free then aS cells r ((n,(cells.lookup n).getD 0)::acc) else aS cells r acc
theorem oW (env:Env) (f:Str×NameKind→List (Str×Addr)→Sem (ForInStep (List (Str×Addr))))
  (hf:∀n k c,f (n,k) c=if k==.free then (do let a ←cellOf env n;pure (.yield ((n,a)::c))) else pure (.yield c)) :
  ∀(names:List (Str×NameKind)) (acc:List (Str×Addr)),(∀y∈names,y.2=.free→∃c,env.cells.lookup y.1=some c)→forIn names acc f=pure (aS env.cells names acc)
 | [],acc,_=>by rw[List.forIn_nil];rfl
 | (n,k)::r,acc,h=>by
  rw[List.forIn_cons,hf]
  have ih:=fun acc=>oW env f hf r acc fun y hy=>h y (List.mem_cons_of_mem _ hy)
  unfold aS
  by_cases hk:(k==NameKind.free)=true
  ·rw[if_pos hk,if_pos hk]
   obtain ⟨c,hc⟩:=h (n,k) List.mem_cons_self (by simpa using hk)
   have e:cellOf env n=pure c:=by unfold cellOf;rw[hc]
   rw[e]
   have e2:(env.cells.lookup n).getD 0=c:=by rw[hc];rfl
   rw[e2]
   exact ih _
  ·rw[if_neg hk,if_neg hk]
   exact ih _
theorem aA7 {scope:Scope} {env:Env} (h:∀y∈scope.names,y.2=.free→∃c,env.cells.lookup y.1=some c):closureFor scope env=pure (aS env.cells scope.names []):=by
 simp only[closureFor]
 rw[oW env _ (fun n k c=>rfl) scope.names [] h]
 rfl
theorem mem_lookup {α:Type}:∀{l:List (Str×α)} {n:Str} {c:α},(n,c)∈l→∃c',l.lookup n=some c'
 | (k,v)::r,n,c,h=>by
  rw[List.lookup_cons]
  cases hb:n==k with
  | true=>exact ⟨_,rfl⟩
  | false=>
   rcases List.mem_cons.mp h with e | h
   ·cases e;simp at hb
   ·exact mem_lookup h
theorem iL {cells:List (Str×Addr)}:∀{names:List (Str×NameKind)} {acc:List (Str×Addr)} {n:Str} {c:Addr},(n,c)∈aS cells names acc→(n,c)∈acc∨((n,.free)∈names∧c=(cells.lookup n).getD 0)
 | [],_,_,_,h=>.inl h
 | (m,k)::r,acc,n,c,h=>by
  unfold aS at h
  split at h
  ·rename_i hk
   have hk:k=.free:=by simpa using hk
   rcases iL h with h | ⟨h1,h2⟩
   ·rcases List.mem_cons.mp h with e | h
    ·cases e;exact .inr ⟨hk▸List.mem_cons_self,rfl⟩
    ·exact .inl h
   ·exact .inr ⟨List.mem_cons_of_mem _ h1,h2⟩
  ·rcases iL h with h | ⟨h1,h2⟩
   ·exact .inl h
   ·exact .inr ⟨List.mem_cons_of_mem _ h1,h2⟩
theorem lU {cells:List (Str×Addr)}:∀{names:List (Str×NameKind)} {acc:List (Str×Addr)} {p:Str×Addr},p∈acc→p∈aS cells names acc
 | [],_,_,h=>h
 | (m,k)::r,acc,p,h=>by
  unfold aS
  split
  ·exact lU (List.mem_cons_of_mem _ h)
  ·exact lU h
theorem oH {cells:List (Str×Addr)}:∀{names:List (Str×NameKind)} {acc:List (Str×Addr)} {n:Str},(n,.free)∈names→(n,(cells.lookup n).getD 0)∈aS cells names acc
 | (m,k)::r,acc,n,h=>by
  unfold aS
  rcases List.mem_cons.mp h with e | h
  ·cases e
   exact lU List.mem_cons_self
  ·split
   ·exact oH h
   ·exact oH h
theorem gI:∀{names:List (Str×NameKind)} {h:Heap} {acc:List (Str×Addr)} {x:Str} {c:Addr},(x,c)∈cellsFrom h.objs.size names acc →
  (x,c)∈acc∨((x,.cell)∈names∧h.objs.size≤c∧vM (pushCells h names) c none)
 | [],_,_,_,_,h=>.inl h
 | (n,k)::r,h,acc,x,c,hm=>by
  unfold cellsFrom at hm
  unfold pushCells
  split at hm
  ·rename_i hk
   rw[if_pos hk]
   have hk:k=.cell:=by simpa using hk
   rw[←Heap.size_push h { cls:=.type "cell",data:=.cell none }] at hm
   rcases gI hm with hm | ⟨h1,h2,h3⟩
   ·rcases List.mem_cons.mp hm with e | hm
    ·cases e
     exact .inr ⟨hk▸List.mem_cons_self,Nat.le_refl _,_,pushCells_keeps r _ _ _ (Heap.get?_push_size _ rfl),rfl⟩
    ·exact .inl hm
   ·rw[Heap.size_push] at h2
    exact .inr ⟨List.mem_cons_of_mem _ h1,Nat.le_of_succ_le h2,h3⟩
  ·rename_i hk
   rw[if_neg hk]
   rcases gI hm with hm | ⟨h1,h2,h3⟩
   ·exact .inl hm
   ·exact .inr ⟨List.mem_cons_of_mem _ h1,h2,h3⟩
theorem jH:∀{names:List (Str×NameKind)} {n:Nat} {acc:List (Str×Addr)} {p:Str×Addr},p∈acc→p∈cellsFrom n names acc
 | [],_,_,_,h=>h
 | (m,k)::r,n,acc,p,h=>by
  unfold cellsFrom
  split
  ·exact jH (List.mem_cons_of_mem _ h)
  ·exact jH h
theorem kQ:∀{names:List (Str×NameKind)} {n:Nat} {acc:List (Str×Addr)} {x:Str},(x,.cell)∈names→∃c,(x,c)∈cellsFrom n names acc
 | (m,k)::r,n,acc,x,h=>by
  unfold cellsFrom
  rcases List.mem_cons.mp h with e | h
  ·cases e
   exact ⟨n,jH List.mem_cons_self⟩
  ·split
   ·exact kQ h
   ·exact kQ h
theorem kK:∀{names:List (Str×NameKind)} {h:Heap} {acc:List (Str×Addr)} {x y:Str} {c:Addr},(∀p∈acc,p.2<h.objs.size)→(∀x y c,(x,c)∈acc→(y,c)∈acc→x=y) →
  (x,c)∈cellsFrom h.objs.size names acc→(y,c)∈cellsFrom h.objs.size names acc→x=y
 | [],_,_,_,_,_,_,hi,h1,h2=>hi _ _ _ h1 h2
 | (n,k)::r,h,acc,x,y,c,hl,hi,h1,h2=>by
  unfold cellsFrom at h1 h2
  split at h1
  ·rename_i hk
   rw[if_pos hk] at h2
   rw[←Heap.size_push h { cls:=.type "cell",data:=.cell none }] at h1 h2
   refine kK (h:=h.push _) (fun p hp=>?_) (fun x y c a b=>?_) h1 h2
   ·rw[Heap.size_push]
    rcases List.mem_cons.mp hp with rfl | hp
    ·exact Nat.lt_succ_self _
    ·exact Nat.lt_succ_of_lt (hl p hp)
   ·rcases List.mem_cons.mp a with e | a<;>rcases List.mem_cons.mp b with e' | b
    ·cases e;cases e';rfl
    ·cases e;exact absurd (hl _ b) (Nat.lt_irrefl _)
    ·cases e';exact absurd (hl _ a) (Nat.lt_irrefl _)
    ·exact hi _ _ _ a b
  ·rename_i hk
   rw[if_neg hk] at h2
   exact kK hl hi h1 h2
theorem aE6 {M:Model} {A:Around} {E:Value→Shared→Prop} {s:Shared} {scope:Scope} {globals:Addr} {closure:List (Str×Addr)} {qual:Str} {func:Option Addr} {code:Value} {around:Env} {builtins:Addr} {Q:Env→Shared→Prop}
  (h:Q (newEnv scope s.heap.objs.size globals (cellsFrom (s.heap.objs.size+1) scope.names closure) qual func code (some around) builtins)
   { s with heap:=pushCells (s.heap.push { cls:=.type "dict",data:=.dict #[] }) scope.names }) :
  wpAny M A (newFunctionEnv scope globals closure [] qual func code (some around) builtins) Q E s:=by
 simp only[newFunctionEnv,Option.isSome_some,if_true]
 refine wpAny_bind (wpAny_alloc ?_)
 refine wpAny_bind (wpAny_layCells _ (fun n k c=>rfl) scope.names closure _ _ ?_)
 rw[show ({ s with heap:=s.heap.push { cls:=.type "dict",data:=.dict #[] } }:Shared).heap.objs.size=s.heap.objs.size+1 from Heap.size_push ..]
 rw[List.forIn_nil]
 exact wpAny_bind (wpAny_pure (wpAny_pure h))
theorem oP {sc:Scope}:∀{names:List (Str×NameKind)} {x:Str} {k:NameKind},
  (names.map fun (n,k)=>if (k==NameKind.free&&sc.kind==.function&&sc.names.lookup n==some .cell) then (n,NameKind.cell) else (n,k)).lookup x=some k →
  ∃k',names.lookup x=some k'∧(k=k'∨(k'=.free∧k=.cell))
 | [],_,_,h=>by simp at h
 | (n,k₀)::r,x,k,h=>by
  have ih:=@oP sc r x k
  have h':List.lookup x ((if (k₀==NameKind.free&&sc.kind==.function&&sc.names.lookup n==some .cell)=true then (n,NameKind.cell) else (n,k₀))::(r.map _))=some k:=h
  cases hx:x==n with
  | true=>
   simp only[List.lookup_cons,hx]
   by_cases hc:(k₀==NameKind.free&&sc.kind==.function&&sc.names.lookup n==some .cell)=true
   ·rw[if_pos hc] at h'
    simp only[List.lookup_cons,hx] at h'
    cases h'
    simp only[Bool.and_eq_true,beq_iff_eq] at hc
    exact ⟨k₀,rfl,.inr ⟨hc.1.1,rfl⟩⟩
   ·rw[if_neg hc] at h'
    simp only[List.lookup_cons,hx] at h'
    cases h'
    exact ⟨_,rfl,.inl rfl⟩
  | false=>
   simp only[List.lookup_cons,hx]
   by_cases hc:(k₀==NameKind.free&&sc.kind==.function&&sc.names.lookup n==some .cell)=true
   ·rw[if_pos hc] at h'
    simp only[List.lookup_cons,hx] at h'
    exact ih h'
   ·rw[if_neg hc] at h'
    simp only[List.lookup_cons,hx] at h'
    exact ih h'
structure gU (N:List Str) (sc scope:Scope) (own:List (Str×Nat)):Prop where
 kind:scope.kind=.function
 uniq:∀y∈scope.names,scope.names.lookup y.1=some y.2
 ix:∀p∈own,N[p.2]?=some p.1
 free:∀y∈scope.names,y.2=.free→sc.names.lookup y.1=some .cell∨sc.names.lookup y.1=some .free
 own:∀y∈scope.names,y.2=.local∨y.2=.cell→y.1∈own.map (·.1)∨y.1∉N
def wipe (σ:St):List Nat→St
 | []=>σ
 | v::vs=>(wipe σ vs).set v none
theorem mL (σ:St):∀vs:List Nat,(wipe σ vs).length=σ.length
 | []=>rfl
 | v::vs=>by unfold wipe;rw[List.length_set,mL σ vs]
theorem oB {σ:St} {i:Nat} {x:V}:∀{vs:List Nat},(wipe σ vs)[i]?=some (some x)→σ[i]?=some (some x)∧i∉vs
 | [],h=>⟨h,by simp⟩
 | v::vs,h=>by
  unfold wipe at h
  by_cases hi:v=i
  ·subst hi
   by_cases hv:v<(wipe σ vs).length
   ·rw[List.getElem?_set_self hv] at h;cases h
   ·rw[List.getElem?_eq_none (by simpa using hv)] at h;cases h
  ·rw[List.getElem?_set_ne hi] at h
   obtain ⟨h1,h2⟩:=oB h
   exact ⟨h1,by simp only[List.mem_cons,not_or];exact ⟨fun e=>hi e.symm,h2⟩⟩
abbrev Cx.blk (X:Cx) (s:Shared) (H:Hp) (scope:Scope) (cenv:Env) (fp:List Addr):Cx:={ X with s_0:=s,H_0:=H,env:=cenv,outer:=X.stack,ex:=fp,fn:=fun x=>scope.names.lookup x==some .cell,pn:=[],xe:=fun _ _=>False }
section
variable {X:Cx} {pins:List (Addr×Obj)} {σ:St} {H:Hp} {s:Shared}
theorem aFz {scope:Scope} {own:List (Str×Nat)} {fp:List Addr} (I:Inv X pins σ H s) (ok:gU X.N X.env.scope scope own) (hN:X.N.Nodup) (hfp:∀b∈fp,cU X pins H b∧b<s.heap.objs.size) :
  Inv (X.blk s H scope (compEnvC scope (cellsFrom (s.heap.objs.size+1) scope.names (aS X.env.cells scope.names [])) s.heap.objs.size X.env) fp) [] (wipe σ (own.map (·.2))) H { s with heap:=pushCells (s.heap.push { cls:=.type "dict",data:=.dict #[] }) scope.names }:=by
 have hfree:∀y∈scope.names,y.2=.free→∃c,X.env.cells.lookup y.1=some c:=fun y hy e=>by
  rcases ok.free y hy e with k | k
  ·exact I.ok.has _ (.inl k)
  ·exact I.ok.has _ (.inr k)
 generalize hcenv:compEnvC scope (cellsFrom (s.heap.objs.size+1) scope.names (aS X.env.cells scope.names [])) s.heap.objs.size X.env=cenv
 have kp:∀b o,s.heap.get? b=some o→(pushCells (s.heap.push { cls:=.type "dict",data:=.dict #[] }) scope.names).get? b=some o:=fun b o e=>pushCells_keeps _ _ _ _ (Heap.get?_push_of_some _ e)
 have hL:cenv.locals=s.heap.objs.size:=by rw[←hcenv];rfl
 have hcl:cenv.cells=cellsFrom (s.heap.objs.size+1) scope.names (aS X.env.cells scope.names []):=by rw[←hcenv];rfl
 have hsc:cenv.scope=aCu scope X.env.scope:=by rw[←hcenv];rfl
 rw[←Heap.size_push s.heap { cls:=.type "dict",data:=.dict #[] }] at hcl
 have cm:∀{y c},(y,c)∈aS X.env.cells scope.names []→X.env.cells.lookup y=some c∧c<s.heap.objs.size:=fun {y c} hm=>by
  rcases iL hm with hm | ⟨h1,rfl⟩
  ·cases hm
  ·obtain ⟨c,hc⟩:=hfree _ h1 rfl
   rw[hc]
   obtain ⟨w,z⟩:=I.cell _ _ hc
   exact ⟨rfl,z.lt⟩
 have mem:∀{y c},cenv.cells.lookup y=some c→(X.env.cells.lookup y=some c∧c<s.heap.objs.size)∨(s.heap.objs.size+1≤c∧vM (pushCells (s.heap.push { cls:=.type "dict",data:=.dict #[] }) scope.names) c none):=fun {y c} e=>by
  rw[hcl] at e
  rcases gI (PySem.mem_of_lookup e) with hm | ⟨_,h2,h3⟩
  ·exact .inl (cm hm)
  ·rw[Heap.size_push] at h2;exact .inr ⟨h2,h3⟩
 have look:∀{y},scope.names.lookup y=some .free→∃c,cenv.cells.lookup y=some c∧X.env.cells.lookup y=some c:=fun {y} hl=>by
  have hy:(y,NameKind.free)∈scope.names:=PySem.mem_of_lookup hl
  obtain ⟨c',e'⟩:=mem_lookup (jH (names:=scope.names) (n:=(s.heap.push { cls:=.type "dict",data:=.dict #[] }).objs.size) (oH (cells:=X.env.cells) (acc:=[]) hy))
  rw[←hcl] at e'
  refine ⟨c',e',?_⟩
  rw[hcl] at e'
  rcases gI (PySem.mem_of_lookup e') with hm | ⟨h1,_,_⟩
  ·exact (cm hm).1
  ·have:=ok.uniq _ h1
   rw[hl] at this;cases this
 have okB:(X.blk s H scope cenv fp).Ok:=by
  refine ⟨I.ok.mod,by show cenv.scope.kind=_;rw[hsc];exact ok.kind,by show cenv.globals=_;rw[←hcenv];exact I.ok.glob,by show cenv.builtins=_;rw[←hcenv];exact I.ok.blt,by show s.heap.objs.size≤cenv.locals;rw[hL];exact Nat.le_refl _,
   fun y z c e1 e2=>?_,fun y hy=>?_,fun y c z e=>?_,I.ok.hd,I.ok.frames,.inl rfl,fun b hb=>⟨?_,fun y c e z=>?_⟩,I.bs,Nat.le_trans I.ok.bsz I.sz,fun b o e hb=>?_,fun b hb z=>?_,I.stack,I.pD⟩
  ·have e1:cenv.cells.lookup y=some c:=e1
   have e2:cenv.cells.lookup z=some c:=e2
   rw[hcl] at e1 e2
   refine kK (fun p hp=>?_) (fun y z c a b=>I.ok.inj y z c (cm a).1 (cm b).1) (PySem.mem_of_lookup e1) (PySem.mem_of_lookup e2)
   rw[Heap.size_push]
   exact Nat.lt_succ_of_lt (cm (y:=p.1) (c:=p.2) hp).2
  ·show ∃c,cenv.cells.lookup y=some c
   have key:∀k,cenv.kindOf y=some k→(k=.cell∨k=.free)→∃c,cenv.cells.lookup y=some c:=fun k hk hk'=>by
    unfold Env.kindOf at hk
    rw[hsc] at hk
    obtain ⟨k',e,r⟩:=oP hk
    have:k'=.cell∨k'=.free:=by
     rcases r with rfl | ⟨rfl,_⟩
     ·exact hk'
     ·exact .inr rfl
    rcases this with rfl | rfl
    ·obtain ⟨c,hm⟩:=kQ (n:=(s.heap.push { cls:=.type "dict",data:=.dict #[] }).objs.size) (acc:=aS X.env.cells scope.names []) (PySem.mem_of_lookup e)
     obtain ⟨c',e'⟩:=mem_lookup hm
     exact ⟨c',by rw[hcl];exact e'⟩
    ·obtain ⟨c,h1,_⟩:=look e
     exact ⟨c,h1⟩
   rcases hy with hy | hy
   ·exact key _ hy (.inl rfl)
   ·exact key _ hy (.inr rfl)
  ·have z:(scope.names.lookup y==some NameKind.cell)=true:=z
   have z:scope.names.lookup y=some .cell:=by simpa using z
   have e:cenv.cells.lookup y=some c:=e
   rw[hcl] at e
   rcases gI (PySem.mem_of_lookup e) with hm | ⟨_,h2,_⟩
   ·rcases iL hm with hm | ⟨h1,_⟩
    ·cases hm
    ·have q:=ok.uniq _ h1
     rw[z] at q;cases q
   ·rw[Heap.size_push] at h2
    exact Nat.le_of_succ_le h2
  ·show b≠cenv.locals
   rw[hL];exact Nat.ne_of_lt (hfp b hb).2
  ·have e:cenv.cells.lookup y=some c:=e
   rcases mem e with ⟨h1,_⟩ | ⟨h1,_⟩
   ·exact (hfp b hb).1.2.2.2.2.1 y c h1 z
   ·have h2:s.heap.objs.size+1≤b:=by rw[←z];exact h1
    exact absurd (Nat.lt_of_lt_of_le (hfp b hb).2 (Nat.le_of_succ_le h2)) (Nat.lt_irrefl _)
  ·rcases (hfp b hb).1.2.2.2.1 with z | z
   ·exact I.ok.noex b o e z
   ·exact absurd (Nat.lt_of_lt_of_le (Heap.lt_size e) (Nat.le_trans I.ok.bsz z)) (Nat.lt_irrefl _)
  ·rcases List.mem_cons.mp (I.kT b z) with z | z
   ·exact (hfp b hb).1.2.1 z
   ·exact (hfp b hb).1.2.2.1 z
 refine ⟨okB,rfl,I.bare,Un.kept kp,⟨fun _=>none,?_,fun i y av e1 e2 e3=>?_⟩,fun y c e=>?_,?_,fun y c e=>?_,fun p hp=>?_,I.hok.kept kp,by rw[mL];exact I.len⟩
 ·show Heap.Ns _ cenv.locals _
  rw[hL]
  exact Heap.Ns.keeps (Heap.Ns.new ..) fun b o e=>pushCells_keeps _ _ _ _ e
 ·obtain ⟨e2,hne⟩:=oB e2
  have hfr:scope.names.lookup y=some .free∧(cenv.kindOf y=some .cell∨cenv.kindOf y=some .free):=by
   have key:∀k,cenv.scope.names.lookup y=some k→k=.local∨k=.cell∨k=.free→scope.names.lookup y=some .free∧(cenv.kindOf y=some .cell∨cenv.kindOf y=some .free):=fun k hk hk'=>by
    have hk0:=hk
    rw[hsc] at hk
    obtain ⟨k',e,r⟩:=oP hk
    have no:¬(k'=.local∨k'=.cell):=fun hh=>by
     rcases ok.own _ (PySem.mem_of_lookup e) hh with e' | e'
     ·obtain ⟨p,hp,hpy⟩:=List.mem_map.mp e'
      have e3:=ok.ix p hp
      have:p.1=y:=hpy
      rw[this] at e3
      exact hne (List.mem_map.mpr ⟨p,hp,kC hN e3 e1⟩)
     ·exact e' (List.mem_of_getElem? e1)
    rcases r with rfl | ⟨rfl,rfl⟩
    ·rcases hk' with rfl | rfl | rfl
     ·exact absurd (.inl rfl) no
     ·exact absurd (.inr rfl) no
     ·exact ⟨e,.inr hk0⟩
    ·exact ⟨e,.inl hk0⟩
   have e3:Vis cenv.scope y:=e3
   rcases e3 with e3 | e3 | e3
   ·exact key _ e3 (.inl rfl)
   ·exact key _ e3 (.inr (.inl rfl))
   ·exact key _ e3 (.inr (.inr rfl))
  obtain ⟨m,hn,hl⟩:=I.loc
  have hvis:Vis X.env.scope y:=(ok.free _ (PySem.mem_of_lookup hfr.1) rfl).elim (fun k=>.inr (.inl k)) (fun k=>.inr (.inr k))
  obtain ⟨w,r,q⟩:=hl i y av e1 e2 hvis
  refine ⟨w,r,.inr ⟨hfr.2,?_⟩⟩
  obtain ⟨c,h1,h2⟩:=look hfr.1
  rcases q with ⟨k,_⟩ | ⟨_,c',e',z⟩
  ·have k:X.env.scope.names.lookup y=some .local:=k
   rcases ok.free _ (PySem.mem_of_lookup hfr.1) rfl with k' | k'<;>rw[show X.env.scope.names.lookup y=_ from k'] at k<;>cases k
  ·rw[h2] at e';cases e'
   exact ⟨c,h1,z.keeps kp⟩
 ·have e:cenv.cells.lookup y=some c:=e
  rcases mem e with ⟨h1,_⟩ | ⟨_,z⟩
  ·obtain ⟨w,z⟩:=I.cell y c h1
   exact ⟨w,z.keeps kp⟩
  ·exact ⟨_,z⟩
 ·show H cenv.locals=none
  rw[hL];exact I.hok.fresh (Nat.le_refl _)
 ·have e:cenv.cells.lookup y=some c:=e
  rcases mem e with ⟨h1,_⟩ | ⟨h1,_⟩
  ·exact I.freeC y c h1
  ·exact I.hok.fresh (Nat.le_of_succ_le h1)
 ·exact absurd (show p∈([]:List (Addr×Obj))++[] from hp) (by simp)
theorem aFi {E:Value→Shared→Prop} {D:Addr} {xs:List V} {y:V} {v:Value} {Q:Value→Shared→Prop} (I:Inv X pins σ H s) (hD:H D=some (.lst xs)) (hz:xs.length<sizeLine) (r:RelV y v)
  (h:∀s',Inv X pins σ (upd H D (.lst (xs++[y]))) s'→Q .none s'):wpAny (model X.prog X.w) X.A (call (.builtin "list.append") [.ref D,v]) Q E s:=by
 obtain ⟨hz',its,n,ri,e⟩:=I.hok D _ hD
 have hl:=ri.length
 refine append_at (hsz:=by rw[List.size_toArray];omega) e fun h' sb ho'=>?_
 refine h { s with heap:=h' } (I.write (t':=s.toks) (by rw[hD];trivial) (.inl rfl) (fun b u hb q=>(sb.2 b hb).trans q) ⟨_,ho'⟩ ⟨by rw[List.length_append];exact hz,its++[v],n+1,ri.append (.cons r .nil),?_⟩)
 rw[ho']
 simp
def PTs (X:Cx) (ifs:List Expr) (t:TT):Prop:=
 ∀(pins:List (Addr×Obj)) (s:Shared) (σ:St) (H:Hp) (Q:Bool→Hp→Prop),Inv X pins σ H s→t σ H Q →
  wpAny (model X.prog X.w) X.A (forIn ifs true fun c r=>if r=true then do let ok ←isTrue c X.env (eval c X.env);pure (ForInStep.yield ok) else pure (ForInStep.yield r)) (TP X pins σ Q) X.xe s
def vK:TT:=fun _ H Q=>Q true H
theorem aEv:PTs X [] vK:=fun _ _ _ H _ I h=>wpAny_tests_nil ⟨H,I,h⟩
end
theorem fP {α:Type} {t:Sem α} {Q Q':α→Shared→Prop} {M:Model} {A:Around} {E:Value→Shared→Prop} {s:Shared} (h:wpAny M A t Q (fun _ _=>False) s) (hQ:∀a s,Q a s→Q' a s):wpAny M A t Q' E s:=wpAny_mono h hQ fun _ _ z=>False.elim z
theorem aCp {prog:Program} {w:World} {A:Around} {R:Result→Shared→Prop} {s:Shared} {elt target iter:Expr} {ifs:List Expr} {scope:Scope} {pos:Pos} {it acc:Value} {env:Env} (I:Nat→Shared→Prop)
  (turn:∀n s,I n s→wpAny (model prog w) A (pyNext it) (fun r s₁=>match r with
   | none=>R (.ok .next) s₁
   | some v=>wpAny (model prog w) A (letOwnedTupleGo target it v) (fun _ s₁'=>wpAny (model prog w) A (assign target env v) (fun _ s₂=>
     wpAny (model prog w) A (forIn ifs true fun c r=>if r=true then do let ok ←isTrue c env (eval c env);pure (ForInStep.yield ok) else pure (ForInStep.yield r)) (fun ok s₃=>
      if ok=true then wpAny (model prog w) A (eval elt env) (fun x s₄=>
       wpAny (model prog w) A (call (.builtin "list.append") [acc,x]) (fun _ s₅=>∃m,m<n∧I m s₅) (notedBy (model prog w) A env fun e s'=>R (.error e) s') s₄) (notedBy (model prog w) A env fun e s'=>R (.error e) s') s₃
      else ∃m,m<n∧I m s₃) (notedBy (model prog w) A env fun e s'=>R (.error e) s') s₂) (notedBy (model prog w) A env fun e s'=>R (.error e) s') s₁') (notedBy (model prog w) A env fun e s'=>R (.error e) s') s₁) (notedBy (model prog w) A env fun e s'=>R (.error e) s') s)
  (n:Nat) (h:I n s) :
  codeAny (model prog w) A (.compLoop (.ListComp elt [⟨target,iter,ifs,0⟩] scope pos) 0 it acc env) R s:=by
 refine codeAny_loop rfl I (fun n s hI=>?_) n h
 show wpAny _ A ((compTurn (.ListComp elt [⟨target,iter,ifs,0⟩] scope pos) 0 it acc env).onRaise (fun x=>do noteFrame x env;theTreesLotGoes x)) _ _ s
 refine wpAny_noted ?_
 rw[compTurn_list]
 refine wpAny_bind (wpAny_standAt (wpAny_bind (wpAny_mono (turn n s hI) (fun r s₁ h₁=>?_) fun _ _ h'=>h')))
 cases r with
 | none=>exact wpAny_pure h₁
 | some v=>
  refine wpAny_bind (wpAny_mono h₁ (fun _ s₁' h₁'=>?_) fun _ _ h'=>h')
  refine wpAny_bind (wpAny_mono h₁' (fun _ s₂ h₂=>wpAny_bind (wpAny_mono h₂ (fun ok s₃ h₃=>?_) fun _ _ h'=>h')) fun _ _ h'=>h')
  cases ok with
  | false=>exact wpAny_pure ⟨rfl,h₃⟩
  | true=>
   exact wpAny_bind (wpAny_bind (wpAny_mono h₃ (fun x s₄ h₄=>wpAny_bind (wpAny_mono h₄ (fun _ s₅ h₅=>wpAny_pure (wpAny_pure ⟨rfl,h₅⟩)) fun _ _ h'=>h')) fun _ _ h'=>h'))
section
variable {X:Cx}
def tLc (wi:TI) (g:TG) (tt:TT) (te:TE) (vs:List Nat):TE:=fun σ H Q=>wi σ H fun J H1=>∀D,H1 D=none→∃W:Nat→Nat→Hp→Prop,(∃m,W 0 m (upd H1 D (.lst [])))∧∀i m H,W i m H →
 (J.stop i H∧Q (.ref D) H)∨(J.go i H∧∃Nx:Hp→Prop,(∀H',Nx H'→∃m',m'<m∧W (i+1) m' H')∧∀x H',J.yld i H x H'→g x (wipe σ vs) H' fun σ2 H2=>wipe σ2 vs=wipe σ vs∧tt σ2 H2 fun b H3=>
  if b=true then te σ2 H3 fun y H4=>∃acc,H4 D=some (.lst acc)∧acc.length<sizeLine∧Nx (upd H4 D (.lst (acc++[y]))) else Nx H3)
theorem zD {pins:List (Addr×Obj)} {s:Shared} {σ:St} {H:Hp} {Q:VK} {elt tg iter:Expr} {ifs:List Expr} {scope:Scope} {own:List (Str×Nat)} {pos pos':Pos} {wi:TI} {g:TG} {tt:TT} {te:TE} {use:Option (Value→Sem Unit)} {Qf:Value→Shared→Prop}
  (hc:X.calm=true) (hN:X.N.Nodup) (I:Inv X pins σ H s) (hi:PI X tg iter wi) (ok:gU X.N X.env.scope scope own)
  (hg:∀(s:Shared) (H:Hp) (C:Addr) (cl:List (Str×Addr)) (fp:List Addr),PG (X.blk s H scope (compEnvC scope cl C X.env) fp) tg g) (ht:∀(s:Shared) (H:Hp) (C:Addr) (cl:List (Str×Addr)) (fp:List Addr),PTs (X.blk s H scope (compEnvC scope cl C X.env) fp) ifs tt)
  (he:∀(s:Shared) (H:Hp) (C:Addr) (cl:List (Str×Addr)) (fp:List Addr),PE (X.blk s H scope (compEnvC scope cl C X.env) fp) elt te) (hs:∀x,foldedSetIterable iter X.env x=pure x)
  (h:tLc wi g tt te (own.map (·.2)) σ H Q)
  (hRR:∀D C s' m H',Inv X pins σ H' s'→Q (.ref D) H'→s'.heap.Ns C m→cU X pins H' C→compPost (model X.prog X.w) X.A X.xe use Qf (.ref D) C (.ok .next) s') :
  wpAny (model X.prog X.w) X.A (comprehension (.ListComp elt [⟨tg,iter,ifs,0⟩] scope pos) scope X.env pos' (newList []) false (eval iter X.env) use) Qf X.xe s:=by
 have hfree:∀y∈scope.names,y.2=.free→∃c,X.env.cells.lookup y.1=some c:=fun y hy e=>by
  rcases ok.free y hy e with k | k
  ·exact I.ok.has _ (.inl k)
  ·exact I.ok.has _ (.inr k)
 refine wpAny_comprehension_free (use:=use) rfl hs (aA7 hfree) ok.kind (fun y hy e=>by rw[ok.uniq y hy,e])
  (thn (hi pins s σ H _ I h) fun xv s1 hx=>thn hx fun itv s2 h2=>?_)
 obtain ⟨it,fp,tn,J,H2,e,I2,T,st2,f2,q⟩:=h2
 subst e
 refine wpAny_newObj_type (aE6 ?_) (by show 0≤sizeLine;decide)
 generalize hD:s2.heap.objs.size=D
 have hDn:H2 D=none:=I2.hok.fresh (Nat.le_of_eq hD)
 obtain ⟨W,⟨m0,w0⟩,turn⟩:=q D hDn
 -- the new list
 generalize hs3:({ s2 with heap:=s2.heap.push { cls:=.type "list",data:=.seq ([]:List Value).toArray } }:Shared)=s3
 have I3:Inv X pins σ (upd H2 D (.lst [])) s3:=by
  rw[←hs3]
  refine I2.laid (t':=s2.toks) (fun b o e=>Heap.get?_push_of_some _ e) (Nat.le_of_eq hD) ⟨Nat.zero_le _,[],0,.nil,?_⟩
  rw[←hD]
  exact Heap.get?_push_size _ rfl
 have h3:s3.heap=s2.heap.push { cls:=.type "list",data:=.seq ([]:List Value).toArray }:=by rw[←hs3]
 have sz:∀b∈fp,b<s2.heap.objs.size:=fun b hb=>by
  obtain ⟨o,e,_⟩:=T.obj _ _ st2 b hb
  exact Heap.lt_size e
 have f3:∀b∈fp,cU X pins (upd H2 D (.lst [])) b∧b<s3.heap.objs.size:=fun b hb=>by
  have hlt:=sz b hb
  refine ⟨⟨?_,(f2 b hb).2⟩,by rw[h3,Heap.size_push];exact Nat.lt_succ_of_lt hlt⟩
  rw[aE (by rw[←hD];exact Nat.ne_of_lt hlt)]
  exact (f2 b hb).1
 have st3:tn 0 s3.heap:=T.keep _ _ _ st2 fun b _ o e=>by rw[h3];exact Heap.get?_push_of_some _ e
 have I4:=aFz I3 ok hN f3
 have pg:=hg s3 (upd H2 D (.lst [])) s3.heap.objs.size (cellsFrom (s3.heap.objs.size+1) scope.names (aS X.env.cells scope.names [])) fp
 have pt:=ht s3 (upd H2 D (.lst [])) s3.heap.objs.size (cellsFrom (s3.heap.objs.size+1) scope.names (aS X.env.cells scope.names [])) fp
 have pe:=he s3 (upd H2 D (.lst [])) s3.heap.objs.size (cellsFrom (s3.heap.objs.size+1) scope.names (aS X.env.cells scope.names [])) fp
 show codeAny _ _ (.compStart (.ListComp elt [⟨tg,iter,ifs,0⟩] scope pos) 0 (.ref it) (.ref D) (compEnvC scope (cellsFrom (s3.heap.objs.size+1) scope.names (aS X.env.cells scope.names [])) s3.heap.objs.size X.env)) (compPost (model X.prog X.w) X.A X.xe use Qf (.ref D) s3.heap.objs.size) { s3 with heap:=pushCells (s3.heap.push { cls:=.type "dict",data:=.dict #[] }) scope.names }
 have nfp:∀b∈fp,(upd H2 D (.lst [])) b=none:=fun b hb=>(f3 b hb).1.1
 generalize hce:compEnvC scope (cellsFrom (s3.heap.objs.size+1) scope.names (aS X.env.cells scope.names [])) s3.heap.objs.size X.env=ce at I4 pg pt pe ⊢
 have cL:ce.locals=s3.heap.objs.size:=by subst hce;rfl
 generalize hH3:upd H2 D (.lst [])=H3 at I3 I4 pg pt pe w0 nfp f3
 generalize hs4:({ s3 with heap:=pushCells (s3.heap.push { cls:=.type "dict",data:=.dict #[] }) scope.names }:Shared)=s4 at I4 ⊢
 have st4:tn 0 s4.heap:=T.keep _ _ _ st3 fun b _ o e=>by rw[←hs4];exact pushCells_keeps _ _ _ _ (Heap.get?_push_of_some _ e)
 have stat:∀{σ':St} {H':Hp} {s':Shared},Inv (X.blk s3 H3 scope ce fp) [] σ' H' s'→(∀b∈fp,H' b=none)→∀b∈fp,cU (X.blk s3 H3 scope ce fp) [] H' b:=fun {σ' H' s'} I' hn b hb=>
  ⟨hn b hb,(I'.ok.exf b hb).1,I'.ok.exfs b hb,.inl hb,fun x c e=>(I'.ok.exf b hb).2 x c e,fun p hp=>absurd (show p∈([]:List (Addr×Obj))++[] from hp) (by simp)⟩
 have loop:codeAny (model X.prog X.w) X.A (.compLoop (.ListComp elt [⟨tg,iter,ifs,0⟩] scope pos) 0 (.ref it) (.ref D) ce) (compPost (model X.prog X.w) X.A X.xe use Qf (.ref D) s3.heap.objs.size) s4:=by
  refine aCp (fun n s'=>∃i H',Inv (X.blk s3 H3 scope ce fp) [] (wipe σ (own.map (·.2))) H' s'∧tn i s'.heap∧(∀b∈fp,H' b=none)∧W i n H') ?_ m0 ⟨0,H3,I4,st4,nfp,w0⟩
  rintro n s5 ⟨i,H5,I5,st5,n5,w5⟩
  rcases turn i n H5 w5 with ⟨stop,qq⟩ | ⟨go,Nx,hNx,step⟩
  ·have td:=T.done (X.blk s3 H3 scope ce fp) rfl rfl rfl hc i [] s5 _ H5 (fun _ _=>False) I5 (stat I5 n5) st5 stop
   refine fP td fun r s6 ⟨hr,I6⟩=>?_
   subst hr
   -- back in the def's context
   have I7:Inv X pins σ H5 s6:=I3.aC0 (ch:=fp) I6.os I6.base I6.hok I6.bare fun b hb=>⟨(f3 b hb).1.2.2.2.1,(f3 b hb).1.2.1,(f3 b hb).1.2.2.2.2.1,(f3 b hb).1.2.2.2.2.2⟩
   have nC:H5 s3.heap.objs.size=none:=by
    have z:H5 ce.locals=none:=I6.free
    rw[cL] at z
    exact z
   obtain ⟨m,hn,_⟩:=I6.loc
   have hn:s6.heap.Ns ce.locals m:=hn
   rw[cL] at hn
   exact hRR D s3.heap.objs.size s6 m H5 I7 qq hn (I3.iA (Nat.le_refl _) nC)
  ·have ti:=T.item (X.blk s3 H3 scope ce fp) rfl rfl rfl hc i [] s5 _ H5 (fun _ _=>False) I5 (stat I5 n5) st5 go
   refine fP ti fun r s6 ⟨u,hr,h6⟩=>?_
   subst hr
   refine fP h6 fun _ s7 ⟨x,H7,I7,r7,y7,st7,n7⟩=>?_
   have I7':=I7.pinned (stat I7 n7) (T.obj _ _ st7)
   refine fP (pg _ s7 _ H7 x u _ I7' r7 (step x H7 y7)) fun _ s8 ⟨σ8,H8,I8,hw8,q8⟩=>?_
   refine fP (pt _ s8 σ8 H8 _ I8 q8) fun b s9 ⟨H9,I9,q9⟩=>?_
   -- the turn's end
   have fin:∀{s':Shared} {H':Hp},Inv (X.blk s3 H3 scope ce fp) ([]++gH fp s7.heap) σ8 H' s'→Nx H'→∃m,m<n∧∃i H',Inv (X.blk s3 H3 scope ce fp) [] (wipe σ (own.map (·.2))) H' s'∧tn i s'.heap∧(∀b∈fp,H' b=none)∧W i m H':=fun {s' H'} I' nx=>by
    obtain ⟨m',hm,w'⟩:=hNx H' nx
    have pin':∀b∈fp,∀o,s7.heap.get? b=some o→s'.heap.get? b=some o∧H' b=none:=fun b hb o e=>
     let z:=I'.pin (b,o) (List.mem_append_right _ (List.mem_append_right _ (jZ hb e)))
     ⟨z.1,z.2.1⟩
    have hl:(wipe σ (own.map (·.2))).length=σ8.length:=by rw[←hw8,mL]
    refine ⟨m',hm,i+1,H',(I'.jO (pins:=[])).weak hl (fun j v e=>?_),T.keep _ _ _ st7 fun b hb o e=>(pin' b hb o e).1,fun b hb=>?_,w'⟩
    ·rw[←hw8] at e
     exact (oB e).1
    ·obtain ⟨o,e,_⟩:=T.obj _ _ st7 b hb
     exact (pin' b hb o e).2
   cases b with
   | false=>
    simp only[Bool.false_eq_true,if_false] at q9 ⊢
    exact fin I9 q9
   | true=>
    simp only[if_true] at q9 ⊢
    refine fP (pe _ s9 σ8 H9 _ I9 q9) fun z s10 ⟨yv,H10,I10,r10,acc,hD10,hz10,nx⟩=>?_
    exact aFi (X:=X.blk s3 H3 scope ce fp) I10 hD10 hz10 r10 fun s11 I11=>fin I11 nx
 exact codeAny_compStart_list loop (T.self X.A 0 _ _ _ st4 loop)
theorem xY {elt tg iter:Expr} {ifs:List Expr} {scope:Scope} {own:List (Str×Nat)} {pos:Pos} {wi:TI} {g:TG} {tt:TT} {te:TE} (hc:X.calm=true) (hN:X.N.Nodup) (hi:PI X tg iter wi) (ok:gU X.N X.env.scope scope own)
  (hg:∀(s:Shared) (H:Hp) (C:Addr) (cl:List (Str×Addr)) (fp:List Addr),PG (X.blk s H scope (compEnvC scope cl C X.env) fp) tg g) (ht:∀(s:Shared) (H:Hp) (C:Addr) (cl:List (Str×Addr)) (fp:List Addr),PTs (X.blk s H scope (compEnvC scope cl C X.env) fp) ifs tt)
  (he:∀(s:Shared) (H:Hp) (C:Addr) (cl:List (Str×Addr)) (fp:List Addr),PE (X.blk s H scope (compEnvC scope cl C X.env) fp) elt te) (hs:∀x,foldedSetIterable iter X.env x=pure x:=by intro _;rfl) :
  PE X (.ListComp elt [⟨tg,iter,ifs,0⟩] scope pos) (tLc wi g tt te (own.map (·.2))):=by
 intro pins s σ H Q I h
 rw[eval_ListComp]
 refine zD hc hN I hi ok hg ht he hs h fun D C s' m H' I' q hn f=>⟨m,hn,fun h'' sb=>?_⟩
 obtain ⟨f0,f1,f2,f3,f4,f5⟩:=f
 exact ⟨.ref D,H',I'.turned (t':=s'.toks) (fun b o hb e=>(sb.2 b hb).trans e) f0 f1 f3 f4 f5,rfl,q⟩
end
theorem xT {K:PySem.W.Frag} {a:Addr} {xs:List V} {g:TG} {tt:TT} {te:TE} {vs:List Nat} {σ:St} {H1:Hp} {D:Addr} {Qd:Hp→Prop} (Pv:Nat→Hp→Prop) (h0:Pv 0 (upd H1 D (.lst []))) (hl:∀i H,i≤xs.length→Pv i H→SqL K H a xs)
  (hs:∀i x H,xs[i]?=some x→Pv i H→g x (wipe σ vs) H fun σ2 H2=>wipe σ2 vs=wipe σ vs∧tt σ2 H2 fun b H3=>
   if b=true then te σ2 H3 fun y H4=>∃acc,H4 D=some (.lst acc)∧acc.length<sizeLine∧Pv (i+1) (upd H4 D (.lst (acc++[y]))) else Pv (i+1) H3) (hd:∀H,Pv xs.length H→Qd H) :
  ∃W:Nat→Nat→Hp→Prop,(∃m,W 0 m (upd H1 D (.lst [])))∧∀i m H,W i m H →
   ((Itl K a).stop i H∧Qd H)∨((Itl K a).go i H∧∃Nx:Hp→Prop,(∀H',Nx H'→∃m',m'<m∧W (i+1) m' H')∧∀x H',(Itl K a).yld i H x H'→g x (wipe σ vs) H' fun σ2 H2=>wipe σ2 vs=wipe σ vs∧tt σ2 H2 fun b H3=>
    if b=true then te σ2 H3 fun y H4=>∃acc,H4 D=some (.lst acc)∧acc.length<sizeLine∧Nx (upd H4 D (.lst (acc++[y]))) else Nx H3):=by
 refine ⟨fun i m H=>m=xs.length-i∧i≤xs.length∧Pv i H,⟨xs.length,by simp,Nat.zero_le _,h0⟩,?_⟩
 rintro i m H ⟨rfl,hi,p⟩
 have q:=hl i H hi p
 by_cases hlt:i<xs.length
 ·refine .inr ⟨⟨xs,xs[i],q,by simp [hlt]⟩,Pv (i+1),fun H' p'=>⟨xs.length-(i+1),by omega,rfl,hlt,p'⟩,fun x H' y=>?_⟩
  obtain ⟨e,y⟩:=y
  subst e
  exact hs i x _ (y xs q) p
 ·have e:i=xs.length:=by omega
  subst e
  exact .inl ⟨⟨xs,q,Nat.le_refl _⟩,hd H p⟩
def tS (N:List Str) (sc scope:Scope) (own:List (Str×Nat)):Bool:=
 (match scope.kind with | .function=>true | _=>false)&&(scope.names.all fun y=>decide (scope.names.lookup y.1=some y.2))&&(own.all fun p=>decide (N[p.2]?=some p.1)) &&
  (scope.names.all fun y=>match y.2 with
   | .free=>(match sc.names.lookup y.1 with | some .cell=>true | some .free=>true | _=>false)
   | .local=>decide (y.1∈own.map (·.1))||decide (y.1∉N)
   | .cell=>decide (y.1∈own.map (·.1))||decide (y.1∉N)
   | _=>true)
theorem uR {N:List Str} {sc scope:Scope} {own:List (Str×Nat)} (h:tS N sc scope own=true):gU N sc scope own:=by
 unfold tS at h
 simp only[Bool.and_eq_true,List.all_eq_true,decide_eq_true_eq] at h
 obtain ⟨⟨⟨h1,h2⟩,h3⟩,h4⟩:=h
 refine ⟨?_,h2,h3,fun y hy e=>?_,fun y hy e=>?_⟩
 ·split at h1
  ·assumption
  ·cases h1
 ·have q:=h4 y hy
  simp only[e] at q
  split at q<;>first | exact .inl (by assumption) | exact .inr (by assumption) | cases q
 ·have q:=h4 y hy
  rcases e with e | e<;>(simp only[e,Bool.or_eq_true,decide_eq_true_eq] at q;exact q)
end L2
namespace L2
open PySem PySem.Spec PyProof.Rows
section
variable {prog:Program} {w:World} {A:Around} {R:Result→Shared→Prop} {s:Shared} {elt t0 i0 t1 i1:Expr} {ifs0 ifs1:List Expr} {scope:Scope} {pos:Pos} {it acc:Value} {env:Env}
end
section
variable {X:Cx}
end
end L2
namespace L2
open PySem PySem.Spec PyProof.Rows
section
variable {κ:Type} [DecidableEq κ]
def aM (kvs:List (κ×V)) (k:κ):Option V:=(kvs.find? fun kv=>decide (kv.1=k)).map (·.2)
def putK (kvs:List (κ×V)) (k:κ) (v:V):List (κ×V):=
 if (kvs.any fun kv=>decide (kv.1=k))=true then kvs.map (fun kv=>if kv.1=k then (kv.1,v) else kv) else kvs++[(k,v)]
theorem cF {p:κ×V} {r:List (κ×V)} {k:κ} (e:p.1=k):aM (p::r) k=some p.2:=by simp [aM,List.find?_cons,e]
theorem cI {p:κ×V} {r:List (κ×V)} {k:κ} (e:¬p.1=k):aM (p::r) k=aM r k:=by simp [aM,List.find?_cons,e]
theorem dJ (k:κ):∀kvs:List (κ×V),(kvs.any fun kv=>decide (kv.1=k))=(aM kvs k).isSome
 | []=>rfl
 | p::r=>by
  rw[List.any_cons]
  by_cases e:p.1=k
  ·simp only[cF e,decide_eq_true e,Bool.true_or,Option.isSome_some]
  ·rw[cI e,decide_eq_false e,Bool.false_or];exact dJ k r
theorem vO (k j:κ) (y:V):∀kvs:List (κ×V),aM (kvs.map fun kv=>if kv.1=k then (kv.1,y) else kv) j=(aM kvs j).map fun x=>if j=k then y else x
 | []=>rfl
 | p::r=>by
  have ih:=vO k j y r
  rw[List.map_cons]
  by_cases h:p.1=k
  ·rw[if_pos h]
   by_cases e:p.1=j
   ·rw[cF (p:=(p.1,y)) e,cF e,Option.map_some,if_pos (e.symm.trans h)]
   ·rw[cI (p:=(p.1,y)) e,cI e,ih]
  ·rw[if_neg h]
   by_cases e:p.1=j
   ·rw[cF (p:=p) e,cF e,Option.map_some,if_neg (fun z=>h (e.trans z))]
   ·rw[cI (p:=p) e,cI e,ih]
theorem tT (k j:κ) (y:V):∀kvs:List (κ×V),aM kvs k=none→aM (kvs++[(k,y)]) j=if j=k then some y else aM kvs j
 | [],_=>by
  by_cases e:k=j
  ·rw[if_pos e.symm];exact cF (p:=(k,y)) e
  ·rw[if_neg (fun z=>e z.symm)];exact cI (p:=(k,y)) e
 | p::r,hn=>by
  rw[List.cons_append]
  have hk:¬p.1=k:=fun z=>by rw[cF z] at hn;cases hn
  rw[cI hk] at hn
  have ih:=tT k j y r hn
  by_cases e:p.1=j
  ·rw[cF e,cF e,if_neg (fun z=>hk (e.trans z))]
  ·rw[cI e,cI e,ih]
theorem aCr (kvs:List (κ×V)) (k j:κ) (y:V):aM (putK kvs k y) j=if j=k then some y else aM kvs j:=by
 unfold putK
 by_cases a:(kvs.any fun kv=>decide (kv.1=k))=true
 ·rw[if_pos a,vO]
  rw[dJ] at a
  by_cases e:j=k
  ·obtain ⟨x,hx⟩:=Option.isSome_iff_exists.mp a
   rw[if_pos e,e,hx,Option.map_some,if_pos rfl]
  ·rw[if_neg e]
   cases aM kvs j with
   | none=>rfl
   | some x=>rw[Option.map_some,if_neg e]
 ·rw[if_neg a]
  refine tT k j y kvs ?_
  rw[dJ] at a
  cases q:aM kvs k with
  | none=>rfl
  | some x=>rw[q] at a;exact (a rfl).elim
theorem uQ (kvs:List (κ×V)) (k:κ) (v:V):(putK kvs k v).length≤kvs.length+1:=by
 unfold putK
 split
 ·rw[List.length_map];omega
 ·rw[List.length_append,List.length_cons,List.length_nil];omega
theorem vL {kvs:List (κ×V)} {k:κ} (v:V) (h:aM kvs k=none):putK kvs k v=kvs++[(k,v)]:=by
 unfold putK
 rw[dJ,h]
 exact if_neg (by decide)
theorem bJ.qK {o:Option V} {u:Option Value} (r:bJ o u):o.isSome=u.isSome:=by
 cases o with
 | none=>cases u with
  | none=>rfl
  | some _=>exact (show False from r).elim
 | some _=>cases u with
  | none=>exact (show False from r).elim
  | some _=>rfl
theorem bJ.getD {o:Option V} {u:Option Value} {d:V} {d':Value} (r:bJ o u) (rd:RelV d d'):RelV (o.getD d) (u.getD d'):=by
 cases o with
 | none=>cases u with
  | none=>exact rd
  | some _=>exact (show False from r).elim
 | some _=>cases u with
  | none=>exact (show False from r).elim
  | some _=>exact r
theorem KV.val {kvs:List (κ×V)} {vs:List (κ×Value)} (r:KV kvs vs) (k:κ):bJ (aM kvs k) (valueAt vs k):=by
 unfold KV at r
 induction r with
 | nil=>exact True.intro
 | @cons p q ps qs h t ih=>
  obtain ⟨h1,h2⟩:=h
  by_cases e:p.1=k
  ·have e':q.1=k:=h1.symm.trans e
   have b:valueAt (q::qs) k=some q.2:=by simp [valueAt,List.find?_cons,e']
   rw[cF e,b];exact h2
  ·have e':¬q.1=k:=fun z=>e (h1.trans z)
   have b:valueAt (q::qs) k=valueAt qs k:=by simp [valueAt,List.find?_cons,e']
   rw[cI e,b];exact ih
theorem KV.any {kvs:List (κ×V)} {vs:List (κ×Value)} (r:KV kvs vs) (k:κ):(kvs.any fun kv=>decide (kv.1=k))=vs.any fun kv=>decide (kv.1=k):=by
 unfold KV at r
 induction r with
 | nil=>rfl
 | cons h t ih=>rw[List.any_cons,List.any_cons,ih,h.1]
theorem KV.oK {kvs:List (κ×V)} {vs:List (κ×Value)} (r:KV kvs vs) (k:κ) {y:V} {u:Value} (ry:RelV y u) :
  KV (kvs.map fun kv=>if kv.1=k then (kv.1,y) else kv) (vs.map fun kv=>if kv.1=k then (kv.1,u) else kv):=by
 unfold KV at r ⊢
 induction r with
 | nil=>exact .nil
 | @cons p q ps qs h t ih=>
  rw[List.map_cons,List.map_cons]
  refine .cons ?_ ih
  obtain ⟨h1,h2⟩:=h
  by_cases e:p.1=k
  ·rw[if_pos e,if_pos (h1.symm.trans e)];exact ⟨h1,ry⟩
  ·rw[if_neg e,if_neg (fun z=>e (h1.trans z))];exact ⟨h1,h2⟩
theorem KV.put {kvs:List (κ×V)} {vs:List (κ×Value)} (r:KV kvs vs) (k:κ) {y:V} {u:Value} (ry:RelV y u):KV (putK kvs k y) (stored vs k u):=by
 unfold putK stored
 rw[r.any k]
 by_cases e:(vs.any fun kv=>decide (kv.1=k))=true
 ·rw[if_pos e,if_pos e];exact r.oK k ry
 ·rw[if_neg e,if_neg e];exact Paired.snoc r ⟨rfl,ry⟩
theorem KV.length {kvs:List (κ×V)} {vs:List (κ×Value)} (r:KV kvs vs):kvs.length=vs.length:=Paired.length r
end
theorem gB {P:Program} {w:World} {k:Key} {u:Value} (r:RelV (kV k) u):(aX P w).is k u=true:=by
 cases k with
 | inl i=>obtain ⟨t,e⟩:=(show ∃t,u=Value.int i t from r);subst e;exact xJ P w i t
 | inr x=>obtain ⟨t,e⟩:=(show ∃t,u=Value.str x t from r);subst e;exact aGt P w x t
theorem rA {P:Program} {w:World}:∀{ks:List Key} {us:List Value},Vals (ks.map kV) us→ItemsAre (aX P w) ks us
 | [],_,r=>by rw[List.map_nil] at r;cases r;exact .nil
 | k::ks,_,r=>by
  rw[List.map_cons] at r
  cases r with
  | cons h t=>exact .cons (gB h) (rA t)
abbrev KT (H:Hp):List (List Key×V)→List (List Key×Addr×Value)→Prop:=Paired fun p q=>p.1=q.1∧H q.2.1=some (.tup (p.1.map kV))∧RelV p.2 q.2.2
theorem KT.val {H:Hp} {kvs:List (List Key×V)} {xs:List (List Key×Addr×Value)} (r:KT H kvs xs) (k:List Key):bJ (aM kvs k) ((atKey xs k).map (·.2)):=by
 induction r with
 | nil=>exact True.intro
 | @cons p q ps qs h t ih=>
  obtain ⟨h1,_,h2⟩:=h
  by_cases e:p.1=k
  ·have e':q.1=k:=h1.symm.trans e
   have b:atKey (q::qs) k=some q.2:=by simp [atKey,List.find?_cons,e']
   rw[cF e,b];exact h2
  ·have e':¬q.1=k:=fun z=>e (h1.trans z)
   have b:atKey (q::qs) k=atKey qs k:=by simp [atKey,List.find?_cons,e']
   rw[cI e,b];exact ih
theorem KT.oK {H:Hp} {kvs:List (List Key×V)} {xs:List (List Key×Addr×Value)} (r:KT H kvs xs) (k:List Key) {y:V} {u:Value} (ry:RelV y u) :
  KT H (kvs.map fun kv=>if kv.1=k then (kv.1,y) else kv) (xs.map (putAt k u)):=by
 induction r with
 | nil=>exact .nil
 | @cons p q ps qs h t ih=>
  rw[List.map_cons,List.map_cons]
  refine .cons ?_ ih
  obtain ⟨h1,h2,h3⟩:=h
  unfold putAt
  by_cases e:p.1=k
  ·rw[if_pos e,if_pos (h1.symm.trans e)];exact ⟨h1,h2,ry⟩
  ·rw[if_neg e,if_neg (fun z=>e (h1.trans z))];exact ⟨h1,h2,h3⟩
theorem KT.put {H:Hp} {kvs:List (List Key×V)} {xs:List (List Key×Addr×Value)} (r:KT H kvs xs) (k:List Key) {b:Addr} {y:V} {u:Value} (hb:H b=some (.tup (k.map kV))) (ry:RelV y u) :
  KT H (putK kvs k y) (storedH xs k b u):=by
 have e:(kvs.any fun kv=>decide (kv.1=k))=(atKey xs k).isSome:=by
  rw[dJ,(r.val k).qK,Option.isSome_map]
 unfold putK storedH
 rw[e]
 by_cases q:(atKey xs k).isSome=true
 ·rw[if_pos q,if_pos q];exact r.oK k ry
 ·rw[if_neg q,if_neg q];exact Paired.snoc r ⟨rfl,hb,ry⟩
theorem KT.keeps {H H':Hp} {kvs:List (List Key×V)} {xs:List (List Key×Addr×Value)} (r:KT H kvs xs) (ht:∀b ys,H b=some (.tup ys)→H' b=some (.tup ys)):KT H' kvs xs:=
 Paired.nO r fun _ _ z=>⟨z.1,ht _ _ z.2.1,z.2.2⟩
section
variable {P:Program} {w:World} {H:Hp} {h:Heap} {a:Addr}
theorem vA {u:HO} (ok:HOk P w H h) (e:Rd H a u):aQ P w H h a u:=e.ok ok
theorem mX {kvs:List (Key×V)} (ok:HOk P w H h) (e:Rd H a (.dK kvs)):kvs.length≤sizeLine∧(a==sysModules)=false∧∃vs,KV kvs vs∧h.DictOf (aX P w) a vs:=
 show aQ P w H h a (.dK kvs) from vA ok e
theorem zL {kvs:List (Key×V)} (ok:HOk P w H h) (e:H a=some (.dK kvs)):kvs.length≤sizeLine∧(a==sysModules)=false∧∃vs,KV kvs vs∧h.DictOf (aX P w) a vs:=mX ok (.inl e)
theorem nG {ks:List Key} (ok:HOk P w H h) (e:H a=some (.tup (ks.map kV))):(tupleKind (aX P w)).is h ks a:=by
 obtain ⟨_,its,r,o,h1,h2,n,h3⟩:=(show aQ P w H h a (.tup (ks.map kV)) from ok a _ e)
 exact ⟨o,its.toArray,n,h1,h2,h3,by simpa using rA r⟩
theorem kS {kvs:List (List Key×V)} (ok:HOk P w H h) (e:Rd H a (.dT kvs)):kvs.length≤sizeLine∧(a==sysModules)=false ∧
  ∃xs,KT H kvs xs∧h.DictOfH (tupleKind (aX P w)) a xs:=by
 obtain ⟨z,y,xs,r,o,es,ep,h1,h2,h3,h4,h5⟩:=(show aQ P w H h a (.dT kvs) from vA ok e)
 refine ⟨z,y,xs,r,o,es,ep,h1,h2,h3,h4,fun x hx=>?_,h5⟩
 have all:∀{l:List (List Key×V)} {m:List (List Key×Addr×Value)},KT H l m→∀x∈m,(tupleKind (aX P w)).is h x.1 x.2.1:=by
  intro l m q
  induction q with
  | nil=>intro x hx;exact nomatch hx
  | @cons p q ps qs hq t ih=>
   intro x hx
   rcases List.mem_cons.mp hx with e | hx
   ·subst e
    exact nG ok (by rw[←hq.1];exact hq.2.1)
   ·exact ih x hx
 exact all r x hx
theorem zT {kvs:List (List Key×V)} (ok:HOk P w H h) (e:H a=some (.dT kvs)):kvs.length≤sizeLine∧(a==sysModules)=false ∧
  ∃xs,KT H kvs xs∧h.DictOfH (tupleKind (aX P w)) a xs:=kS ok (.inl e)
end
def gA (H:Hp) (a:Addr) (y:V) (r:Option V):Prop:=
 (∃kvs k,Rd H a (.dK kvs)∧y=kV k∧r=aM kvs k)∨∃kvs k b,Rd H a (.dT kvs)∧y=.ref b∧H b=some (.tup (k.map kV))∧r=aM kvs k
def gF (H:Hp) (a:Addr) (y v:V) (H':Hp):Prop:=
 (∃kvs k,H a=some (.dK kvs)∧y=kV k∧kvs.length<sizeLine∧H'=upd H a (.dK (putK kvs k v))) ∨
 ∃kvs k b,H a=some (.dT kvs)∧y=.ref b∧H b=some (.tup (k.map kV))∧kvs.length<sizeLine∧H'=upd H a (.dT (putK kvs k v))
theorem gA.k {H:Hp} {a:Addr} {kvs:List (Key×V)} {k:Key} (e:H a=some (.dK kvs)):gA H a (kV k) (aM kvs k):=.inl ⟨kvs,k,.inl e,rfl,rfl⟩
theorem gF.k {H:Hp} {a:Addr} {kvs:List (Key×V)} {k:Key} {v:V} (e:H a=some (.dK kvs)) (hl:kvs.length<sizeLine):gF H a (kV k) v (upd H a (.dK (putK kvs k v))):=.inl ⟨kvs,k,e,rfl,hl,rfl⟩
section
variable {X:Cx} {pins:List (Addr×Obj)} {σ:St} {H:Hp} {s:Shared} {a:Addr} {y v:V} {u r:Value} {o:Option V} {A:Around} {E:Value→Shared→Prop}
theorem Inv.big (I:Inv X pins σ H s):sysModules<s.heap.objs.size:=by
 have h:mainGlobals<s.heap.objs.size:=(I.mod.glob.keeps I.bk).lt
 exact Nat.lt_trans (by decide) h
theorem rM {h':Heap} {t':Nat} {ob:HO} (I:Inv X pins σ H s) (mu:Mut (H a)) (hs:Heap.SameBut a s.heap h') (he:∃q,h'.get? a=some q) (new:aQ X.prog X.w (upd H a ob) h' a ob) :
  Inv X pins σ (upd H a ob) { s with heap:=h',toks:=t' }:=
 I.write (x:=a) (e:=a) mu (.inl rfl) (fun b q hb z=>(hs.2 b hb).trans z) he new
theorem xC {P:Program} {w:World} {H':Hp} {h':Heap} {kvs:List (Key×V)} {vs:List (Key×Value)} (z:kvs.length≤sizeLine) (hd:(a==sysModules)=false) (rel:KV kvs vs) (dd:h'.DictOf (aX P w) a vs) :
  aQ P w H' h' a (.dK kvs):=⟨z,hd,vs,rel,dd⟩
theorem zA {H':Hp} {Q:Unit→Shared→Prop} (hu:A.units+1<cLine) (I:Inv X pins σ H s) (g:gF H a y v H') (ry:RelV y u) (rv:RelV v r) (h:∀s',Inv X pins σ H' s'→Q () s') :
  wpAny (model X.prog X.w) A (setItem (.ref a) u r) Q E s:=by
 rcases g with ⟨kvs,k,e,ey,l,eH⟩ | ⟨kvs,k,b,e,ey,eb,l,eH⟩
 ·subst ey eH
  obtain ⟨z,hd,vs,rel,dd⟩:=zL I.hok e
  have hz:vs.length≤sizeLine:=by rw[←rel.length];exact z
  have hl:(putK kvs k v).length≤sizeLine:=by have:=uQ kvs k v;omega
  refine wpAny_setItem_pairs (hsz:=hz) (gB ry) dd fun h' dd' hs=>h _ ?_
  have he:∃q,h'.get? a=some q:=let ⟨q,_,_,hq,_⟩:=dd';⟨q,hq⟩
  exact rM I (by rw[e];exact True.intro) hs he (xC hl hd (rel.put k rv) dd')
 ·subst ey eH
  cases (show u=Value.ref b from ry)
  obtain ⟨z,hd,xs,rel,dd⟩:=zT I.hok e
  have hz:xs.length≤sizeLine:=by rw[←Paired.length rel];exact z
  have hl:(putK kvs k v).length≤sizeLine:=by have:=uQ kvs k v;omega
  refine wpAny_setItem_heap (hsz:=hz) (tupleKind_room_in1 hu) (nG I.hok eb) dd fun h' dd' hs=>h _ ?_
  obtain ⟨q,es,ep,hq,h2,h3,h4,_,h5⟩:=dd'
  refine rM I (by rw[e];exact True.intro) hs ⟨q,hq⟩ ⟨hl,hd,_,(rel.put k eb rv).keeps fun c ys ec=>?_,q,es,ep,hq,h2,h3,h4,h5⟩
  rw[aE (bR ec e (fun z=>nomatch z))]
  exact ec
end
section
variable {X:Cx} {pins:List (Addr×Obj)} {σ:St} {H:Hp} {s:Shared} {a:Addr} {kvs:List (Key×V)} {k:Key} {u:Value} {A:Around} {E:Value→Shared→Prop}
end
def qD (i:Expr):Prop:=∀ov iv,subscripted i false ov iv=operate [ov,iv] (getItem ov iv)
theorem aD7 {prog:Program} {w:World} {A:Around} {E:Value→Shared→Prop} {s:Shared} {env:Env} {value slice:Expr} {pos:Pos} {T id:String} {Q:Value→Shared→Prop}
  (hl:typeLookup (.type T) "__getitem__" = pure (some (.builtin id))) (hs:qD slice)
  (h:wpAny (model prog w) A (eval value env) (fun o s₁=>wpAny (model prog w) A (eval slice env) (fun i s₂=>s₂.TypeIs o T∧wpAny (model prog w) A (getItem o i) Q E s₂) E s₁) E s) :
  wpAny (model prog w) A (eval (.Subscript value slice pos) env) Q E s:=by
 refine Subscript_ (wpAny_mono h (fun o s₁ h₁=>wpAny_mono h₁ (fun i s₂ h₂=>?_) fun _ _ x=>x) fun _ _ x=>x)
 obtain ⟨hT,h₂⟩:=h₂
 unfold subscriptTail
 refine wpAny_bind ?_
 rw[getitemInPython_of_ne hT.not_modules]
 refine wpAny_bind (wpAny_specialOf hT hl ?_)
 have fin:wpAny (model prog w) A (subscripted slice false o i) (fun r s₃=>wpAny (model prog w) A (letTemporaryGo value o r >>= fun _=>pure r) Q E s₃) E s₂:=by
  rw[hs o i]
  exact wpAny_operating (wpAny_mono h₂ (fun r s₃ h₃=>wpAny_bind (wpAny_letTemporaryGo (wpAny_pure h₃))) fun _ _ x=>x)
 first
  | exact wpAny_pure (wpAny_bind fin)
  | exact wpAny_bind (wpAny_pure (wpAny_bind fin))
  | exact wpAny_bind fin
def aF3 (td ty tv:TE):TS:=fun D σ H=>tv σ H fun v H1=>td σ H1 fun x H2=>ty σ H2 fun y H3=>∃a H4,x=.ref a∧gF H3 a y v H4∧D.nx σ H4
section
variable {X:Cx} {o i e value:Expr} {pos pos' tpos:Pos} {td ty tv:TE}
theorem zV (hu:X.A.units+1<cLine) (ho:PE X o td) (hi:PE X i ty) (hv:PE X value tv) (hs:swapsWith value (some (.Subscript o i pos')) pos.line X.env=pure false) :
  PS X (.Assign [.Subscript o i pos'] value pos) (aF3 td ty tv):=by
 intro pins s σ H D I h
 refine wpAny_Assign_Subscript (thn (hv pins s σ H _ I h) fun r s1 ⟨v,H1,I1,rv,q1⟩=>thn (ho pins s1 σ H1 _ I1 q1) fun u s2 ⟨x,H2,I2,rx,q2⟩=>thn (hi pins s2 σ H2 _ I2 q2) fun iv s3 ⟨y,H3,I3,ry,a,H4,ex,g,q3⟩=>?_) hs
 subst ex
 obtain rfl:u=Value.ref a:=rx
 exact zA hu I3 g ry rv fun s4 I4=>⟨σ,H4,I4,q3⟩
end
theorem aE2 {P:Program} {w:World} {H:Hp} (h:Heap) (hb:sysModules<h.objs.size):aQ P w H (h.push { cls:=.type "dict",data:=.dict #[] }) h.objs.size (.dK []):=
 ⟨Nat.zero_le _,beq_eq_false_iff_ne.mpr (Ne.symm (Nat.ne_of_lt hb)),[],.nil,Heap.DictOf.new h⟩
def aC1:TE:=fun _ H Q=>∀p,H p=none→Q (.ref p) (upd H p (.dK []))
section
variable {X:Cx} {pos:Pos}
theorem aD2:PE X (.Dict [] [] pos) aC1:=fun pins s σ H Q I h=>
 wpAny_Dict_empty ⟨.ref s.heap.objs.size,_,I.laid (a:=s.heap.objs.size) (o:=.dK []) (t':=s.toks) (fun _ _ q=>Heap.get?_push_of_some _ q) (Nat.le_refl _) (aE2 s.heap I.big),rfl,h _ (I.hok.fresh (Nat.le_refl _))⟩
end
structure M2 (X:Cx) (o:Expr) (m:Str) (apos:Pos) (e f:Expr) (cpos:Pos):Prop where
 base:attributeBase o m X.env (eval o X.env)=eval o X.env
 few:((backTo cpos (starEach [e,f] X.env)).all (fun x=>!x.1)&&(backToKw cpos (keywordEach [] X.env)).all (fun x=>x.1.isSome)
  && decide (([e,f]:List Expr).length+([]:List Keyword).length+(if ([]:List Keyword).isEmpty then 0 else 1)<30))=true
 line:(apos.endLine==cpos.line)=true
 trees:backTo cpos (starEach [e,f] X.env)=[(false,eval e X.env),(false,eval f X.env)]
def IsD (H:Hp) (a:Addr):Prop:=(∃kvs,Rd H a (.dK kvs))∨∃kvs,Rd H a (.dT kvs)
theorem yK {X:Cx} {pins:List (Addr×Obj)} {σ:St} {H:Hp} {s:Shared} {a:Addr} (I:Inv X pins σ H s) (d:IsD H a) :
  s.TypeIs (.ref a) "dict"∧(∀b,Value.ref a=.ref b→∃ob,s.heap.get? b=some ob∧ob.dict=none)∧(a==sysModules)=false:=by
 rcases d with ⟨kvs,e⟩ | ⟨kvs,e⟩
 ·obtain ⟨_,hd,vs,_,dd⟩:=mX I.hok e
  refine ⟨dd.typeIs,fun b q=>?_,hd⟩
  cases q
  obtain ⟨ob,_,_,h1,h2,_⟩:=dd
  exact ⟨ob,h1,h2.2.1⟩
 ·obtain ⟨_,hd,xs,_,dd⟩:=kS I.hok e
  refine ⟨dd.typeIs,fun b q=>?_,hd⟩
  cases q
  obtain ⟨ob,_,_,h1,h2,_⟩:=dd
  exact ⟨ob,h1,h2.2.1⟩
section
variable {X:Cx} {pins:List (Addr×Obj)} {σ:St} {H:Hp} {s:Shared} {a:Addr} {y d:V} {u r:Value} {o:Option V} {A:Around} {E:Value→Shared→Prop}
theorem aE3 {Q:Value→Shared→Prop} (hu:A.units+1<cLine) (I:Inv X pins σ H s) (g:gA H a y o) (ry:RelV y u) (rd:RelV d r) (h:∀w' s',Inv X pins σ H s'→RelV (o.getD d) w'→Q w' s') :
  wpAny (model X.prog X.w) A (call (.builtin "dict.get") [.ref a,u,r]) Q E s:=by
 rcases g with ⟨kvs,k,e,ey,l⟩ | ⟨kvs,k,b,e,ey,eb,l⟩
 ·subst ey
  obtain ⟨z,hd,vs,rel,dd⟩:=mX I.hok e
  refine call_meetsIn PySem.F.slot_dict_get dd.typeIs PySem.F.entry_dict_get (PySem.F.args_dict_get_3 _ _ _) (meets_dict_get_default (aX X.prog X.w) a (gB ry) hd r) ⟨_,dd.mapOf,h _ _ (I.tok _) ?_⟩
  rw[l]
  exact (rel.val k).getD rd
 ·subst ey
  cases (show u=Value.ref b from ry)
  obtain ⟨z,hd,xs,rel,dd⟩:=kS I.hok e
  refine call_meetsIn PySem.F.slot_dict_get dd.typeIs PySem.F.entry_dict_get (PySem.F.args_dict_get_3 _ _ _) (meetsH_dict_get_default (tupleKind (aX X.prog X.w)) a b hd r) ⟨tupleKind_room_in1 hu,k,xs,nG I.hok eb,dd,h _ _ (I.tok _) ?_⟩
  rw[l]
  exact (rel.val k).getD rd
end
def aEm (td ty tx:TE):TE:=fun σ H Q=>td σ H fun x H1=>∃a,x=.ref a∧IsD H1 a∧ty σ H1 fun y H2=>tx σ H2 fun z H3=>∃o,gA H3 a y o∧Q (o.getD z) H3
section
variable {X:Cx} {o e f:Expr} {apos cpos:Pos} {td ty tx:TE}
theorem yT (hu:X.A.units+1<cLine) (ho:PE X o td) (he:PE X e ty) (hf:PE X f tx) (m:M2 X o "get" apos e f cpos):PE X (.Call (.Attribute o "get" apos) [e,f] [] cpos) (aEm td ty tx):=by
 intro pins s σ H Q I h
 refine wpAny_Call_method m.base m.few m.line PySem.F.plainAttrs_dict PySem.F.slot_dict_get PySem.F.type_dict_get (thn (ho pins s σ H _ I h) fun u s1 ⟨x,H1,I1,rx,a,ex,d,q1⟩=>?_)
 subst ex
 obtain rfl:u=Value.ref a:=rx
 obtain ⟨t1,t2,_⟩:=yK I1 d
 refine ⟨t1,t2,?_⟩
 rw[m.trees]
 refine Calls.callWith_builtin rfl (Calls.evalArgs_plain (Calls.spliced_cons (thn (he pins s1 σ H1 _ I1 q1) fun iv s2 ⟨y,H2,I2,ry,q2⟩=>
  Calls.spliced_cons (thn (hf pins s2 σ H2 _ I2 q2) fun fv s3 ⟨z,H3,I3,rz,ov,g,q3⟩=>Calls.spliced_nil ?_))))
 exact aE3 hu I3 g ry rz fun w' s4 I4 rw'=>⟨_,H3,I4,rw',q3⟩
end
section
variable {X:Cx} {pins:List (Addr×Obj)} {σ:St} {H:Hp} {s:Shared} {a:Addr} {kvs:List (Key×V)} {A:Around} {E:Value→Shared→Prop}
end
section
variable {X:Cx} {pins:List (Addr×Obj)} {σ:St} {H:Hp} {s:Shared} {a:Addr} {y:V} {u:Value} {A:Around} {E:Value→Shared→Prop}
end
end L2
namespace L2
open PySem PySem.Spec PyProof.Rows
section
variable {prog:Program} {w:World} {A:Around} {E:Value→Shared→Prop}
end
section
variable {X:Cx}
end
end L2
namespace L2
open PySem PySem.Spec PyProof.Rows
section
variable {X:Cx} {pins:List (Addr×Obj)} {σ:St} {H:Hp} {s:Shared} {h':Heap}
end
section
variable {X:Cx}
theorem aAt {tg:Expr} {pins:List (Addr×Obj)} {σ:St} {H:Hp} {s:Shared} {R:It→Hp→Prop} {J:It} {tn:Nat→Heap→Prop} {tk:Nat} (I:Inv X pins σ H s) (o:Obj)
  (T:Turn X.prog X.w X.K tg J [s.heap.objs.size] s.heap.objs.size tn) (st:tn 0 (s.heap.push o)) (q:R J H):PIE X pins σ tg R (.ref s.heap.objs.size) { s with heap:=s.heap.push o,toks:=tk }:=by
 refine ⟨s.heap.objs.size,[s.heap.objs.size],tn,J,H,rfl,I.kept fun b ob e=>Heap.get?_push_of_some _ e,T,st,fun b hb=>?_,q⟩
 have e:b=s.heap.objs.size:=by simpa using hb
 subst e
 exact I.iA (Nat.le_refl _) (I.hok.fresh (Nat.le_refl _))
end
def Itc (lo c:Int) (n:Nat):It:=⟨fun i _=>i<n,fun i H x H'=>H'=H∧x=.int (lo+(i:Nat)*c),fun i _=>n≤i⟩
theorem aDf {P:Program} {w:World} {K:PySem.W.Frag} {tg:Expr} (it:Addr) (lo c:Int) (n:Nat):Turn P w K tg (Itc lo c n) [it] it (fun i h=>IsRangeIter h it (lo+(i:Nat)*c) ((n:Int)-(i:Nat)) c) where
 mem:=by simp
 obj:=fun i h st b hb=>by
  have e:b=it:=by simpa using hb
  subst e
  exact ⟨_,st,fun v z=>nomatch z⟩
 keep:=fun i h h' st k=>k it (by simp) _ st
 item:=by
  intro X hP hw hK hc i pins s σ H E I hf st hg
  subst hP hw hK
  obtain ⟨f0,f1,f2,f3,f4,f5⟩:=hf it (by simp)
  have W:=Walks.range (prog:=X.prog) (w:=X.w) (I.ok.hd hc) it lo c n
  refine W.item i s _ _ hg st fun v h' tk hv st' kk=>?_
  obtain ⟨t,rfl⟩:=hv
  have I1:Inv X pins σ H { s with heap:=h',toks:=tk }:=I.turned (fun b o hb e=>kk b o (by simpa using hb) e) f0 f1 f3 f4 f5
  exact ⟨_,rfl,nE (s:={ s with heap:=h',toks:=tk }) (n:="range_iterator") st' rfl rfl (by decide) ⟨.int (lo+(i:Nat)*c),H,I1,⟨t,rfl⟩,⟨rfl,rfl⟩,st',fun b hb=>(hf b hb).1⟩⟩
 done:=by
  intro X hP hw hK hc i pins s σ H E I hf st hg
  subst hP hw hK
  obtain ⟨f0,f1,f2,f3,f4,f5⟩:=hf it (by simp)
  exact wpAny_pyNext_range_end (I.ok.hd hc) st (by have:n≤i:=hg;omega) fun h' eb=>⟨rfl,I.turned (t':=s.toks) (fun b o hb e=>eb b o hb e) f0 f1 f3 f4 f5⟩
 self:=fun A i s Q E st h=>wpAny_pyIter_rangeiter st h
def RgC (i j c:Int) (n:Nat):Prop:=c≠0∧c.natAbs<1073741824∧Builtin.Range.small i j c=true∧Builtin.Range.rangeSize i j c=n
def aCs (ta:TA):TI:=fun σ H R=>ta σ H fun vs H1=>∃(i j c:Int) (n:Nat),vs=[.int i,.int j,.int c]∧RgC i j c n∧R (Itc i c n) H1
section
variable {X:Cx} {tg:Expr}
theorem aFd {a b c:Expr} {ta:TA} {p pos:Pos} (hg:Gl X "range") (hm:X.mg "range" = none) (ha:PA X [a,b,c] ta)
  (hs:starEach [a,b,c] X.env=(false,eval a X.env)::starEach [b,c] X.env:=by rfl) (hpl:(backTo pos (starEach [b,c] X.env)).any (·.1)=false:=by rfl) :
  PI X tg (.Call (.Name "range" p) [a,b,c] [] pos) (aCs ta):=by
 intro pins s σ H R I h
 refine Call_ (nJ I hg hm boot_range (PyProof.Rows.callWith_type1 (thn (ha pos pins s σ H _ I h) fun us s1 ⟨vs,H1,I1,r1,q1⟩=>?_) hs hpl))
 obtain ⟨i,j,k,n,e,⟨c0,c1,c2,c3⟩,q⟩:=q1
 subst e
 cases r1 with
 | cons r rr=>
  cases rr with
  | cons r' rr=>
   cases rr with
   | cons r'' rr=>
    cases rr
    obtain ⟨t,rfl⟩:=r
    obtain ⟨t',rfl⟩:=r'
    obtain ⟨t'',rfl⟩:=r''
    refine call_range_3 c0 ?_ (.inl (PyProof.noPylong_small c1))
    refine wpAny_pyIter_range (IsRange.new ..) c2 ?_
    have I2:Inv X pins σ H1 { s1 with heap:=s1.heap.push { cls:=.type "range",data:=.fields #[.int i t,.int j t',.int k t''] } }:=I1.kept (t':=s1.toks) fun b o e=>Heap.get?_push_of_some _ e
    refine aAt (tk:=s1.toks) I2 _ (aDf _ i k n) ?_ q
    have e1:i+((0:Nat):Int)*k=i:=by simp
    have e2:(n:Int)-((0:Nat):Int)=Builtin.Range.rangeSize i j k:=by rw[c3];simp
    show IsRangeIter _ _ (i+((0:Nat):Int)*k) ((n:Int)-((0:Nat):Int)) k
    rw[e1,e2]
    exact Heap.get?_push_size _ rfl
end
theorem aA5 {lo c:Int} {n:Nat} {g:TG} {tb:TS} {D:Ends} {σ:St} {H:Hp} (Pv:Nat→St→Hp→Prop) (h0:Pv 0 σ H)
  (hs:∀i σ H,i<n→Pv i σ H→g (.int (lo+(i:Nat)*c)) σ H fun σ2 H2=>tb { D with nx:=Pv (i+1),ct:=Pv (i+1),bk:=D.nx } σ2 H2) (hd:∀σ H,Pv n σ H→D.nx σ H) :
  ∃W:Nat→Nat→St→Hp→Prop,(∃m,W 0 m σ H)∧∀i m σ H,W i m σ H →
   ((Itc lo c n).stop i H∧D.nx σ H)∨((Itc lo c n).go i H∧∃N:St→Hp→Prop,(∀σ' H',N σ' H'→∃m',m'<m∧W (i+1) m' σ' H')∧∀x H',(Itc lo c n).yld i H x H'→g x σ H' fun σ2 H2=>tb { D with nx:=N,ct:=N,bk:=D.nx } σ2 H2):=by
 refine ⟨fun i m σ H=>m=n-i∧i≤n∧Pv i σ H,⟨n,by simp,Nat.zero_le _,h0⟩,?_⟩
 rintro i m σ H ⟨rfl,hi,p⟩
 by_cases hlt:i<n
 ·refine .inr ⟨hlt,Pv (i+1),fun σ' H' p'=>⟨n-(i+1),by omega,rfl,hlt,p'⟩,fun x H' y=>?_⟩
  obtain ⟨e,y⟩:=y
  subst e y
  exact hs i σ _ hlt p
 ·have e:i=n:=by omega
  subst e
  exact .inl ⟨Nat.le_refl _,hd σ H p⟩
section
variable {X:Cx} {tg:Expr}
end
section
variable {prog:Program} {w:World} {A:Around} {E:Value→Shared→Prop} {s:Shared}
end
section
variable {X:Cx} {pins:List (Addr×Obj)} {σ:St} {H:Hp} {s:Shared} {d:Addr} {o:Obj}
end
section
variable {P:Program} {w:World} {K:PySem.W.Frag} {tg:Expr} {d:Addr} {o:Obj} {es:Array DictEntry} {ep:Nat}
end
section
variable {X:Cx} {tg e:Expr} {td:TE} {apos cpos:Pos}
end
end L2
section
namespace Bits
open PySem PyProof.Rows
end Bits
end
section
namespace TL
open PySem PySem.Builtin PySem.Builtin.Str PySem.StrLaws
end TL
end
namespace L2
open PySem PySem.Spec PyProof.Rows
section
variable {X:Cx} {pins:List (Addr×Obj)} {σ:St} {H:Hp} {s:Shared} {Q:VK}
end
section
variable {X:Cx}
end
section
variable {X:Cx} {o e:Expr} {to te:TE}
end
end L2
namespace L2
open PySem PySem.Spec PyProof.Rows
section
variable {X:Cx}
end
end L2
namespace Att
open PySem PySem.W PySem.Calls PyProof.Rows
section
variable {prog:Program} {w:World} {A:Around} {E:Value→Shared→Prop} {s:Shared} {K:Frag}
end
end Att
namespace L2
open PySem PySem.Spec PyProof.Rows
end L2
namespace L2
open PySem PySem.Spec PyProof.Rows
abbrev KOf {K:PySem.W.Frag} {h:Heap} (_:K.In h):PySem.W.Frag:=K
end L2
namespace L2
open PySem PySem.Spec PyProof.Rows
def inClass (s:Stmt) (j:Nat):Stmt:=match s with
 | .ClassDef _ _ _ body _ _ _ _ _ _ _=>body.getD j (.Pass ⟨0,0,0,0⟩)
 | _=>.Pass ⟨0,0,0,0⟩
def cX (s:Stmt):Arguments:=match s with
 | .FunctionDef _ a _ _ _ _ _ _ _ _=>a
 | _=>{ posonlyargs:=[],args:=[],vararg:=none,kwonlyargs:=[],kw_defaults:=[],kwarg:=none,defaults:=[] }
def cM (s:Stmt):List Stmt:=match s with
 | .FunctionDef _ _ b _ _ _ _ _ _ _=>b
 | _=>[]
def aI (s:Stmt):Scope:=match s with
 | .FunctionDef _ _ _ _ _ _ sc _ _ _=>sc
 | _=>{ kind:=.function,names:=[],isGenerator:=false,isCoroutine:=false }
abbrev CX0:CXT:=fun _ _ _ _ _ _=>False
abbrev E0:XK:=fun _ _ _=>False
theorem jI {X:Cx}:Passes CX0 X E0:=fun _ _ _ _ _ _ _ h=>h.elim
structure Fun (K:PySem.W.Frag) (x qual:Str) (st:Stmt) (f:Addr) (fd:FuncData):Prop where
 ex:∃(oc:Value) (od:Option Addr) (kV doc pm:Value) (an:Option Addr) (cdv ct:Value) (osl:Array (Option Value)),
  fd=PySem.W.fnOf x qual (cX st) (cM st) (aI st) .none kV doc pm an cdv ct∧K.lookup f=some ⟨oc,od,.func fd,osl⟩∧PySem.W.codeIn K cdv qual=true
 kp:PySem.W.keepIn K (.ref f)=true
section
variable {P:Program} {w:World} {K:PySem.W.Frag} {mg:Str→Option Value} {base:Heap}
theorem Fun.ok {x qual:Str} {st:Stmt} {f:Addr} {fd:FuncData} {N ps:List Str} {k:Nat} {sp:Sp} (F:Fun K x qual st f fd) (S:aP N ps (aI st)) (len:∀vs H Q E,sp vs H Q E→vs.length=ps.length)
  (hbody:∀(cdv:Value) (A:Around) (outer:List Env) (s:Shared) (H:Hp) (vs:List V) (Q:VK) (E:XK),aJ k (A.deeper (envOfC qual (aI st) s.heap.objs.size f cdv))→sp vs H Q E →
   ∃t,PSs (eZ CX0 P w K mg base N qual (aI st) f cdv A outer s H E).nox (cM st) t∧t { nx:=fun _ H'=>Q .non H',rt:=Q } (start N vs) H):aH P w K mg base CX0 (k+1) f fd ps sp:=by
 obtain ⟨oc,od,kV,doc,pm,an,cdv,ct,osl,rfl,lk,hcd⟩:=F.ex
 refine aBo lk hcd S len fun A outer s H vs Q E hr hsp=>?_
 obtain ⟨t,h,q⟩:=hbody cdv A outer s H vs Q E hr hsp
 exact ⟨t,h.nox,q⟩
theorem Fun.binds {x qual:Str} {st:Stmt} {f:Addr} {fd:FuncData} {ps:List Str} (F:Fun K x qual st f fd)
  (h:∀(kV doc pm:Value) (an:Option Addr) (cdv ct:Value) (us:List Value),us.length=ps.length→bindArgs (PySem.W.fnOf x qual (cX st) (cM st) (aI st) .none kV doc pm an cdv ct) ⟨us,[]⟩=pure (ps.zip us)):Binds K fd ps []:=by
 obtain ⟨oc,od,kV,doc,pm,an,cdv,ct,osl,rfl,lk,hcd⟩:=F.ex
 exact .all (h kV doc pm an cdv ct)
theorem eU {x qual:Str} {st:Stmt} {f:Addr} {oc:Value} {od an:Option Addr} {osl:Array (Option Value)} {kV doc pm cdv ct:Value} (l:K.lookup f=some ⟨oc,od,.func (PySem.W.fnOf x qual (cX st) (cM st) (aI st) .none kV doc pm an cdv ct),osl⟩)
  (c:PySem.W.codeIn K cdv qual=true) (k:PySem.W.keepIn K (.ref f)=true):Fun K x qual st f (PySem.W.fnOf x qual (cX st) (cM st) (aI st) .none kV doc pm an cdv ct):=⟨⟨oc,od,kV,doc,pm,an,cdv,ct,osl,rfl,l,c⟩,k⟩
end
theorem xV {A:Around} {k:Nat} (hr:aJ k A):A.units+1<cLine:=Nat.lt_of_le_of_lt (Nat.add_le_add_left (by decide:1≤64) _) hr.units
section
variable {X:Cx}
end
theorem fW {A B:Prop} (h:B):if false=true then A else B:=by
 rw[if_neg Bool.false_ne_true]
 exact h
theorem gD {A B:Prop} (h:A):if true=true then A else B:=by
 rw[if_pos rfl]
 exact h
def aB (H H':Hp):Prop:=∀b o,H b=some o→H' b=some o
theorem aB.refl (H:Hp):aB H H:=fun _ _ h=>h
theorem aB.trans {H H1 H2:Hp} (a:aB H H1) (b:aB H1 H2):aB H H2:=fun c o h=>b c o (a c o h)
theorem aB.free {H H':Hp} (e:aB H H') {l:Addr} (h:H' l=Option.none):H l=Option.none:=by
 cases q:H l with
 | none=>rfl
 | some o=>
  rw[e l o q] at h
  cases h
theorem aB.seq {K:PySem.W.Frag} {H H':Hp} {a:Addr} {xs:List V} (e:aB H H') (h:SqL K H a xs):SqL K H' a xs:=by
 rcases h with (h | ⟨o,h⟩) | h
 ·exact .inl (.inl (e _ _ h))
 ·exact .inl (.inr ⟨o,e _ _ h⟩)
 ·exact .inr h
section
variable {κ:Type} [DecidableEq κ]
theorem xZ {kvs:List (κ×V)} {k:κ} (h:aM kvs k=none):¬k∈kvs.map (·.1):=by
 intro m
 obtain ⟨p,hp,e⟩:=List.mem_map.mp m
 have q:(kvs.any fun kv=>decide (kv.1=k))=true:=List.any_eq_true.mpr ⟨p,hp,decide_eq_true e⟩
 rw[dJ,h] at q
 exact absurd q (by simp)
theorem sH:∀{l:List κ} {k:κ},l.Nodup→¬k∈l→(l++[k]).Nodup
 | [],k,_,_=>by simp
 | a::r,k,h,hk=>by
  obtain ⟨h1,h2⟩:=List.nodup_cons.mp h
  show (a::(r++[k])).Nodup
  refine List.nodup_cons.mpr ⟨fun m=>?_,sH h2 fun m=>hk (List.mem_cons.mpr (Or.inr m))⟩
  rcases List.mem_append.mp m with q | q
  ·exact h1 q
  ·exact hk (List.mem_cons.mpr (Or.inl (List.mem_singleton.mp q).symm))
theorem zR {kvs:List (κ×V)} {k:κ} (v:V) (hn:(kvs.map (·.1)).Nodup) (h:aM kvs k=none):((putK kvs k v).map (·.1)).Nodup:=by
 rw[vL v h,List.map_append]
 exact sH hn (xZ h)
end
theorem at_of {xs:List V} {z:Int} {j:Nat} {v:V} (e:z=(j:Int)) (h:xs[j]?=some v):atI xs z=some v:=by
 rw[e]
 exact aG8 h
end L2

section
section
set_option maxRecDepth 100000
set_option maxHeartbeats 2000000
namespace L2
open PySem PySem.Spec PyProof.Rows
open PySem.W (WData Codec OpenSpec Well WellAll ReadsW ReadsAllW)
mutual
/-- x stands for the datum d,lists and tuples all the way -/
inductive Dw (K:PySem.W.Frag) (H:Hp):V→WData→Prop
 | non:Dw K H .non .none
 | bl (b:Bool):Dw K H (.bl b) (.bool b)
 | int (i:Int):Dw K H (.int i) (.int i)
 | str (x:Str):Dw K H (.str x) (.str x)
 | byt (b:Array UInt8):Dw K H (.byt b) (.bytes b.toList)
 | lst {a:Addr} {xs:List V} {ds:List WData}:SqL K H a xs→bZ K H xs ds→Dw K H (.ref a) (.list ds)
 | tup {a:Addr} {xs:List V} {ds:List WData}:SqT K H a xs→bZ K H xs ds→Dw K H (.ref a) (.tuple ds)
inductive bZ (K:PySem.W.Frag) (H:Hp):List V→List WData→Prop
 | nil:bZ K H [] []
 | cons {v:V} {vs:List V} {d:WData} {ds:List WData}:Dw K H v d→bZ K H vs ds→bZ K H (v::vs) (d::ds)
end
theorem uE {K:PySem.W.Frag} {H:Hp}:∀ns:List Int,bZ K H (ns.map V.int) (ns.map WData.int)
 | []=>.nil
 | n::r=>.cons (.int n) (uE r)
theorem iR {K:PySem.W.Frag} {H:Hp}:∀(ns:List Int) (xs:List V),bZ K H xs (ns.map WData.int)→xs=ns.map V.int
 | [],xs,h=>by
  cases h
  rfl
 | n::r,xs,h=>by
  cases h with
  | cons h1 h2=>
   cases h1
   rw[iR r _ h2]<;>rfl
section
variable {P:Program} {w:World} {K:PySem.W.Frag} {H:Hp} {h:Heap} {R:PySem.W.WRecords} {cl:Str→Option Addr}
theorem aEh {a:Addr} {xs:List V} (hok:HOk P w H h) (KX:K.In h) (q:SqL K H a xs):∃(its:List Value) (o:Obj) (n:Nat),Vals xs its∧h.get? a=some o∧o.cls=.type "list"∧o.data=.seq its.toArray n:=by
 rcases q with q | ⟨o,its,n,e,hc,_,hd,_,hv⟩
 ·obtain ⟨_,its,n,hv,e⟩:=(show aQ P w H h a (.lst xs) from q.ok hok)
  exact ⟨its,_,n,hv,e,rfl,rfl⟩
 ·exact ⟨its.toList,o,n,hv,KX _ _ e,hc,by simp [hd]⟩
theorem aB8 {a:Addr} {xs:List V} (hok:HOk P w H h) (KX:K.In h) (q:SqT K H a xs):∃(its:List Value) (o:Obj) (n:Nat),Vals xs its∧h.get? a=some o∧o.cls=.type "tuple"∧o.data=.seq its.toArray n:=by
 rcases q with q | ⟨o,its,n,e,hc,hd,_,hv⟩
 ·obtain ⟨_,its,hv,o,e,hc,n,hd⟩:=(show aQ P w H h a (.tup xs) from q.ok hok)
  exact ⟨its,o,n,hv,e,hc,hd⟩
 ·exact ⟨its.toList,o,n,hv,KX _ _ e,hc,by simp [hd]⟩
mutual
theorem Dw.reads (hok:HOk P w H h) (KX:K.In h):∀(d:WData) (v:V) (u:Value),Dw K H v d→RelV v u→∃as,ReadsW R cl h u d as
 | .none,_,_,x,r=>by
  cases x
  cases r
  exact ⟨_,ReadsW.none⟩
 | .bool b,_,_,x,r=>by
  cases x
  cases r
  exact ⟨_,ReadsW.bool b⟩
 | .int i,_,_,x,r=>by
  cases x
  obtain ⟨t,rfl⟩:=r
  exact ⟨_,ReadsW.int i t⟩
 | .str s,_,_,x,r=>by
  cases x
  obtain ⟨t,rfl⟩:=r
  exact ⟨_,ReadsW.str s t⟩
 | .bytes b,_,_,x,r=>by
  cases x
  obtain ⟨t,rfl⟩:=r
  exact ⟨_,ReadsW.bytes _ t⟩
 | .list ds,_,_,x,r=>by
  cases x with
  | lst hs ha=>
   cases r
   obtain ⟨its,o,n,rv,ho,hc,hd⟩:=aEh hok KX hs
   obtain ⟨as,hr⟩:=Dw.readsAll hok KX ds _ its ha rv
   exact ⟨_,ReadsW.list ho hc hd hr⟩
 | .tuple ds,_,_,x,r=>by
  cases x with
  | tup hs ha=>
   cases r
   obtain ⟨its,o,n,rv,ho,hc,hd⟩:=aB8 hok KX hs
   obtain ⟨as,hr⟩:=Dw.readsAll hok KX ds _ its ha rv
   exact ⟨_,ReadsW.tuple ho hc hd hr⟩
 | .float _,_,_,x,_=>by cases x
 | .dict _,_,_,x,_=>by cases x
 | .bytearray _,_,_,x,_=>by cases x
 | .set _,_,_,x,_=>by cases x
 | .frozenset _,_,_,x,_=>by cases x
 | .obj _ _,_,_,x,_=>by cases x
theorem Dw.readsAll (hok:HOk P w H h) (KX:K.In h):∀(ds:List WData) (vs:List V) (us:List Value),bZ K H vs ds→Vals vs us→∃as,ReadsAllW R cl h us ds as
 | [],_,_,x,r=>by
  cases x
  cases r
  exact ⟨_,ReadsAllW.nil⟩
 | d::ds,_,_,x,r=>by
  cases x with
  | cons h1 h2=>
   cases r with
   | cons r1 r2=>
    obtain ⟨as,q1⟩:=Dw.reads hok KX d _ _ h1 r1
    obtain ⟨bs,q2⟩:=Dw.readsAll hok KX ds _ _ h2 r2
    exact ⟨_,ReadsAllW.cons q1 q2⟩
end
end
mutual
/-- data that a codec tells -/
def plW:WData→Bool
 | .none=>true
 | .bool _=>true
 | .int _=>true
 | .str _=>true
 | .bytes _=>true
 | .list xs=>cH xs
 | .tuple xs=>cH xs
 | _=>false
def cH:List WData→Bool
 | []=>true
 | x::r=>plW x&&cH r
end
theorem uJ {α:Type} {f:α→WData} (h:∀a,plW (f a)=true):∀l:List α,cH (l.map f)=true
 | []=>rfl
 | x::r=>by
  show (plW (f x)&&cH (r.map f))=true
  rw[h x,uJ h r]<;>rfl
theorem dQ:∀(c:Codec) (a:c.denote),plW (c.enc a)=true
 | .unit,_=>rfl
 | .bool,_=>rfl
 | .int _ _,_=>rfl
 | .nat _ _,_=>rfl
 | .u8,_=>rfl
 | .bytes _ _,_=>rfl
 | .text _ _ _ _,_=>rfl
 | .list _ _ c,a=>uJ (fun x=>dQ c x) a
 | .pair c d,a=>by
  show (plW (c.enc a.1)&&(plW (d.enc a.2)&&true))=true
  rw[dQ c a.1,dQ d a.2]<;>rfl
 | .triple c d e,a=>by
  show (plW (c.enc a.1)&&(plW (d.enc a.2.1)&&(plW (e.enc a.2.2)&&true)))=true
  rw[dQ c a.1,dQ d a.2.1,dQ e a.2.2]<;>rfl
 | .option c,none=>rfl
 | .option c,some x=>dQ c x
theorem rD:∀(cs:List Codec) (a:Codec.denoteAll cs),cH (Codec.encAll cs a)=true
 | [],_=>rfl
 | c::cs,a=>by
  show (plW (c.enc a.1)&&cH (Codec.encAll cs a.2))=true
  rw[dQ c a.1,rD cs a.2]<;>rfl
theorem jT:∀{xs:List WData} {d:WData},d∈xs→d.weight≤WData.weightAll xs
 | [],d,h=>absurd h (by simp)
 | x::r,d,h=>by
  show d.weight≤x.weight+1+WData.weightAll r
  rcases List.mem_cons.mp h with e | m
  ·rw[e]
   omega
  ·have z:=jT m
   omega
def toV:Value→V
 | .none=>.non
 | .bool b=>.bl b
 | .int i _=>.int i
 | .str x _=>.str x
 | .bytes b _=>.byt b
 | .ref a=>.ref a
 | _=>.non
def OkU (A:List Addr):Value→Prop
 | .none=>True
 | .bool _=>True
 | .int _ _=>True
 | .str _ _=>True
 | .bytes _ _=>True
 | .ref a=>a∈A
 | _=>False
theorem OkU.mono {A B:List Addr} (h:∀a∈A,a∈B):∀{u:Value},OkU A u→OkU B u:=fun {u} x=>by
 cases u with
 | ref a=>exact h a x
 | none=>trivial
 | bool b=>trivial
 | int i t=>trivial
 | str s t=>trivial
 | bytes b t=>trivial
 | _=>exact False.elim x
theorem zE {A:List Addr} {u:Value} (x:OkU A u):RelV (toV u) u:=by
 cases u with
 | ref a=>rfl
 | none=>rfl
 | bool b=>rfl
 | int i t=>exact ⟨t,rfl⟩
 | str s t=>exact ⟨t,rfl⟩
 | bytes b t=>exact ⟨t,rfl⟩
 | _=>exact False.elim x
theorem fO {A:List Addr}:∀{vs:List Value},(∀u∈vs,OkU A u)→Vals (vs.map toV) vs
 | [],_=>.nil
 | u::r,h=>.cons (zE (h u (List.mem_cons_self ..))) (fO fun x hx=>h x (List.mem_cons_of_mem _ hx))
def cK (h:Heap) (A:List Addr) (a:Addr):Prop:=∃vs:List Value,vs.length≤sizeLine∧(∀u∈vs,OkU A u) ∧
 (h.get? a=some { cls:=.type "list",data:=.seq vs.toArray }∨h.get? a=some { cls:=.type "tuple",data:=.seq vs.toArray })
theorem cK.mono {h:Heap} {A B:List Addr} {a:Addr} (k:∀a∈A,a∈B) (x:cK h A a):cK h B a:=by
 obtain ⟨vs,h1,h2,h3⟩:=x
 exact ⟨vs,h1,fun u hu=>(h2 u hu).mono k,h3⟩
theorem jN {P:Params} {h:Heap}:∀{vs:List Value} {ds:List WData},WellAll P h vs ds→vs.length=ds.length
 | _,_,.nil=>rfl
 | _,_,.cons _ b=>by
  show _+1=_+1
  rw[jN b]
theorem sQ {P:Params} {h:Heap} {v:Value} {ds:List WData} (x:Well P h v (.list ds)):∃(a:Addr) (vs:List Value),v=.ref a∧h.get? a=some { cls:=.type "list",data:=.seq vs.toArray }∧WellAll P h vs ds:=by
 cases x with
 | list ho hall=>exact ⟨_,_,rfl,ho,hall⟩
theorem oV {P:Params} {h:Heap} {v:Value} {ds:List WData} (x:Well P h v (.tuple ds)):∃(a:Addr) (vs:List Value),v=.ref a∧h.get? a=some { cls:=.type "tuple",data:=.seq vs.toArray }∧WellAll P h vs ds:=by
 cases x with
 | tuple ho hall=>exact ⟨_,_,rfl,ho,hall⟩
theorem sU {P:Params} {h:Heap} {us:List Value} {d:WData} {ds:List WData} (x:WellAll P h us (d::ds)):∃(v:Value) (vs:List Value),us=v::vs∧Well P h v d∧WellAll P h vs ds:=by
 cases x with
 | cons a b=>exact ⟨_,_,rfl,a,b⟩
theorem oX {n:Nat} (h:n≤1048576):n≤sizeLine:=Nat.le_trans h (by decide)
section
variable {P:Params} {h:Heap}
mutual
theorem aEd:∀(d:WData) (v:Value),Well P h v d→plW d=true→d.weight≤1048576→∃A:List Addr,OkU A v∧∀a∈A,cK h A a
 | .none,_,x,_,_=>by
  cases x
  exact ⟨[],trivial,fun a m=>absurd m (by simp)⟩
 | .bool b,_,x,_,_=>by
  cases x
  exact ⟨[],trivial,fun a m=>absurd m (by simp)⟩
 | .int i,_,x,_,_=>by
  cases x
  exact ⟨[],trivial,fun a m=>absurd m (by simp)⟩
 | .str s,_,x,_,_=>by
  cases x
  exact ⟨[],trivial,fun a m=>absurd m (by simp)⟩
 | .bytes b,_,x,_,_=>by
  cases x
  exact ⟨[],trivial,fun a m=>absurd m (by simp)⟩
 | .list ds,_,x,p,z=>by
  obtain ⟨a,vs,rfl,ho,hall⟩:=sQ x
  have z2:WData.weightAll ds≤1048576:=z
  obtain ⟨A,h1,h2⟩:=iV ds _ hall p fun d hd=>Nat.le_trans (jT hd) z2
  have k:∀b∈A,b∈a::A:=fun b hb=>List.mem_cons_of_mem _ hb
  refine ⟨a::A,List.mem_cons_self ..,fun b hb=>?_⟩
  rcases List.mem_cons.mp hb with e | m
  ·rw[e]
   exact ⟨vs,oX (by rw[jN hall];exact Nat.le_trans (PySem.W.length_le_weightAllW ds) z2),fun u hu=>(h1 u hu).mono k,.inl ho⟩
  ·exact (h2 b m).mono k
 | .tuple ds,_,x,p,z=>by
  obtain ⟨a,vs,rfl,ho,hall⟩:=oV x
  have z2:WData.weightAll ds≤1048576:=z
  obtain ⟨A,h1,h2⟩:=iV ds _ hall p fun d hd=>Nat.le_trans (jT hd) z2
  have k:∀b∈A,b∈a::A:=fun b hb=>List.mem_cons_of_mem _ hb
  refine ⟨a::A,List.mem_cons_self ..,fun b hb=>?_⟩
  rcases List.mem_cons.mp hb with e | m
  ·rw[e]
   exact ⟨vs,oX (by rw[jN hall];exact Nat.le_trans (PySem.W.length_le_weightAllW ds) z2),fun u hu=>(h1 u hu).mono k,.inr ho⟩
  ·exact (h2 b m).mono k
 | .float _,_,_,p,_=>Bool.noConfusion (show false=true from p)
 | .dict _,_,_,p,_=>Bool.noConfusion (show false=true from p)
 | .bytearray _,_,_,p,_=>Bool.noConfusion (show false=true from p)
 | .set _,_,_,p,_=>Bool.noConfusion (show false=true from p)
 | .frozenset _,_,_,p,_=>Bool.noConfusion (show false=true from p)
 | .obj _ _,_,_,p,_=>Bool.noConfusion (show false=true from p)
theorem iV:∀(ds:List WData) (vs:List Value),WellAll P h vs ds→cH ds=true→(∀d∈ds,d.weight≤1048576)→∃A:List Addr,(∀u∈vs,OkU A u)∧∀a∈A,cK h A a
 | [],_,x,_,_=>by
  cases x
  exact ⟨[],fun u m=>absurd m (by simp),fun a m=>absurd m (by simp)⟩
 | d::ds,_,x,p,z=>by
  obtain ⟨v,vs,rfl,x1,x2⟩:=sU x
  have q:plW d=true∧cH ds=true:=Bool.and_eq_true_iff.mp p
  obtain ⟨A,a1,a2⟩:=aEd d v x1 q.1 (z d (List.mem_cons_self ..))
  obtain ⟨B,b1,b2⟩:=iV ds vs x2 q.2 fun e he=>z e (List.mem_cons_of_mem _ he)
  have kA:∀b∈A,b∈A++B:=fun b hb=>List.mem_append.mpr (.inl hb)
  have kB:∀b∈B,b∈A++B:=fun b hb=>List.mem_append.mpr (.inr hb)
  refine ⟨A++B,fun u hu=>?_,fun b hb=>?_⟩
  ·rcases List.mem_cons.mp hu with e | m
   ·rw[e]
    exact a1.mono kA
   ·exact (b1 u m).mono kB
  ·rcases List.mem_append.mp hb with m | m
   ·exact (a2 b m).mono kA
   ·exact (b2 b m).mono kB
end
end
def jD (o:Obj):Option HO:=match o.data with
 | .seq vs _=>if (o.cls==Value.type "list")=true then some (.frz o (.lst (vs.toList.map toV))) else some (.frz o (.tup (vs.toList.map toV)))
 | _=>none
def bB (K:PySem.W.Frag) (h:Heap) (A:List Addr):Hp:=fun b=>if b∈A then (if (K.lookup b).isNone=true then (h.get? b).bind jD else none) else none
def gL (H:Hp):Prop:=∀b,H b=none∨∃o u,H b=some (.frz o u)
theorem rP (vs:List Value):jD { cls:=.type "list",data:=.seq vs.toArray }=some (.frz { cls:=.type "list",data:=.seq vs.toArray } (.lst (vs.map toV))):=by
 show (if (Value.type "list"==Value.type "list")=true then some (HO.frz { cls:=.type "list",data:=.seq vs.toArray } (.lst (vs.toArray.toList.map toV))) else some (HO.frz { cls:=.type "list",data:=.seq vs.toArray } (.tup (vs.toArray.toList.map toV))))=_
 rw[if_pos (beq_self_eq_true _)]
theorem qM (vs:List Value):jD { cls:=.type "tuple",data:=.seq vs.toArray }=some (.frz { cls:=.type "tuple",data:=.seq vs.toArray } (.tup (vs.map toV))):=by
 show (if (Value.type "tuple"==Value.type "list")=true then some (HO.frz { cls:=.type "tuple",data:=.seq vs.toArray } (.lst (vs.toArray.toList.map toV))) else some (HO.frz { cls:=.type "tuple",data:=.seq vs.toArray } (.tup (vs.toArray.toList.map toV))))=_
 rw[if_neg (by decide)]
section
variable {P:Program} {w:World} {K:PySem.W.Frag} {h:Heap} {A:List Addr}
theorem iH {b:Addr} {o:Obj} (hb:b∈A) (hk:K.lookup b=none) (e:h.get? b=some o):bB K h A b=jD o:=by
 unfold bB
 rw[if_pos hb,hk,if_pos (show (none:Option Obj).isNone=true from rfl),e]<;>rfl
theorem yD {b:Addr} {u:HO} (q:bB K h A b=some u):b∈A∧K.lookup b=none:=by
 unfold bB at q
 by_cases hb:b∈A
 ·rw[if_pos hb] at q
  cases hk:K.lookup b with
  | none=>exact ⟨hb,rfl⟩
  | some o=>
   rw[hk,if_neg (by simp)] at q
   cases q
 ·rw[if_neg hb] at q
  cases q
theorem jF (ar:∀a∈A,cK h A a) {b:Addr} {u:HO} (q:bB K h A b=some u):K.lookup b=none∧∃vs:List Value,vs.length≤sizeLine∧(∀u∈vs,OkU A u) ∧
  ((h.get? b=some { cls:=.type "list",data:=.seq vs.toArray }∧u=.frz { cls:=.type "list",data:=.seq vs.toArray } (.lst (vs.map toV))) ∨
   (h.get? b=some { cls:=.type "tuple",data:=.seq vs.toArray }∧u=.frz { cls:=.type "tuple",data:=.seq vs.toArray } (.tup (vs.map toV)))):=by
 obtain ⟨hb,hk⟩:=yD q
 obtain ⟨vs,h1,h2,h3⟩:=ar b hb
 refine ⟨hk,vs,h1,h2,?_⟩
 rcases h3 with e | e
 ·rw[iH hb hk e,rP] at q
  exact .inl ⟨e,(Option.some.inj q).symm⟩
 ·rw[iH hb hk e,qM] at q
  exact .inr ⟨e,(Option.some.inj q).symm⟩
theorem yN (ar:∀a∈A,cK h A a):gL (bB K h A):=fun b=>by
 cases q:bB K h A b with
 | none=>exact .inl rfl
 | some u=>
  obtain ⟨_,vs,_,_,⟨_,e⟩ | ⟨_,e⟩⟩:=jF ar q
  ·exact .inr ⟨_,_,by rw[e]⟩
  ·exact .inr ⟨_,_,by rw[e]⟩
theorem aGq (ar:∀a∈A,cK h A a):HOk P w (bB K h A) h:=fun b u q=>by
 obtain ⟨_,vs,h1,h2,⟨e,rfl⟩ | ⟨e,rfl⟩⟩:=jF ar q
 ·exact ⟨e,by rw[List.length_map];exact h1,vs,_,fO h2,e⟩
 ·exact ⟨e,by rw[List.length_map];exact h1,vs,fO h2,_,e,rfl,_,rfl⟩
theorem iZ {c c':Value} {vs us:List Value} (e:(some { cls:=c,data:=.seq vs.toArray }:Option Obj)=some { cls:=c',data:=.seq us.toArray }):c=c'∧vs=us:=by
 have e1:=Option.some.inj e
 have e2:c=c':=congrArg Obj.cls e1
 have e3:Data.seq vs.toArray=Data.seq us.toArray:=congrArg Obj.data e1
 injection e3 with e4
 refine ⟨e2,?_⟩
 have e5:=congrArg Array.toList e4
 simpa using e5
theorem aEu (KX:K.In h) (ar:∀a∈A,cK h A a) {a:Addr} {vs:List Value} (ha:a∈A) (e:h.get? a=some { cls:=.type "list",data:=.seq vs.toArray }):(∀u∈vs,OkU A u)∧SqL K (bB K h A) a (vs.map toV):=by
 obtain ⟨us,h1,h2,h3⟩:=ar a ha
 have hu:us=vs:=by
  rcases h3 with q | q
  ·rw[e] at q
   exact (iZ q).2.symm
  ·rw[e] at q
   exact absurd (Value.type.inj (iZ q).1) (by decide)
 subst hu
 refine ⟨h2,?_⟩
 cases hk:K.lookup a with
 | none=>exact .inl (.inr ⟨_,by rw[iH ha hk e,rP]⟩)
 | some o=>
  have e2:=KX a o hk
  rw[e] at e2
  obtain rfl:=Option.some.inj e2
  exact .inr ⟨_,us.toArray,_,hk,rfl,rfl,rfl,by rw[List.size_toArray];exact h1,by simpa using fO h2⟩
theorem aD1 (KX:K.In h) (ar:∀a∈A,cK h A a) {a:Addr} {vs:List Value} (ha:a∈A) (e:h.get? a=some { cls:=.type "tuple",data:=.seq vs.toArray }):(∀u∈vs,OkU A u)∧SqT K (bB K h A) a (vs.map toV):=by
 obtain ⟨us,h1,h2,h3⟩:=ar a ha
 have hu:us=vs:=by
  rcases h3 with q | q
  ·rw[e] at q
   exact absurd (Value.type.inj (iZ q).1) (by decide)
  ·rw[e] at q
   exact (iZ q).2.symm
 subst hu
 refine ⟨h2,?_⟩
 cases hk:K.lookup a with
 | none=>exact .inl (.inr ⟨_,by rw[iH ha hk e,qM]⟩)
 | some o=>
  have e2:=KX a o hk
  rw[e] at e2
  obtain rfl:=Option.some.inj e2
  exact .inr ⟨_,us.toArray,_,hk,rfl,rfl,by rw[List.size_toArray];exact h1,by simpa using fO h2⟩
mutual
theorem wM {Pm:Params} (KX:K.In h) (ar:∀a∈A,cK h A a):∀(d:WData) (v:Value),Well Pm h v d→plW d=true→OkU A v→Dw K (bB K h A) (toV v) d
 | .none,_,x,_,_=>by
  cases x
  exact .non
 | .bool b,_,x,_,_=>by
  cases x
  exact .bl b
 | .int i,_,x,_,_=>by
  cases x
  exact .int i
 | .str s,_,x,_,_=>by
  cases x
  exact .str s
 | .bytes b,_,x,_,_=>by
  cases x
  have z:=Dw.byt (K:=K) (H:=bB K h A) b.toArray
  exact z
 | .list ds,_,x,p,hu=>by
  obtain ⟨a,vs,rfl,ho,hall⟩:=sQ x
  obtain ⟨h2,hs⟩:=aEu KX ar hu ho
  exact .lst hs (jG KX ar ds _ hall p h2)
 | .tuple ds,_,x,p,hu=>by
  obtain ⟨a,vs,rfl,ho,hall⟩:=oV x
  obtain ⟨h2,hs⟩:=aD1 KX ar hu ho
  exact .tup hs (jG KX ar ds _ hall p h2)
 | .float _,_,_,p,_=>Bool.noConfusion (show false=true from p)
 | .dict _,_,_,p,_=>Bool.noConfusion (show false=true from p)
 | .bytearray _,_,_,p,_=>Bool.noConfusion (show false=true from p)
 | .set _,_,_,p,_=>Bool.noConfusion (show false=true from p)
 | .frozenset _,_,_,p,_=>Bool.noConfusion (show false=true from p)
 | .obj _ _,_,_,p,_=>Bool.noConfusion (show false=true from p)
theorem jG {Pm:Params} (KX:K.In h) (ar:∀a∈A,cK h A a):∀(ds:List WData) (vs:List Value),WellAll Pm h vs ds→cH ds=true→(∀u∈vs,OkU A u)→bZ K (bB K h A) (vs.map toV) ds
 | [],_,x,_,_=>by
  cases x
  exact .nil
 | d::ds,_,x,p,hu=>by
  obtain ⟨v,vs,rfl,x1,x2⟩:=sU x
  have q:plW d=true∧cH ds=true:=Bool.and_eq_true_iff.mp p
  exact .cons (wM KX ar d v x1 q.1 (hu _ (List.mem_cons_self ..))) (jG KX ar ds vs x2 q.2 fun u m=>hu u (List.mem_cons_of_mem _ m))
end
end
theorem aDb {P:Program} {w:World} {K:PySem.W.Frag} {mg mb:Str→Option Value} {CX:CXT} {k:Nat} {fa:Addr} {fd:FuncData} {ps:List Str} {sp:Sp} {s₁:Shared} {vals:List Value} {ds:List WData} {R:PySem.W.WRecords} {cl:Str→Option Addr} {d0:WData}
  (KX:K.In s₁.heap) (hns:s₁.heap.Ns mainGlobals mg) (hb:s₁.heap.Ns builtinsNs mb) (hbb:∀x:Str,x≠"__name__"→mb x=bootBuiltins x) (hlim:s₁.heap.NoLimit) (hg:s₁.gens = #[])
  (hwl:WellAll w.params s₁.heap vals ds) (hpl:cH ds=true) (hwt:∀d∈ds,d.weight≤1048576) (hr:aJ k callerA)
  (F:∀base:Heap,K.In base→base.Ns mainGlobals mg→aH P w K mg base CX k fa fd ps sp) (hbind:∀(s:Shared) (us:List Value),us.length=ps.length→BindsTo s fd ⟨us,[]⟩ (ps.zip us)) (hlen:ds.length=ps.length)
  (hsp:∀(H:Hp) (xs:List V),gL H→bZ K H xs ds→sp xs H (fun v H'=>Dw K H' v d0) fun _ _ _=>False)
  (hCX:∀H e s',CX [] H s₁ (fun _ _ _=>False) e s'→False) :
  codeAny (model P w) callerA (.call (.ref fa) ⟨vals,[]⟩) (fun r s'=>∃u as,r=.ok (.ret u)∧ReadsW R cl s'.heap u d0 as∧OldK s₁.heap s'.heap∧s'.os=s₁.os∧AllBare s'.gens) s₁:=by
 obtain ⟨A,ho,ar⟩:=iV ds vals hwl hpl hwt
 have hO:gL (bB K s₁.heap A):=yN ar
 have hok:HOk P w (bB K s₁.heap A) s₁.heap:=aGq ar
 have hS:=jG KX ar ds vals hwl hpl ho
 have hV:=fO ho
 have hK:∀b u,bB K s₁.heap A b=some u→K.lookup b=none:=fun b u q=>(jF ar q).1
 have noA:∀{b:Addr} {o:Obj} {es:Array DictEntry} {ep:Nat},s₁.heap.get? b=some o→o.data=.dict es ep→bB K s₁.heap A b=none:=fun {b o es ep} e d=>by
  cases q:bB K s₁.heap A b with
  | none=>rfl
  | some u=>
   obtain ⟨_,vs,_,_,⟨e2,_⟩ | ⟨e2,_⟩⟩:=jF ar q
   ·rw[e2] at e
    cases e
    have d':Data.seq vs.toArray _=Data.dict es ep:=d
    cases d'
   ·rw[e2] at e
    cases e
    have d':Data.seq vs.toArray _=Data.dict es ep:=d
    cases d'
 generalize bB K s₁.heap A=H at hO hok hS hK noA
 have base_of:∀{b:Addr} {o:Obj},s₁.heap.get? b=some o→H b=none→(dA s₁.heap H).get? b=some o:=fun e n=>aCz e n
 have nsK:∀{b:Addr} {m:Str→Option Value},s₁.heap.Ns b m→(dA s₁.heap H).Ns b m:=fun {b m} ⟨o,es,ep,e,d,r⟩=>⟨o,es,ep,base_of e (noA e d),d,r⟩
 have nK:∀b o,K.lookup b=some o→H b=none:=fun b o e=>by
  cases q:H b with
  | none=>rfl
  | some u=>
   rw[hK b u q] at e
   cases e
 have hKb:K.In (dA s₁.heap H):=fun b o e=>base_of (KX b o e) (nK b o e)
 have hM:Mod K mg (dA s₁.heap H):=⟨hKb,nsK hns,⟨mb,nsK hb,hbb⟩,let ⟨mc,h1,h2⟩:=hlim;⟨mc,nsK h1,h2⟩⟩
 have e0:eG P w K mg (dA s₁.heap H) callerA [] s₁ H:=⟨rfl,hM,fun b o e=>aAk e,Nat.le_of_eq (yU _ _),trivial,fun b hb=>absurd (show b∈([]:List Addr) from hb) (by simp),hok,.of_eq hg⟩
 have hl:vals.length=ps.length:=by rw[jN hwl];exact hlen
 refine codeAny_mono ((F _ hKb (nsK hns)).run callerA [] s₁ H ⟨vals,[]⟩ vals (vals.map toV) _ _ hr e0 (hbind s₁ vals hl) hV (hsp H _ hO hS)) fun r s' x=>?_
 cases r with
 | error e=>exact (hCX H e s' x).elim
 | ok fl=>
  cases fl with
  | next=>exact False.elim x
  | brk=>exact False.elim x
  | cont=>exact False.elim x
  | ret u=>
   obtain ⟨v,H',os,bare,un,hok',r',q⟩:=x
   have kept:∀b o,s₁.heap.get? b=some o→s'.heap.get? b=some o:=fun b o e=>by
    cases q2:H b with
    | none=>exact un.keep b o e q2 (by intro z;exact absurd (show b∈([]:List Addr) from z) (by simp)) (by simp)
    | some u2=>
     rcases hO b with z | ⟨ob,u3,z⟩
     ·rw[q2] at z
      cases z
     ·have z2:=un.frzs b ob _ z
      obtain ⟨e1,_⟩:=hok b _ z
      obtain ⟨e2,_⟩:=hok' b _ z2
      rw[e] at e1
      cases e1
      exact e2
   have KX':K.In s'.heap:=fun b o e=>kept b o (KX b o e)
   obtain ⟨as,hrd⟩:=Dw.reads (R:=R) (cl:=cl) hok' KX' d0 v u q r'
   exact ⟨u,as,rfl,hrd,OldK.of_keep kept,os,bare⟩
theorem xW {ds:List WData} (h:WData.layableAll ds=true):∀d∈ds,d.weight≤1048576:=fun d hd=>
 (PySem.W.layableW_iff.mp (List.all_eq_true.mp h d hd)).2.2
theorem sP:∀(cs:List Codec) (a:Codec.denoteAll cs),(Codec.encAll cs a).length=cs.length
 | [],_=>rfl
 | c::cs,a=>by
  show (Codec.encAll cs a.2).length+1=cs.length+1
  rw[sP cs a.2]
theorem aAg {r:OpenSpec} {k:Nat} {q:Program} {loose:List Str} {XP:(Str→Option Value)→Heap→Prop} {YP:World→Heap→Prop} {d:DefRec} {K:Params→PySem.W.Frag} {CX:World→CXT} {ps:List Str} {sp:World→Sp}
  (hwell:r.wellSaid=true) (hdf:d.params.defaults=[]) (hlen:r.args.length=ps.length) (hr:aJ k callerA)
  (hY:∀(w:World) (h:Heap),YP w h→(K w.params).In h)
  (F:∀(w:World) (mg:Str→Option Value) (fa:Addr) (h:Heap),YP w h→(K w.params).In h→h.Ns mainGlobals mg→mg d.name=some (.ref fa) →
   ∃fd:FuncData,(∀(s:Shared) (us:List Value),us.length=ps.length→BindsTo s fd ⟨us,[]⟩ (ps.zip us)) ∧
    ∀base:Heap,(K w.params).In base→base.Ns mainGlobals mg→aH r.prog w (K w.params) mg base (CX w) k fa fd ps (sp w))
  (hsp:∀(w:World) (H:Hp) (xs:List V) (a:Codec.denoteAll r.args),gL H→Codec.withinAll r.args a=true→Codec.app r.args r.asked a=true→bZ (K w.params) H xs (Codec.encAll r.args a) →
   sp w xs H (fun v H'=>Dw (K w.params) H' v (r.ret.enc (Codec.app r.args r.f a))) fun _ _ _=>False)
  (hCX:∀(w:World) (H:Hp) (s:Shared) (e:Value) (s':Shared),CX w [] H s (fun _ _ _=>False) e s'→False) :
  PySem.W.WalkOS q loose XP YP r d [] (fun f vs=>PySem.call f vs):=by
 intro w s_0 s₁ mg mb G Y fa o pm cd doc dV kV ho hd hcd hD hmg hg args vals as hpre hlay hrd hwl hlo
 obtain ⟨a,e1,e2⟩:=PySem.W.os_pre_some hpre
 obtain ⟨e3,hwi⟩:=Codec.encAll_of_decAll r.args args a e1
 subst e3
 have KX:=hY w _ Y
 obtain ⟨fd,hb,hF⟩:=F w mg fa _ Y KX G.T.g hmg
 refine PySem.W.enter_call (codeAny_mono (aDb (R:=[]) (cl:=classAt s_0.heap) (d0:=r.ret.enc (Codec.app r.args r.f a)) KX G.T.g G.T.b G.T.builtins G.T.nolimit hg hwl (rD _ _) (xW hlay) hr hF hb (by rw[sP];exact hlen)
  (fun H xs hO hS=>hsp w H xs a hO hwi e2 hS) fun H e s'=>hCX w H s₁ e s') fun r' s' hq=>?_)
 obtain ⟨u,as',rfl,h1,h2,h3,h4⟩:=hq
 exact ⟨.inl ⟨u,_,as',rfl,fun _=>rfl,h1,(OpenSpec.post_iff hwell hwi _ _).mpr rfl,fun z=>Bool.noConfusion (show false=true from z)⟩,h2,h3,h4⟩
theorem aGb {r:OpenSpec} {k:Nat} {q:Program} {loose:List Str} {XP:(Str→Option Value)→Heap→Prop} {YP:World→Heap→Prop} {d:DefRec} {K:Params→PySem.W.Frag} {CX:CXT} {ps:List Str} {sp:PySem.W.Frag→Sp}
  (hwell:r.wellSaid=true) (hdf:d.params.defaults=[]) (hlen:r.args.length=ps.length) (hr:aJ k callerA)
  (hY:∀(w:World) (h:Heap),YP w h→(K w.params).In h)
  (F:∀(w:World) (mg:Str→Option Value) (fa:Addr) (h:Heap),YP w h→(K w.params).In h→h.Ns mainGlobals mg→mg d.name=some (.ref fa) →
   ∃fd:FuncData,(∀(s:Shared) (us:List Value),us.length=ps.length→BindsTo s fd ⟨us,[]⟩ (ps.zip us)) ∧
    ∀base:Heap,(K w.params).In base→base.Ns mainGlobals mg→aH r.prog w (K w.params) mg base CX k fa fd ps (sp (K w.params)))
  (hsp:∀(K:PySem.W.Frag) (H:Hp) (xs:List V) (a:Codec.denoteAll r.args),gL H→Codec.withinAll r.args a=true→Codec.app r.args r.asked a=true→bZ K H xs (Codec.encAll r.args a) →
   sp K xs H (fun v H'=>Dw K H' v (r.ret.enc (Codec.app r.args r.f a))) fun _ _ _=>False)
  (hCX:∀(H:Hp) (s:Shared) (e:Value) (s':Shared),CX [] H s (fun _ _ _=>False) e s'→False) :
  PySem.W.WalkOS q loose XP YP r d [] (fun f vs=>PySem.call f vs):=
 aAg (K:=K) (CX:=fun _=>CX) (sp:=fun w=>sp (K w.params)) hwell hdf hlen hr hY F (fun w H xs a h1 h2 h3 h4=>hsp (K w.params) H xs a h1 h2 h3 h4) fun _ H s e s'=>hCX H s e s'
end L2
end
end

section
set_option maxRecDepth 100000
namespace Arm
open PySem
structure S where
 regs:List Int
 high:List Int
 banks:List Int
 status:Int
 saved:List Int
 mem:Int→Int
def S.reg (s:S) (i:Int):Int:=s.regs.getD i.toNat 0
def S.hi (s:S) (i:Int):Int:=s.high.getD i.toNat 0
def S.bk (s:S) (i:Int):Int:=s.banks.getD i.toNat 0
def S.aT (s:S) (i v:Int):S:={ s with regs:=s.regs.set i.toNat v }
def S.dE (s:S) (i v:Int):S:={ s with banks:=s.banks.set i.toNat v }
def S.bP (s:S) (i v:Int):S:={ s with saved:=s.saved.set i.toNat v }
def S.bI (s:S) (v:Int):S:={ s with status:=v }
def S.cO (s:S) (i v:Int):S:={ s with mem:=fun j=>if j=i then v else s.mem j }
def dC (l:List (Int×Int)) (k:Int):Option Int:=(l.find? fun kv=>decide (kv.1=k)).map (·.2)
def bM (l:List (Int×Int)) (k:Int):Bool:=(dC l k).isSome
def dAt (l:List (Int×Int)) (k:Int):Int:=(dC l k).getD 0
def Wd (v:Int):Prop:=0≤v∧v<4294967296
structure WF (s:S):Prop where
 lr:s.regs.length=16
 lh:s.high.length=7
 lb:s.banks.length=10
 ls:s.saved.length=5
 wr:∀x∈s.regs,Wd x
 wh:∀x∈s.high,Wd x
 wb:∀x∈s.banks,Wd x
 ws:∀x∈s.saved,Wd x
 wst:Wd s.status
 wm:∀i,0≤s.mem i∧s.mem i<4294967296
theorem jB {l:List Int} (h:∀x∈l,Wd x) (n:Nat):Wd (l.getD n 0):=by
 rw[List.getD_eq_getElem?_getD]
 cases e:l[n]? with
 | none=>exact ⟨by decide,by decide⟩
 | some v=>exact h v (List.mem_of_getElem? e)
theorem WF.rr {s:S} (h:WF s) (i:Int):0≤s.reg i∧s.reg i<4294967296:=jB h.wr _
theorem WF.rh {s:S} (h:WF s) (i:Int):0≤s.hi i∧s.hi i<4294967296:=jB h.wh _
theorem WF.rb {s:S} (h:WF s) (i:Int):0≤s.bk i∧s.bk i<4294967296:=jB h.wb _
theorem mS {l:List Int} (h:∀x∈l,Wd x) {n:Nat} {v:Int} (hv:Wd v):∀x∈l.set n v,Wd x:=fun x hx=>by
 rcases List.mem_or_eq_of_mem_set hx with q | q
 ·exact h x q
 ·exact q▸hv
theorem WF.aT {s:S} (h:WF s) {i v:Int} (hv:Wd v):WF (s.aT i v):=⟨(List.length_set ..).trans h.lr,h.lh,h.lb,h.ls,mS h.wr hv,h.wh,h.wb,h.ws,h.wst,h.wm⟩
theorem WF.dE {s:S} (h:WF s) {i v:Int} (hv:Wd v):WF (s.dE i v):=⟨h.lr,h.lh,(List.length_set ..).trans h.lb,h.ls,h.wr,h.wh,mS h.wb hv,h.ws,h.wst,h.wm⟩
theorem WF.bP {s:S} (h:WF s) {i v:Int} (hv:Wd v):WF (s.bP i v):=⟨h.lr,h.lh,h.lb,(List.length_set ..).trans h.ls,h.wr,h.wh,h.wb,mS h.ws hv,h.wst,h.wm⟩
theorem WF.bI {s:S} (h:WF s) {v:Int} (hv:Wd v):WF (s.bI v):=⟨h.lr,h.lh,h.lb,h.ls,h.wr,h.wh,h.wb,h.ws,hv,h.wm⟩
theorem WF.cO {s:S} (h:WF s) {i v:Int} (hv:0≤v∧v<4294967296):WF (s.cO i v):=⟨h.lr,h.lh,h.lb,h.ls,h.wr,h.wh,h.wb,h.ws,h.wst,fun j=>by
 show 0≤(if j=i then v else s.mem j)∧(if j=i then v else s.mem j)<4294967296
 by_cases e:j=i
 ·rw[if_pos e];exact hv
 ·rw[if_neg e];exact h.wm j⟩
theorem eJ {α:Type} {b:Bool} {x y:α} (h:b=true):cond b x y=x:=by rw[h];rfl
theorem dG {α:Type} {b:Bool} {x y:α} (h:b=false):cond b x y=y:=by rw[h];rfl
def aV:List (Int×Int):=[(16,0),(31,0),(18,2),(19,4),(23,6),(27,8)]
def cW:List (Int×Int):=[(17,0),(18,1),(19,2),(23,3),(27,4)]
def M.bit (word number:Int):Int:=(Builtin.bitAnd (word/2^Int.toNat number) 1)
def M.bN (s:S) (place:Int):Int:=((s).mem (Builtin.bitAnd place 1048572))
def M.eY (s:S) (place:Int):Int:=(Builtin.bitAnd ((M.bN s place)/2^Int.toNat (8*(Builtin.bitAnd place 3))) 255)
def M.fA (s:S) (place value:Int):S:=S.cO s (Builtin.bitAnd place 1048572) value
def M.jJ (s:S) (place value part shift:Int):S:=M.fA s place (Builtin.bitOr (Builtin.bitAnd (M.bN s place) (Builtin.bitNot (part*2^Int.toNat shift))) ((Builtin.bitAnd value part)*2^Int.toNat shift))
def M.cD (s:S) (place value:Int):S:=M.jJ s place value 255 (8*(Builtin.bitAnd place 3))
def M.bG (status:Int):Int:=(Builtin.bitAnd status 31)
def M.fX (status:Int):Bool:=((bM aV (M.bG status))||(bM cW (M.bG status)))
def M.jQ (s:S) :Bool:=(bM cW (M.bG (s).status))
def M.iP (s:S) (status:Int):S:=S.bP s (dAt cW (M.bG (s).status)) status
def M.cP (s:S) (start:Int):S:=let s2:=S.dE s start ((s).reg 13);S.dE (s2) (start+1) ((s2).reg 14)
def M.dW (s:S) (start:Int):S:=let s2:=S.aT s 13 ((s).bk start);S.aT (s2) 14 ((s2).bk (start+1))
def M.cC (s:S):S:={ s with regs:=s.regs.take 8++(s.high++s.regs.drop 15),high:=(s.regs.drop 8).take 7 }
def M.cN (s:S) (status:Int):S:=let old:=(M.bG (s).status);let new:=(M.bG status);let s2:=S.bI s status;let s3:=cond (bM aV old) (M.cP (s2) (dAt aV old)) (s2);let s4:=cond (!((decide (old=17))==(decide (new=17)))) (M.cC (s3)) (s3);cond (bM aV new) (M.dW (s4) (dAt aV new)) (s4)
def M.fQ (s:S) (mode place back:Int):S:=let old:=(s).status;let kept_out:=(cond (decide (mode=17)) (Builtin.bitOr 128 64) 128);let s2:=M.cN s (Builtin.bitOr (Builtin.bitOr (Builtin.bitAnd old (Builtin.bitNot 31)) mode) kept_out);let s3:=M.iP (s2) old;let s4:=S.aT (s3) 14 back;S.aT (s4) 15 place
def M.dI (s:S) :Bool:=((!(M.fX (s).status))||(!decide ((Builtin.bitAnd ((s).reg 15) 3)=0)))
end Arm
end

section
set_option maxRecDepth 100000
namespace Arm
open PySem PyProof.Rows
theorem bW (x y:Int) (hy:0≤y:=by decide):0≤Builtin.bitAnd x y∧Builtin.bitAnd x y≤y:=bitAnd_range x hy
theorem pS (x y:Int) (hy:0≤y:=by decide):0≤Builtin.bitAnd y x∧Builtin.bitAnd y x≤y:=by rw[bitAnd_comm];exact bitAnd_range x hy
theorem M.jC (v:Int):0≤M.bG v∧M.bG v≤31:=bW _ 31
theorem M.oS {s:S} (h:WF s) (n:Int):0≤M.bN s n∧M.bN s n<4294967296:=h.wm _
end Arm
end

section
set_option maxRecDepth 100000
namespace Arm
open PySem PyProof.Rows
theorem dY (a b:Nat):Builtin.bitAnd (a:Int) (b:Int)=((a&&&b:Nat):Int):=by
 rw[bitAnd_pp (Int.natCast_nonneg a) (Int.natCast_nonneg b)];rfl
theorem eT (a b:Nat):Builtin.bitOr (a:Int) (b:Int)=((a|||b:Nat):Int):=by
 unfold Builtin.bitOr
 have e:∀n:Nat,¬(0:Int)≤Builtin.bitNot (n:Int):=fun n=>by unfold Builtin.bitNot;omega
 have e2:∀n:Nat,Builtin.bitNot (Builtin.bitNot (n:Int))=(n:Int):=fun n=>by unfold Builtin.bitNot;omega
 rw[bitAnd_nn (e a) (e b),e2,e2]
 have e3:∀n:Nat,Builtin.bitNot (Builtin.bitNot ((n:Nat):Int))=(n:Int):=e2
 rw[e3]
 rfl
theorem yQ:∀(a b:Nat),a+b=(a^^^b)+2*(a&&&b):=by
 intro a
 induction a using Nat.strongRecOn with
 | _ a ih=>
  intro b
  by_cases h:a=0
  ·subst h;simp
  ·have h1:=ih (a/2) (by omega) (b/2)
   have x1:(a^^^b)/2=a/2^^^b/2:=Nat.xor_div_two
   have x2:(a&&&b)/2=a/2&&&b/2:=Nat.and_div_two
   have x3:(a^^^b)%2=1↔¬(a%2=1↔b%2=1):=by
    rw[Nat.mod_two_eq_one_iff_testBit_zero,Nat.mod_two_eq_one_iff_testBit_zero,Nat.mod_two_eq_one_iff_testBit_zero,Nat.testBit_xor]
    cases a.testBit 0<;>cases b.testBit 0<;>decide
   have x4:(a&&&b)%2=1↔a%2=1∧b%2=1:=Nat.and_mod_two_eq_one
   rw[←x1,←x2] at h1
   omega
theorem mask (x:Int) (k:Nat):Builtin.bitAnd x (((2^k:Nat):Int)-1)=x%((2^k:Nat):Int):=by
 have p:0<2^k:=Nat.two_pow_pos k
 have e:(((2^k:Nat):Int)-1)=((2^k-1:Nat):Int):=by omega
 rw[e]
 by_cases hx:0≤x
 ·obtain ⟨n,rfl⟩:=Int.eq_ofNat_of_zero_le hx
  rw[dY,Nat.and_two_pow_sub_one_eq_mod]
  exact Int.natCast_emod n (2^k)
 ·rw[bitAnd_np hx (by omega)]
  have e2:((2^k-1:Nat):Int).toNat=2^k-1:=rfl
  rw[e2,Nat.and_comm,Nat.and_two_pow_sub_one_eq_mod]
  obtain ⟨n,hn⟩:∃n:Nat,Builtin.bitNot x=(n:Int):=⟨(Builtin.bitNot x).toNat,by unfold Builtin.bitNot;omega⟩
  have hx2:x = -(n:Int)-1:=by unfold Builtin.bitNot at hn;omega
  rw[hn,hx2,Int.toNat_natCast]
  have d:=Nat.div_add_mod n (2^k)
  have m:=Nat.mod_lt n p
  have q:(-(n:Int)-1)=((2^k:Nat):Int)*(-((n/2^k:Nat):Int)-1)+(((2^k:Nat):Int)-1-((n%2^k:Nat):Int)):=by
   have d2:((2^k:Nat):Int)*((n/2^k:Nat):Int)+((n%2^k:Nat):Int)=(n:Int):=by exact_mod_cast d
   rw[Int.mul_sub,Int.mul_neg,Int.mul_one]
   omega
  rw[q,Int.add_comm,Int.add_mul_emod_self_left,Int.emod_eq_of_lt (by omega) (by omega)]
  omega
theorem pY (k:Nat):(2:Int)^k=((2^k:Nat):Int):=by
 rw[Int.natCast_pow];rfl
theorem M.wN (x n:Int):M.bit x n=x/((2^n.toNat:Nat):Int)%2:=by
 unfold M.bit
 rw[pY,bitAnd_m1]
theorem M.aC2 (w:Nat) (n:Int):M.bit (w:Int) n=((w/2^n.toNat%2:Nat):Int):=by
 rw[M.wN]
 rw[Int.natCast_emod,Int.natCast_ediv];rfl
theorem M.xA (w:Nat) (n:Int):M.bit (w:Int) n=if w.testBit n.toNat=true then 1 else 0:=by
 rw[M.aC2,Nat.testBit_eq_decide_div_mod_eq]
 have:=Nat.mod_two_eq_zero_or_one (w/2^n.toNat)
 rcases this with e | e
 ·rw[e,if_neg (by decide)];rfl
 ·rw[e,if_pos (by decide)];rfl
theorem M.uW (w:Nat) (n:Int):decide (M.bit (w:Int) n=1)=w.testBit n.toNat:=by
 rw[M.xA]
 cases w.testBit n.toNat<;>decide
end Arm
end

section
set_option maxRecDepth 100000
namespace Arm
open PySem PyProof.Rows
theorem aFg {a b:Int} (k:Nat) (ha:0≤a∧a<((2^k:Nat):Int)) (hb:0≤b∧b<((2^k:Nat):Int)):0≤Builtin.bitOr a b∧Builtin.bitOr a b<((2^k:Nat):Int):=by
 obtain ⟨m,rfl⟩:=Int.eq_ofNat_of_zero_le ha.1
 obtain ⟨n,rfl⟩:=Int.eq_ofNat_of_zero_le hb.1
 rw[eT]
 have:=Nat.or_lt_two_pow (x:=m) (y:=n) (n:=k) (by omega) (by omega)
 omega
theorem nQ {a b:Int} (ha:0≤a∧a<4294967296) (hb:0≤b∧b<4294967296):0≤Builtin.bitOr a b∧Builtin.bitOr a b<4294967296:=aFg 32 ha hb
theorem uI (l:List (Int×Int)) (n:Int) (hn:0≤n) (h:∀kv∈l,0≤kv.2∧kv.2≤n) (k:Int):0≤dAt l k∧dAt l k≤n:=by
 unfold dAt dC
 cases e:l.find? fun kv=>decide (kv.1=k) with
 | none=>exact ⟨Int.le_refl 0,hn⟩
 | some kv=>exact h kv (List.mem_of_find?_eq_some e)
theorem vI (k:Int):0≤dAt aV k∧dAt aV k≤8:=uI _ 8 (by decide) (by decide) k
theorem aEp (k:Int):0≤dAt cW k∧dAt cW k≤4:=uI _ 4 (by decide) (by decide) k
end Arm
namespace Arm
open PySem PyProof.Rows
theorem aB7 (a b:Nat) (h:a&&&b=0) (x:Int):Builtin.bitAnd x ((a|||b:Nat):Int)=Builtin.bitAnd x (a:Int)+Builtin.bitAnd x (b:Int):=by
 have key:∀m:Nat,m&&&(a|||b)=(m&&&a)+(m&&&b):=fun m=>by
  have h1:=nat_or_add_and (m&&&a) (m&&&b)
  have h2:(m&&&a)&&&(m&&&b)=0:=by
   apply Nat.eq_of_testBit_eq
   intro i
   have:=congrArg (fun z=>Nat.testBit z i) h
   simp only[Nat.testBit_and,Nat.zero_testBit] at this ⊢
   cases m.testBit i<;>simp_all
  rw[h2,←Nat.and_or_distrib_left] at h1
  omega
 by_cases hx:0≤x
 ·obtain ⟨n,rfl⟩:=Int.eq_ofNat_of_zero_le hx
  rw[dY,dY,dY,key]
  omega
 ·rw[bitAnd_np hx (by omega),bitAnd_np hx (by omega),bitAnd_np hx (by omega)]
  have e1:∀z:Nat,((z:Int)).toNat=z:=fun z=>rfl
  rw[e1,e1,e1]
  have k2:=key (Builtin.bitNot x).toNat
  rw[Nat.and_comm (a|||b),Nat.and_comm a,Nat.and_comm b,k2]
  have k3:=nat_or_add_and a b
  rw[h] at k3
  omega
theorem sS (x:Int):Builtin.bitAnd x 1048572=x%1048576-x%4:=by
 have h:=aB7 1048572 3 (by decide) x
 have m:=mask x 20
 rw[show ((1048572|||3:Nat):Int)=((2^20:Nat):Int)-1 by decide,m] at h
 have h2:Builtin.bitAnd x ((3:Nat):Int)=x%4:=bitAnd_m2 x
 rw[h2] at h
 have h3:Builtin.bitAnd x ((1048572:Nat):Int)=Builtin.bitAnd x 1048572:=rfl
 rw[h3] at h
 show _=x%((2^20:Nat):Int)-x%4
 omega
theorem kM (n:Int):((255:Int)=255∧(8*Builtin.bitAnd n 3=0∨8*Builtin.bitAnd n 3=8∨8*Builtin.bitAnd n 3=16∨8*Builtin.bitAnd n 3=24))∨((255:Int)=65535∧(8*Builtin.bitAnd n 3=0∨8*Builtin.bitAnd n 3=16)):=by
 have:=bW n 3
 omega
def fV (part shift:Int):Prop:=(part=255∧(shift=0∨shift=8∨shift=16∨shift=24))∨(part=65535∧(shift=0∨shift=16))
theorem wA {p k:Int} (h:fV p k):∃m:Int,2^Int.toNat k=m∧0<m∧0<p∧p*m<4294967296:=by
 unfold fV at h
 rcases h with ⟨rfl,rfl | rfl | rfl | rfl⟩ | ⟨rfl,rfl | rfl⟩
 ·exact ⟨1,by decide,by decide,by decide,by decide⟩
 ·exact ⟨256,by decide,by decide,by decide,by decide⟩
 ·exact ⟨65536,by decide,by decide,by decide,by decide⟩
 ·exact ⟨16777216,by decide,by decide,by decide,by decide⟩
 ·exact ⟨1,by decide,by decide,by decide,by decide⟩
 ·exact ⟨65536,by decide,by decide,by decide,by decide⟩
theorem lB {p k v:Int} (h:fV p k):0≤k∧k≤1000000∧-18446744073709551616<Builtin.bitAnd v p∧Builtin.bitAnd v p<18446744073709551616:=by
 have hp:0≤p:=by unfold fV at h;omega
 have:=bW v p hp
 unfold fV at h
 omega
theorem jP {s:S} (hw:WF s) {p k v n:Int} (h:fV p k):0≤Builtin.bitOr (Builtin.bitAnd (M.bN s n) (Builtin.bitNot (p*2^Int.toNat k))) (Builtin.bitAnd v p*2^Int.toNat k)∧Builtin.bitOr (Builtin.bitAnd (M.bN s n) (Builtin.bitNot (p*2^Int.toNat k))) (Builtin.bitAnd v p*2^Int.toNat k)<4294967296:=by
 obtain ⟨m,em,m0,p0,pm⟩:=wA h
 rw[em]
 have h1:=M.oS hw n
 have h2:=bW v p (Int.le_of_lt p0)
 have h3:0≤Builtin.bitAnd (M.bN s n) (Builtin.bitNot (p*m))∧Builtin.bitAnd (M.bN s n) (Builtin.bitNot (p*m))≤M.bN s n:=by
  rw[bitAnd_not]
  have:=pS (p*m) (M.bN s n) h1.1
  omega
 have h4:0≤Builtin.bitAnd v p*m:=Int.mul_nonneg h2.1 (Int.le_of_lt m0)
 have h5:Builtin.bitAnd v p*m≤p*m:=Int.mul_le_mul_of_nonneg_right h2.2 (Int.le_of_lt m0)
 exact nQ ⟨h3.1,by omega⟩ ⟨h4,by omega⟩
theorem xB (s:S) (n:Int):(M.dW s n).status=s.status:=rfl
theorem wL (s:S):(M.cC s).status=s.status:=rfl
theorem vC (s:S) (st:Int):(M.cN s st).status=st:=by
 unfold M.cN
 show (cond _ (M.dW _ _) _).status=st
 have h1:∀b:Bool,∀x y:S,x.status=st→y.status=st→(cond b x y).status=st:=fun b x y hx hy=>by
  cases b
  ·exact hy
  ·exact hx
 have h2:∀b:Bool,(cond b (M.cP (S.bI s st) (dAt aV (M.bG s.status))) (S.bI s st)).status=st:=fun b=>h1 b _ _ rfl rfl
 have h3:∀(b c:Bool),(cond c (M.cC (cond b (M.cP (S.bI s st) (dAt aV (M.bG s.status))) (S.bI s st))) (cond b (M.cP (S.bI s st) (dAt aV (M.bG s.status))) (S.bI s st))).status=st:=
  fun b c=>h1 c _ _ (by rw[wL];exact h2 b) (h2 b)
 refine h1 _ _ _ ?_ ?_
 ·rw[xB];exact h3 _ _
 ·exact h3 _ _
def fE (mode:Int):Int:=cond (decide (mode=17)) (Builtin.bitOr 128 64) 128
def eC (old mode:Int):Int:=Builtin.bitOr (Builtin.bitOr (Builtin.bitAnd old (Builtin.bitNot 31)) mode) (fE mode)
theorem pJ:fE 17=((192:Nat):Int):=by
 show Builtin.bitOr ((128:Nat):Int) ((64:Nat):Int)=_
 rw[eT];rfl
theorem uS {m:Int} (h:m≠17):fE m=((128:Nat):Int):=by
 unfold fE
 rw[decide_eq_false h];rfl
theorem rX (m:Int):∃b:Nat,fE m=(b:Int)∧b<4294967296∧b%32=0:=by
 by_cases h:m=17
 ·exact ⟨192,by rw[h];exact pJ,by decide,by decide⟩
 ·exact ⟨128,uS h,by decide,by decide⟩
def fB (mode:Int):Prop:=mode=17∨mode=18∨mode=19∨mode=23∨mode=27
theorem kY {m:Int} (h:fB m):0≤m∧m<32:=by unfold fB at h;omega
theorem fR {old mode:Int} (ho:0≤old∧old<4294967296) (h:fB mode):0≤eC old mode∧eC old mode<4294967296:=by
 have h1:0≤Builtin.bitAnd old (Builtin.bitNot 31)∧Builtin.bitAnd old (Builtin.bitNot 31)≤old:=by
  rw[bitAnd_not]
  have:=pS 31 old ho.1
  omega
 have h2:=kY h
 obtain ⟨b,eb,hb,_⟩:=rX mode
 exact nQ (nQ ⟨by omega,by omega⟩ ⟨by omega,by omega⟩) ⟨by omega,by omega⟩
theorem pE (a b k:Nat):(a|||b)%2^k=(a%2^k)|||(b%2^k):=by
 apply Nat.eq_of_testBit_eq
 intro i
 simp only[Nat.testBit_mod_two_pow,Nat.testBit_or]
 cases decide (i<k)<;>simp
theorem qT {old mode:Int} (ho:0≤old∧old<4294967296) (h:fB mode):M.bG (eC old mode)=mode:=by
 obtain ⟨o,rfl⟩:=Int.eq_ofNat_of_zero_le ho.1
 obtain ⟨m,rfl⟩:=Int.eq_ofNat_of_zero_le (kY h).1
 have hm:=kY h
 have e0:Builtin.bitAnd (o:Int) (Builtin.bitNot 31)=((o-o%32:Nat):Int):=by
  rw[bitAnd_not,bitAnd_m5]
  have:=Nat.mod_le o 32
  omega
 obtain ⟨b,eb,_,hb⟩:=rX (m:Int)
 unfold eC M.bG
 rw[e0,eT,eb,eT,bitAnd_m5]
 have e1:(o-o%32|||m|||b)%2^5=m:=by
  rw[pE,pE]
  have q1:(o-o%32)%2^5=0:=by show (o-o%32)%32=0;omega
  have q2:b%2^5=0:=hb
  have q3:m%2^5=m:=Nat.mod_eq_of_lt (by show m<32;omega)
  rw[q1,q2,q3];simp
 have e2:(o-o%32|||m|||b)%32=m:=e1
 omega
theorem fG {s:S} {old mode:Int} (ho:0≤old∧old<4294967296) (h:fB mode):M.jQ (M.cN s (eC old mode))=true:=by
 unfold M.jQ
 rw[vC,qT ho h]
 rcases h with h | h | h | h | h<;>subst h<;>decide
end Arm
end

section
set_option maxRecDepth 100000
namespace Arm
open PySem PySem.Spec PyProof.Rows L2
class Stb (P:Hp→Prop):Prop where
 st:∀{H H':Hp},aB H H'→P H→P H'
theorem aB.new {H:Hp} {p:Addr} {o:HO} (h:H p=none):aB H (upd H p o):=fun b u e=>by
 rw[aE (bV e h)];exact e
instance aHg {H0:Hp}:Stb (aB H0):=⟨fun h k=>aB.trans k h⟩
def Ev (X:Cx) (σ:L2.St) (P:Hp→Prop) (e:Expr) (v:V):Prop:=
 ∀(pins:List (Addr×Obj)) (s:Shared) (H:Hp) (Q:VK),L2.Inv X pins σ H s→P H→(∀H',aB H H'→Q v H')→wpAny (model X.prog X.w) X.A (eval e X.env) (EP X pins σ Q) X.xe s
def Tv (X:Cx) (σ:L2.St) (P:Hp→Prop) (e:Expr) (b:Bool):Prop:=
 ∀(pins:List (Addr×Obj)) (s:Shared) (H:Hp) (Q:Bool→Hp→Prop),L2.Inv X pins σ H s→P H→(∀H',aB H H'→Q b H')→wpAny (model X.prog X.w) X.A (isTrue e X.env (eval e X.env)) (TP X pins σ Q) X.xe s
def EvL (X:Cx) (σ:L2.St) (P:Hp→Prop) (es:List Expr) (vs:List V):Prop:=
 ∀(pos:Pos) (pins:List (Addr×Obj)) (s:Shared) (H:Hp) (Q:List V→Hp→Prop),L2.Inv X pins σ H s→P H→(∀H',aB H H'→Q vs H')→wpAny (model X.prog X.w) X.A (spliced (backTo pos (starEach es X.env))) (AP X pins σ Q) X.xe s
def Sts (X:Cx) (σ:L2.St) (P:Hp→Prop) (sts:List Stmt) (D:Ends):Prop:=
 ∀(pins:List (Addr×Obj)) (s:Shared) (H:Hp),L2.Inv X pins σ H s→P H→wpAny (model X.prog X.w) X.A (execs sts X.env) (SP X pins D) X.xe s
def tEv (σ:L2.St) (P:Hp→Prop) (v:V):TE:=fun σ' H Q=>σ'=σ∧P H∧∀H',aB H H'→Q v H'
def tTv (σ:L2.St) (P:Hp→Prop) (b:Bool):TT:=fun σ' H Q=>σ'=σ∧P H∧∀H',aB H H'→Q b H'
def pL (σ:L2.St) (P:Hp→Prop) (vs:List V):TA:=fun σ' H Q=>σ'=σ∧P H∧∀H',aB H H'→Q vs H'
def aCx (X:Cx) (sts:List Stmt):TS:=fun D σ H=>∃P:Hp→Prop,P H∧Sts X σ P sts D
section
variable {X:Cx} {σ:L2.St} {P P':Hp→Prop} {a b c e o:Expr} {es rest:List Expr} {v:V} {i j:Int} {pos p:Pos} {x y:Bool} {vs:List V} {D:Ends}
theorem Ev.pe (h:Ev X σ P e v):PE X e (tEv σ P v):=fun pins s σ' H Q I hq=>by
 obtain ⟨es,hp,k⟩:=hq
 subst es
 exact h pins s H Q I hp k
theorem aR {t:TE} (h:PE X e t) (ht:∀H,P H→∀Q:VK,(∀H',aB H H'→Q v H')→t σ H Q):Ev X σ P e v:=fun pins s H Q I hp k=>h pins s σ H Q I (ht H hp Q k)
theorem Tv.pt (h:Tv X σ P e x):PT X e (tTv σ P x):=fun pins s σ' H Q I hq=>by
 obtain ⟨es,hp,k⟩:=hq
 subst es
 exact h pins s H Q I hp k
theorem gZ {t:TT} (h:PT X e t) (ht:∀H,P H→∀Q:Bool→Hp→Prop,(∀H',aB H H'→Q x H')→t σ H Q):Tv X σ P e x:=fun pins s H Q I hp k=>h pins s σ H Q I (ht H hp Q k)
theorem EvL.pa (h:EvL X σ P es vs):PA X es (pL σ P vs):=fun pos pins s σ' H Q I hq=>by
 obtain ⟨es,hp,k⟩:=hq
 subst es
 exact h pos pins s H Q I hp k
theorem tM {t:TA} (h:PA X es t) (ht:∀H,P H→∀Q:List V→Hp→Prop,(∀H',aB H H'→Q vs H')→t σ H Q):EvL X σ P es vs:=fun pos pins s H Q I hp k=>h pos pins s σ H Q I (ht H hp Q k)
theorem Sts.pss (sts:List Stmt):PSs X sts (aCx X sts):=fun pins s σ H D I hq=>by
 obtain ⟨P,hp,h⟩:=hq
 exact h pins s H I hp
theorem aZ {sts:List Stmt} {t:TS} (h:PSs X sts t) (ht:∀H,P H→t D σ H):Sts X σ P sts D:=fun pins s H I hp=>h pins s σ H D I (ht H hp)
theorem Ev.eq {v':V} (h:Ev X σ P e v) (q:v=v'):Ev X σ P e v':=q▸h
theorem aAr (i:Nat) {x:Str} (hv:σ[i]?=some (some v)) (hN:X.N[i]?=some x) (vis:Vis X.env.scope x) (hd:(x==("__debug__":Str))=false) (hc:(x==("__classdict__":Str))=false):Ev X σ P (.Name x pos) v:=
 aR (eR hN vis hd hc) fun H _ Q k=>⟨v,hv,k H (aB.refl H)⟩
theorem aN {n:Int} {jj}:Ev X σ P (.Constant (.int n) jj pos) (.int n):=aR dN fun H _ _ k=>k H (aB.refl H)
theorem vD {n:Bool} {jj}:Ev X σ P (.Constant (.bool n) jj pos) (.bl n):=aR xU fun H _ _ k=>k H (aB.refl H)
theorem wH {x:Str} {u:Value} (hg:Gl X x) (hm:X.mg x=some u) (r:RelV v u) (hd:(x==("__debug__":Str))=false):Ev X σ P (.Name x pos) v:=aR (fZ hg hm r hd) fun H _ _ k=>k H (aB.refl H)
theorem lC [Stb P] {op:Operator} {g:Int→Int→V} (ho:OpR X (binaryOp op) (rI0 g)) (ha:Ev X σ P a (.int i)) (hb:Ev X σ P b (.int j)):Ev X σ P (.BinOp a op b pos) (g i j):=
 aR (iI ho ha.pe hb.pe) fun H hp Q k=>⟨rfl,hp,fun H1 s1=>⟨rfl,Stb.st s1 hp,fun H2 s2=>⟨i,j,rfl,rfl,k H2 (s1.trans s2)⟩⟩⟩
theorem mB [Stb P] {op:Operator} {C:Int→Int→Prop} {g:Int→Int→V} (ho:OpR X (binaryOp op) (rI C g)) (ha:Ev X σ P a (.int i)) (hb:Ev X σ P b (.int j)) (hc:C i j):Ev X σ P (.BinOp a op b pos) (g i j):=
 aR (iI ho ha.pe hb.pe) fun H hp Q k=>⟨rfl,hp,fun H1 s1=>⟨rfl,Stb.st s1 hp,fun H2 s2=>⟨i,j,rfl,rfl,hc,k H2 (s1.trans s2)⟩⟩⟩
theorem gO [Stb P] (ha:Ev X σ P a (.int i)) (hb:Ev X σ P b (.int j)):Ev X σ P (.BinOp a .Add b pos) (.int (i+j)):=lC aFk ha hb
theorem bX [Stb P] (ha:Ev X σ P a (.int i)) (hb:Ev X σ P b (.int j)):Ev X σ P (.BinOp a .BitAnd b pos) (.int (Builtin.bitAnd i j)):=lC rO ha hb
theorem iY [Stb P] (ha:Ev X σ P a (.int i)) (hb:Ev X σ P b (.int j)):Ev X σ P (.BinOp a .BitOr b pos) (.int (Builtin.bitOr i j)):=lC aEq ha hb
theorem aC6 [Stb P] (ha:Ev X σ P a (.int i)) (hb:Ev X σ P b (.int j)) (hc:iJ i j):Ev X σ P (.BinOp a .Mult b pos) (.int (i*j)):=mB aDi ha hb hc
theorem yR [Stb P] (ha:Ev X σ P a (.int i)) (hb:Ev X σ P b (.int j)) (hc:pG i j):Ev X σ P (.BinOp a .LShift b pos) (.int (i*2^j.toNat)):=mB aA8 ha hb hc
theorem aHc [Stb P] (ha:Ev X σ P a (.int i)) (hb:Ev X σ P b (.int j)) (hc:0≤j):Ev X σ P (.BinOp a .RShift b pos) (.int (i/2^j.toNat)):=mB aGl ha hb hc
theorem tL (ha:Ev X σ P a (.int i)):Ev X σ P (.UnaryOp .Invert a pos) (.int (Builtin.bitNot i)):=aR (aAy aG1 ha.pe) fun H hp Q k=>⟨rfl,hp,fun H1 s1=>⟨i,rfl,k H1 s1⟩⟩
theorem oY [Stb P] {op:CmpOp} {g:Int→Int→Bool} (hc:PC X op a b (gK g (tEv σ P (.int i)) (tEv σ P (.int j)))) (hm:behindInMarks op b=false):Ev X σ P (.Compare a [op] [b] pos) (.bl (g i j)):=
 aR (yJ hc hm) fun H hp Q k=>⟨rfl,hp,fun H1 s1=>⟨rfl,Stb.st s1 hp,fun H2 s2=>⟨i,j,rfl,rfl,k H2 (s1.trans s2)⟩⟩⟩
theorem sR [Stb P] {op:CmpOp} {g:Int→Int→Bool} (hc:PC X op a b (gK g (tEv σ P (.int i)) (tEv σ P (.int j)))) (hm:behindInMarks op b=false):Tv X σ P (.Compare a [op] [b] pos) (g i j):=
 gZ (wV hc hm) fun H hp Q k=>⟨rfl,hp,fun H1 s1=>⟨rfl,Stb.st s1 hp,fun H2 s2=>⟨i,j,rfl,rfl,g i j,rfl,k H2 (s1.trans s2)⟩⟩⟩
theorem qF [Stb P] (ha:Ev X σ P a (.int i)) (hb:Ev X σ P b (.int j)):Ev X σ P (.Compare a [.Eq] [b] pos) (.bl (decide (i=j))):=oY (qC ha.pe hb.pe) (gM _)
theorem tE [Stb P] (ha:Ev X σ P a (.int i)) (hb:Ev X σ P b (.int j)):Ev X σ P (.Compare a [.NotEq] [b] pos) (.bl (!decide (i=j))):=oY (qR ha.pe hb.pe) (gM _)
theorem yO [Stb P] (ha:Ev X σ P a (.int i)) (hb:Ev X σ P b (.int j)):Tv X σ P (.Compare a [.Eq] [b] pos) (decide (i=j)):=sR (qC ha.pe hb.pe) (gM _)
theorem aD8 [Stb P] (ha:Ev X σ P a (.int i)) (hb:Ev X σ P b (.int j)):Tv X σ P (.Compare a [.NotEq] [b] pos) (!decide (i=j)):=sR (qR ha.pe hb.pe) (gM _)
theorem oG (x y:Bool):decide (V.bl x=V.bl y)=(x==y):=by cases x<;>cases y<;>rfl
theorem aGf [Stb P] (ha:Ev X σ P a (.bl x)) (hb:Ev X σ P b (.bl y)):Tv X σ P (.Compare a [.NotEq] [b] pos) (!(x==y)):=
 gZ (pK vY ha.pe hb.pe (gM _)) fun H hp Q k=>⟨rfl,hp,fun H1 s1=>⟨rfl,Stb.st s1 hp,fun H2 s2=>⟨rfl,_,rfl,by rw[oG];exact k H2 (s1.trans s2)⟩⟩⟩
theorem vG {op} (h:Ev X σ P a v):Ev X σ P (.BoolOp op [a] pos) v:=aR (aBi h.pe) fun H hp Q k=>⟨rfl,hp,k⟩
theorem pV [Stb P] (ha:Ev X σ P a (.bl x)) (hb:x=false→Ev X σ P (.BoolOp .Or (b::rest) pos) (.bl y)):Ev X σ P (.BoolOp .Or (a::b::rest) pos) (.bl (x||y)):=by
 cases x with
 | false=>exact aR (uY ha.pe (hb rfl).pe) fun H hp Q k=>⟨rfl,hp,fun H1 s1=>⟨false,rfl,fW ⟨rfl,Stb.st s1 hp,fun H2 s2=>k H2 (s1.trans s2)⟩⟩⟩
 | true=>
  refine aR (uY (tb:=fun _ _ _=>False) ha.pe (fun _ _ _ _ _ _ h=>h.elim)) fun H hp Q k=>⟨rfl,hp,fun H1 s1=>⟨true,rfl,gD (k H1 s1)⟩⟩
theorem aAl (ha:Ev X σ P a (.bl x)):Ev X σ P (.UnaryOp .Not a pos) (.bl (!x)):=aR (wJ ha.pe) fun H hp Q k=>⟨rfl,hp,fun H1 s1=>⟨x,rfl,k H1 s1⟩⟩
theorem oN (h:Ev X σ P e (.bl x)) (he:∀whole,isTrue e X.env whole=(do let v ←whole;standAt e.pos;holding [v] (truthy v))):Tv X σ P e x:=
 gZ (vJ h.pe he) fun H hp Q k=>⟨rfl,hp,fun H1 s1=>⟨x,rfl,k H1 s1⟩⟩
theorem aBb [Stb P] {u v:V} (hc:Tv X σ P c x) (ha:x=true→Ev X σ P a u) (hb:x=false→Ev X σ P b v):Ev X σ P (.IfExp c a b pos) (cond x u v):=by
 cases x with
 | true=>exact aR (sW (tb:=fun _ _ _=>False) hc.pt (ha rfl).pe (fun _ _ _ _ _ _ h=>h.elim)) fun H hp Q k=>⟨rfl,hp,fun H1 s1=>gD ⟨rfl,Stb.st s1 hp,fun H2 s2=>k H2 (s1.trans s2)⟩⟩
 | false=>exact aR (sW (ta:=fun _ _ _=>False) hc.pt (fun _ _ _ _ _ _ h=>h.elim) (hb rfl).pe) fun H hp Q k=>⟨rfl,hp,fun H1 s1=>fW ⟨rfl,Stb.st s1 hp,fun H2 s2=>k H2 (s1.trans s2)⟩⟩
theorem aG9 (x:Bool) (i j:Int):cond x (V.int i) (V.int j)=.int (cond x i j):=by cases x<;>rfl
theorem sN [Stb P] (hc:Tv X σ P c x) (ha:x=true→Ev X σ P a (.int i)) (hb:x=false→Ev X σ P b (.int j)):Ev X σ P (.IfExp c a b pos) (.int (cond x i j)):=(aBb hc ha hb).eq (aG9 x i j)
theorem aO:EvL X σ P [] []:=tM dH fun H _ Q k=>k H (aB.refl H)
theorem aF [Stb P] (ha:Ev X σ P e v) (hr:EvL X σ P es vs) (hs:starEach (e::es) X.env=(false,eval e X.env)::starEach es X.env:=by rfl):EvL X σ P (e::es) (v::vs):=
 tM (bO ha.pe hr.pa hs) fun H hp Q k=>⟨rfl,hp,fun H1 s1=>⟨rfl,Stb.st s1 hp,fun H2 s2=>k H2 (s1.trans s2)⟩⟩
end
structure Fc (P:Program) (w:World) (K:PySem.W.Frag) (mg:Str→Option Value) (base:Heap) (x:Str) (ps:List Str) (k:Nat) (sp:Sp):Prop where
 ex:∃f fd,aH P w K mg base CX0 k f fd ps sp∧mg x=some (.ref f)∧PySem.W.keepIn K (.ref f)=true∧Binds K fd ps []
section
variable {X:Cx} {σ:L2.St} {P P':Hp→Prop} {e o:Expr} {es:List Expr} {v:V} {pos p:Pos} {vs:List V} {D:Ends} {x:Str} {ps:List Str} {k:Nat} {sp:Sp}
theorem uK (F:Fc X.prog X.w X.K X.mg X.base x ps k sp) (hr:aJ k X.A) (hg:Gl X x) (hd:(x==("__debug__":Str))=false) (ha:EvL X σ P (e::es) vs)
  (he:starEach (e::es) X.env=(false,eval e X.env)::starEach es X.env:=by rfl) (hpl:(backTo pos (starEach es X.env)).any (·.1)=false:=by rfl) :
  PE X (.Call (.Name x p) (e::es) [] pos) (mH sp [] E0 (pL σ P vs)):=by
 obtain ⟨f,fd,F,hm,hk,hb⟩:=F.ex
 exact pR F hr hg hm hk hb .nil jI ha.pa hd he hpl
theorem aF4 [Stb P] (F:Fc X.prog X.w X.K X.mg X.base x ps k sp) (hr:aJ k X.A) (hg:Gl X x) (hd:(x==("__debug__":Str))=false) (ha:EvL X σ P (e::es) vs)
  (hsp:∀H,P H→∀Q:VK,(∀H',aB H H'→Q v H')→sp vs H Q E0)
  (he:starEach (e::es) X.env=(false,eval e X.env)::starEach es X.env:=by rfl) (hpl:(backTo pos (starEach es X.env)).any (·.1)=false:=by rfl) :
  Ev X σ P (.Call (.Name x p) (e::es) [] pos) v:=
 aR (uK F hr hg hd ha he hpl) fun H hp Q kk=>⟨rfl,hp,fun H1 s1=>by
  show sp (vs++[]) H1 _ E0
  rw[List.append_nil]
  exact hsp H1 (Stb.st s1 hp) Q fun H2 s2=>kk H2 (s1.trans s2)⟩
theorem bE (h:∀H,P H→D.nx σ H):Sts X σ P [] D:=aZ jL h
theorem eQ {rest:List Stmt} (he:Ev X σ P e v) (h:∀H,P H→∀H',aB H H'→D.rt v H'):Sts X σ P (.Return (some e) pos::rest) D:=
 aZ (bC (lH he.pe) (lP)) fun H hp=>⟨rfl,hp,h H hp⟩
theorem aCd {c:Expr} {body els rest:List Stmt} {x:Bool} [Stb P] (hc:Tv X σ P c x) (ht:x=true→Sts X σ P body { D with nx:=fun σ' H=>∃P,P H∧Sts X σ' P rest D })
  (hf:x=false→Sts X σ P els { D with nx:=fun σ' H=>∃P,P H∧Sts X σ' P rest D }):Sts X σ P (.If c body els pos::rest) D:=
 aZ (bC (oO hc.pt (Sts.pss body) (Sts.pss els)) (Sts.pss rest)) fun H hp=>⟨rfl,hp,fun H1 s1=>by
  cases x with
  | true=>exact gD ⟨P,Stb.st s1 hp,ht rfl⟩
  | false=>exact fW ⟨P,Stb.st s1 hp,hf rfl⟩⟩
theorem uT {c:Expr} {body rest:List Stmt} {x:Bool} [Stb P] (hc:Tv X σ P c x) (ht:x=true→Sts X σ P body { D with nx:=fun σ' H=>∃P,P H∧Sts X σ' P rest D }) (hf:x=false→Sts X σ P rest D):Sts X σ P (.If c body [] pos::rest) D:=
 aCd hc ht fun h=>bE fun H hp=>⟨P,hp,hf h⟩
theorem iE {c:Expr} {body els rest:List Stmt} {x:Bool} [Stb P] (σ2:L2.St) (P2:Hp→Prop) (hc:Tv X σ P c x) (ht:x=true→Sts X σ P body { D with nx:=fun σ' H=>σ'=σ2∧P2 H })
  (hf:x=false→Sts X σ P els { D with nx:=fun σ' H=>σ'=σ2∧P2 H }) (hr:Sts X σ2 P2 rest D):Sts X σ P (.If c body els pos::rest) D:=
 aZ (bC (oO hc.pt (Sts.pss body) (Sts.pss els)) (Sts.pss rest)) fun H hp=>⟨rfl,hp,fun H1 s1=>by
  have go:∀(b:List Stmt),Sts X σ P b { D with nx:=fun σ' H=>σ'=σ2∧P2 H }→Sts X σ P b { D with nx:=fun σ' H=>∃P,P H∧Sts X σ' P rest D }:=fun b hb pins s H I hp=>
   thn (hb pins s H I hp) fun f s' q=>by
    cases f with
    | next=>
     obtain ⟨σ',H',I',e1,q⟩:=q
     subst e1
     exact ⟨σ',H',I',P2,q,hr⟩
    | ret v=>exact q
    | brk=>exact q
    | cont=>exact q
  cases x with
  | true=>exact gD ⟨P,Stb.st s1 hp,go _ (ht rfl)⟩
  | false=>exact fW ⟨P,Stb.st s1 hp,go _ (hf rfl)⟩⟩
theorem rQ {i:Nat} {pos':Pos} {rest:List Stmt} [Stb P] (he:Ev X σ P e v) (hr:Sts X (σ.set i (some v)) P rest D) (hN:X.N.Nodup) (hi:X.N[i]?=some x) (hx:Loc X.env.scope x)
  (hs:swapsWith e (some (.Name x pos')) pos.line X.env=pure false) (hf:X.fn x=true∨X.env.scope.names.lookup x=some .local):Sts X σ P (.Assign [.Name x pos'] e pos::rest) D:=
 aZ (bC (kI (i:=i) hN hi hx he.pe hs hf) (Sts.pss rest)) fun H hp=>⟨rfl,hp,fun H1 s1=>⟨P,Stb.st s1 hp,hr⟩⟩
theorem aBf {rest:List Stmt} [Stb P] (F:Fc X.prog X.w X.K X.mg X.base x ps k sp) (hr:aJ k X.A) (hg:Gl X x) (hd:(x==("__debug__":Str))=false) (ha:EvL X σ P (e::es) vs)
  (hsp:∀H,P H→∀Q:VK,(∀v H',P' H'→Q v H')→sp vs H Q E0) (hrest:Sts X σ P' rest D) {spos:Pos} (hs:swapsWith (.Call (.Name x p) (e::es) [] pos) none spos.line X.env=pure false:=by rfl)
  (he:starEach (e::es) X.env=(false,eval e X.env)::starEach es X.env:=by rfl) (hpl:(backTo pos (starEach es X.env)).any (·.1)=false:=by rfl):Sts X σ P (.Expr (.Call (.Name x p) (e::es) [] pos) spos::rest) D:=
 aZ (bC (aFc (uK F hr hg hd ha he hpl) hs) (Sts.pss rest)) fun H hp=>⟨rfl,hp,fun H1 s1=>by
  show sp (vs++[]) H1 _ E0
  rw[List.append_nil]
  exact hsp H1 (Stb.st s1 hp) _ fun v H2 q=>⟨P',q,hrest⟩⟩
theorem aFp {sts:List Stmt} (h:Sts X σ P' sts D) (q:∀H,P H→P' H):Sts X σ P sts D:=fun pins s H I hp=>h pins s H I (q H hp)
theorem aDx {sts:List Stmt} {F:Prop} (hf:∀H,P H→F) (h:F→Sts X σ P sts D):Sts X σ P sts D:=fun pins s H I hp=>h (hf H hp) pins s H I hp
end
end Arm
end

section
set_option maxRecDepth 100000
namespace Arm
open PySem PySem.Spec PyProof.Rows L2
structure fD (kvs:List (Key×V)) (m:Int→Int):Prop where
 keys:∀k∈kvs.map (·.1),∃n:Int,k=Sum.inl n∧0≤n∧n<1048576
 nd:(kvs.map (·.1)).Nodup
 val:∀n:Int,(aM kvs (Sum.inl n)).getD (.int 0)=.int (m n)
theorem qX:∀(N:Nat) (l:List Nat),l.Nodup→(∀x∈l,x<N)→l.length≤N
 | 0,l,_,h=>by
  cases l with
  | nil=>exact Nat.le_refl _
  | cons a r=>exact absurd (h a (List.mem_cons_self ..)) (Nat.not_lt_zero _)
 | N+1,l,hn,h=>by
  have h1:=qX N (l.erase N) (hn.erase N) fun x hx=>by
   have q:=h x (List.mem_of_mem_erase hx)
   have ne:x≠N:=(hn.mem_erase_iff.mp hx).1
   omega
  have h2:=List.length_erase (a:=N) (l:=l)
  by_cases e:N∈l
  ·rw[if_pos e] at h2;omega
  ·rw[if_neg e] at h2;omega
theorem fD.len {kvs:List (Key×V)} {m:Int→Int} (h:fD kvs m):kvs.length≤1048576:=by
 have key:∀l:List Key,l.Nodup→(∀k∈l,∃n:Int,k=Sum.inl n∧0≤n∧n<1048576)→∃r:List Nat,r.length=l.length∧r.Nodup∧(∀x∈r,x<1048576)∧∀x∈r,(Sum.inl (x:Int):Key)∈l:=by
  intro l
  induction l with
  | nil=>exact fun _ _=>⟨[],rfl,List.nodup_nil,fun _ h=>absurd h (by simp),fun _ h=>absurd h (by simp)⟩
  | cons a r ih=>
   intro hn hk
   obtain ⟨h1,h2⟩:=List.nodup_cons.mp hn
   obtain ⟨q,e1,e2,e3,e4⟩:=ih h2 fun k hk'=>hk k (List.mem_cons_of_mem _ hk')
   obtain ⟨n,ea,n0,n1⟩:=hk a (List.mem_cons_self ..)
   have en:((n.toNat:Nat):Int)=n:=by omega
   refine ⟨n.toNat::q,by simp [e1],List.nodup_cons.mpr ⟨fun hm=>h1 ?_,e2⟩,fun x hx=>?_,fun x hx=>?_⟩
   ·have:=e4 _ hm
    rw[en,←ea] at this
    exact this
   ·rcases List.mem_cons.mp hx with rfl | hx
    ·omega
    ·exact e3 x hx
   ·rcases List.mem_cons.mp hx with rfl | hx
    ·rw[en,←ea];exact List.mem_cons_self ..
    ·exact List.mem_cons_of_mem _ (e4 x hx)
 obtain ⟨r,e1,e2,e3,_⟩:=key _ h.nd h.keys
 have:=qX _ r e2 e3
 rw[e1,List.length_map] at this
 exact this
theorem fD.put {kvs:List (Key×V)} {m:Int→Int} (h:fD kvs m) {i v:Int} (h0:0≤i) (h1:i<1048576):fD (putK kvs (Sum.inl i) (.int v)) (fun j=>if j=i then v else m j) where
 keys:=fun k hk=>by
  by_cases e:aM kvs (Sum.inl i)=none
  ·rw[vL _ e,List.map_append] at hk
   rcases List.mem_append.mp hk with q | q
   ·exact h.keys k q
   ·exact ⟨i,by simpa using q,h0,h1⟩
  ·obtain ⟨p,hp,ep⟩:=List.mem_map.mp hk
   have q:(kvs.any fun kv=>decide (kv.1=Sum.inl i))=true:=by
    rw[dJ];exact Option.isSome_iff_ne_none.mpr e
   unfold putK at hp
   rw[if_pos q] at hp
   obtain ⟨z,hz,ez⟩:=List.mem_map.mp hp
   refine h.keys k (List.mem_map.mpr ⟨z,hz,?_⟩)
   rw[←ep,←ez]
   split<;>rfl
 nd:=by
  by_cases e:aM kvs (Sum.inl i)=none
  ·exact zR _ h.nd e
  ·have q:(kvs.any fun kv=>decide (kv.1=Sum.inl i))=true:=by
    rw[dJ];exact Option.isSome_iff_ne_none.mpr e
   unfold putK
   rw[if_pos q,List.map_map]
   have e2:((fun x:Key×V=>x.1)∘fun kv=>if kv.1=Sum.inl i then (kv.1,V.int v) else kv)=fun x=>x.1:=by
    funext x
    show (if x.1=Sum.inl i then (x.1,V.int v) else x).1=x.1
    split<;>rfl
   rw[e2]
   exact h.nd
 val:=fun n=>by
  rw[aCr]
  by_cases e:n=i
  ·rw[if_pos (by rw[e]),if_pos e];rfl
  ·rw[if_neg (fun q=>e (Sum.inl.inj q)),if_neg e];exact h.val n
def cf (lr lh lb:Addr) (st:Int) (ls lm:Addr):List (Str×V):=[("regs",.ref lr),("high",.ref lh),("banks",.ref lb),("status",.int st),("saved",.ref ls),("words",.ref lm)]
theorem hG {lr lh lb:Addr} {st:Int} {ls lm:Addr}:(cf lr lh lb st ls lm).lookup ("regs":Str)=some (.ref lr):=by rfl
theorem sT {lr lh lb:Addr} {st:Int} {ls lm:Addr}:(cf lr lh lb st ls lm).lookup ("high":Str)=some (.ref lh):=by rfl
theorem mF {lr lh lb:Addr} {st:Int} {ls lm:Addr}:(cf lr lh lb st ls lm).lookup ("banks":Str)=some (.ref lb):=by rfl
theorem aFv {lr lh lb:Addr} {st:Int} {ls lm:Addr}:(cf lr lh lb st ls lm).lookup ("status":Str)=some (.int st):=by rfl
theorem tJ {lr lh lb:Addr} {st:Int} {ls lm:Addr}:(cf lr lh lb st ls lm).lookup ("saved":Str)=some (.ref ls):=by rfl
theorem sM {lr lh lb:Addr} {st:Int} {ls lm:Addr}:(cf lr lh lb st ls lm).lookup ("words":Str)=some (.ref lm):=by rfl
theorem vQ {lr lh lb:Addr} {st st':Int} {ls lm:Addr}:aL "status" (.int st') (cf lr lh lb st ls lm)=cf lr lh lb st' ls lm:=by rfl
theorem aA4 {lr lh lb lh':Addr} {st:Int} {ls lm:Addr}:aL "high" (.ref lh') (cf lr lh lb st ls lm)=cf lr lh' lb st ls lm:=by rfl
theorem tN {lr lh lb:Addr} {st:Int} {ls lm:Addr}:(cf lr lh lb st ls lm).length<1000:=by show 6<1000;decide
structure At (C:Addr) (H:Hp) (p:Addr) (s:S) (dx lr lh lb ls lm:Addr) (kvs:List (Key×V)):Prop where
 ins:H p=some (.ins C dx (cf lr lh lb s.status ls lm))
 regs:H lr=some (.lst (s.regs.map V.int))
 high:H lh=some (.lst (s.high.map V.int))
 banks:H lb=some (.lst (s.banks.map V.int))
 saved:H ls=some (.lst (s.saved.map V.int))
 mem:H lm=some (.dK kvs)
 mok:fD kvs s.mem
 rh:lr≠lh
 rb:lr≠lb
 rs:lr≠ls
 hb:lh≠lb
 hs:lh≠ls
 bs:lb≠ls
 wf:WF s
def aG (C:Addr) (H:Hp) (p:Addr) (s:S):Prop:=∃dx lr lh lb ls lm kvs,At C H p s dx lr lh lb ls lm kvs
theorem aG.wf {C:Addr} {H:Hp} {p:Addr} {s:S} (h:aG C H p s):WF s:=let ⟨_,_,_,_,_,_,_,a⟩:=h;a.wf
theorem aG.same {C:Addr} {H H':Hp} {p:Addr} {s:S} (h:aG C H p s) (q:aB H H'):aG C H' p s:=
 let ⟨dx,lr,lh,lb,ls,lm,kvs,a⟩:=h
 ⟨dx,lr,lh,lb,ls,lm,kvs,q _ _ a.ins,q _ _ a.regs,q _ _ a.high,q _ _ a.banks,q _ _ a.saved,q _ _ a.mem,a.mok,a.rh,a.rb,a.rs,a.hb,a.hs,a.bs,a.wf⟩
def bS (H:Hp) (p b:Addr):Prop:=b=p∨∃C dx fs f,H p=some (.ins C dx fs)∧(f,V.ref b)∈fs
def Fr (p:Addr) (H H':Hp):Prop:=∀b o,H b=some o→¬bS H p b→H' b=some o∧¬bS H' p b
theorem Fr.refl (p:Addr) (H:Hp):Fr p H H:=fun b o e n=>⟨e,n⟩
theorem Fr.trans {p:Addr} {H H1 H2:Hp} (a:Fr p H H1) (b:Fr p H1 H2):Fr p H H2:=fun c o e n=>b c o (a c o e n).1 (a c o e n).2
theorem Fr.same {C:Addr} {p:Addr} {H H':Hp} {s:S} (h:aG C H p s) (q:aB H H'):Fr p H H':=fun b o e n=>⟨q _ _ e,fun w=>n (by
 obtain ⟨dx,lr,lh,lb,ls,lm,kvs,a⟩:=h
 rcases w with w | ⟨C',dx',fs,f,e1,e2⟩
 ·exact .inl w
 ·rw[q _ _ a.ins] at e1
  cases e1
  exact .inr ⟨_,_,_,f,a.ins,e2⟩)⟩
theorem cE {C:Addr} {H:Hp} {p b dx lr lh lb ls lm:Addr} {st:Int} (e:H p=some (.ins C dx (cf lr lh lb st ls lm))):bS H p b↔b=p∨b=lr∨b=lh∨b=lb∨b=ls∨b=lm:=by
 constructor
 ·rintro (w | ⟨C',dx',fs,f,e1,e2⟩)
  ·exact .inl w
  ·rw[e] at e1
   cases e1
   unfold cf at e2
   simp only[List.mem_cons,Prod.mk.injEq,V.ref.injEq,List.not_mem_nil,or_false,reduceCtorEq,and_false,false_or] at e2
   rcases e2 with ⟨_,z⟩ | ⟨_,z⟩ | ⟨_,z⟩ | ⟨_,z⟩ | ⟨_,z⟩
   ·exact .inr (.inl z)
   ·exact .inr (.inr (.inl z))
   ·exact .inr (.inr (.inr (.inl z)))
   ·exact .inr (.inr (.inr (.inr (.inl z))))
   ·exact .inr (.inr (.inr (.inr (.inr z))))
 ·rintro (w | w | w | w | w | w)
  ·exact .inl w
  ·exact .inr ⟨_,_,_,"regs",e,by rw[w];unfold cf;simp⟩
  ·exact .inr ⟨_,_,_,"high",e,by rw[w];unfold cf;simp⟩
  ·exact .inr ⟨_,_,_,"banks",e,by rw[w];unfold cf;simp⟩
  ·exact .inr ⟨_,_,_,"saved",e,by rw[w];unfold cf;simp⟩
  ·exact .inr ⟨_,_,_,"words",e,by rw[w];unfold cf;simp⟩
theorem Fr.upd {C:Addr} {H:Hp} {p c dx lr lh lb ls lm dx':Addr} {st st':Int} {o':HO} (e:H p=some (.ins C dx (cf lr lh lb st ls lm))) (hc:bS H p c) (e':L2.upd H c o' p=some (.ins C dx' (cf lr lh lb st' ls lm))):Fr p H (L2.upd H c o'):=fun b o eb n=>by
 have ne:b≠c:=fun z=>n (z▸hc)
 refine ⟨by rw[aE ne];exact eb,fun w=>n ?_⟩
 exact (cE e).mpr ((cE e').mp w)
def RP (C p:Addr) (H0:Hp) (s:S):Hp→Prop:=fun H=>aG C H p s∧aB H0 H
def CP (C p:Addr) (H0:Hp) (s:S):Hp→Prop:=fun H=>aG C H p s∧Fr p H0 H
class Cor (P:Hp→Prop) (C:outParam Addr) (p:outParam Addr) (s:outParam S):Prop where
 co:∀H,P H→aG C H p s
class Sam (P:Hp→Prop) (H0:Hp):Prop where
 sa:∀H,P H→aB H0 H
instance aHe {C p:Addr} {H0:Hp} {s:S}:Stb (RP C p H0 s):=⟨fun q h=>⟨h.1.same q,h.2.trans q⟩⟩
instance aHk {C p:Addr} {H0:Hp} {s:S}:Stb (CP C p H0 s):=⟨fun q h=>⟨h.1.same q,h.2.trans (Fr.same h.1 q)⟩⟩
instance aHh {C p:Addr} {H0:Hp} {s:S}:Cor (RP C p H0 s) C p s:=⟨fun _ h=>h.1⟩
instance aHd {C p:Addr} {H0:Hp} {s:S}:Cor (CP C p H0 s) C p s:=⟨fun _ h=>h.1⟩
instance aHl {H0:Hp}:Sam (aB H0) H0:=⟨fun _ h=>h⟩
instance aHm {C p:Addr} {H0:Hp} {s:S}:Sam (RP C p H0 s) H0:=⟨fun _ h=>h.2⟩
structure CT (K:PySem.W.Frag) (C:Addr):Prop where
 cl:Cls K C
 nR:bH K C "regs"
 nH:bH K C "high"
 nB:bH K C "banks"
 nS:bH K C "status"
 nV:bH K C "saved"
 nM:bH K C "words"
structure Nm (x:Str):Prop where
 d:(x==("__debug__":Str))=false
 c:(x==("__classdict__":Str))=false
structure Bd (X:Cx) (P:Program) (w:World) (K:PySem.W.Frag) (mg:Str→Option Value) (base:Heap) (N:List Str) (sc:Scope) (k:Nat):Prop where
 eP:X.prog=P
 eW:X.w=w
 eK:X.K=K
 eM:X.mg=mg
 eB:X.base=base
 eN:X.N=N
 eS:X.env.scope=sc
 room:aJ k X.A
 fn:∀x,X.fn x=true
 calm:X.calm=true
 nd:N.Nodup
 eX:X.xe=fun _ _=>False
structure Vr (X:Cx) (i:Nat) (x:Str):Prop where
 n:X.N[i]?=some x
 v:Vis X.env.scope x
 l:Loc X.env.scope x
 nm:Nm x
structure Cl (X:Cx) (x:Str) (ps:List Str) (k:Nat) (sp:Sp):Prop where
 fc:Fc X.prog X.w X.K X.mg X.base x ps k sp
 room:aJ k X.A
 gl:Gl X x
 nm:Nm x
structure Gi (X:Cx) (x:Str) (n:Int):Prop where
 gl:Gl X x
 mg:∃t,X.mg x=some (.int n t)
 nm:Nm x
section
variable {X:Cx} {P:Program} {w:World} {K:PySem.W.Frag} {mg:Str→Option Value} {base:Heap} {N:List Str} {sc:Scope} {k:Nat}
theorem Bd.vr (B:Bd X P w K mg base N sc k) {i:Nat} {x:Str} (h:N[i]?=some x) (q:sc.names.lookup x=some .local) (n:Nm x):Vr X i x:=
 ⟨by rw[B.eN];exact h,.inl (by rw[B.eS];exact q),.inl (by rw[B.eS];exact q),n⟩
theorem Bd.g (B:Bd X P w K mg base N sc k) {x:Str} (q:sc.names.lookup x=some .globalImplicit):Gl X x:=by
 show X.env.scope.names.lookup x=_
 rw[B.eS];exact q
theorem Bd.cl (B:Bd X P w K mg base N sc k) {x:Str} {ps:List Str} {j:Nat} {sp:Sp} (F:Fc P w K mg base x ps j sp) (q:sc.names.lookup x=some .globalImplicit) (n:Nm x) (h:j≤k):Cl X x ps j sp:=
 ⟨by rw[B.eP,B.eW,B.eK,B.eM,B.eB];exact F,B.room.mono h,B.g q,n⟩
theorem Bd.gi (B:Bd X P w K mg base N sc k) {x:Str} {m:Int} (h:∃t,mg x=some (.int m t)) (q:sc.names.lookup x=some .globalImplicit) (n:Nm x):Gi X x m:=
 ⟨B.g q,by rw[B.eM];exact h,n⟩
theorem Bd.nd' (B:Bd X P w K mg base N sc k):X.N.Nodup:=by rw[B.eN];exact B.nd
theorem Bd.hu (B:Bd X P w K mg base N sc k):X.A.units+1<cLine:=xV B.room
theorem bD {x qual:Str} {st:Stmt} {f:Addr} {fd:FuncData} {ps:List Str} {sp:Sp} (F:Fun K x qual st f fd) (Sc:aP N ps (aI st)) (len:∀vs H Q E,sp vs H Q E→vs.length=ps.length)
  (hbody:∀(X:Cx),Bd X P w K mg base N (aI st) k→∀(vs:List V) (H:Hp) (Q:VK) (E:XK),sp vs H Q E→∃Pp:Hp→Prop,Pp H∧Sts X (start N vs) Pp (cM st) { nx:=fun _ H'=>Q .non H',rt:=Q }):aH P w K mg base CX0 (k+1) f fd ps sp:=by
 refine F.ok Sc len fun cdv A outer s H vs Q E hr h=>?_
 obtain ⟨Pp,hp,hs⟩:=hbody (eZ CX0 P w K mg base N qual (aI st) f cdv A outer s H E).nox ⟨rfl,rfl,rfl,rfl,rfl,rfl,rfl,hr,fun _=>rfl,rfl,Sc.nd,rfl⟩ vs H Q E h
 exact ⟨_,Sts.pss _,Pp,hp,hs⟩
end
section
variable {X:Cx} {σ:L2.St} {P:Hp→Prop} {a b c e o:Expr} {v:V} {i j:Int} {pos apos:Pos} {D:Ends} {C p:Addr} {s:S} {rest:List Stmt}
theorem aA {n:Nat} {x:Str} (h:Vr X n x) (hv:σ[n]?=some (some v)):Ev X σ P (.Name x pos) v:=aAr n hv h.n h.v h.nm.d h.nm.c
theorem bF {x:Str} {n:Int} (h:Gi X x n):Ev X σ P (.Name x pos) (.int n):=by
 obtain ⟨t,hm⟩:=h.mg
 exact wH h.gl hm ⟨t,rfl⟩ h.nm.d
theorem pN [Stb P] (ha:Ev X σ P a (.int i)) (hb:Ev X σ P b (.int j)) (hc:(-18446744073709551616<i∧i<18446744073709551616)∨(-18446744073709551616<j∧j<18446744073709551616)):Ev X σ P (.BinOp a .Mult b pos) (.int (i*j)):=aC6 ha hb hc
theorem tK [Stb P] (ha:Ev X σ P a (.int i)) (hb:Ev X σ P b (.int j)) (hc:0≤j∧j≤1000000∧-18446744073709551616<i∧i<18446744073709551616):Ev X σ P (.BinOp a .LShift b pos) (.int (i*2^Int.toNat j)):=
 yR ha hb ⟨hc.1,hc.2.1,by show i.natAbs<18446744073709551616;omega⟩
theorem cY [Stb P] {x:Str} {ps:List Str} {k:Nat} {sp:Sp} {es:List Expr} {vs:List V} {q:Pos} (c:Cl X x ps k sp) (ha:EvL X σ P (e::es) vs) (hsp:∀H,P H→∀Q:VK,(∀H',aB H H'→Q v H')→sp vs H Q E0)
  (he:starEach (e::es) X.env=(false,eval e X.env)::starEach es X.env:=by rfl) (hpl:(backTo pos (starEach es X.env)).any (·.1)=false:=by rfl) :
  Ev X σ P (.Call (.Name x q) (e::es) [] pos) v:=aF4 c.fc c.room c.gl c.nm.d ha hsp he hpl
theorem fF [Cor P C p s] (T:CT X.K C) (ho:Ev X σ P o (.ref p)) (hb:attributeBase o "status" X.env (eval o X.env)=eval o X.env) [Stb P]:Ev X σ P (.Attribute o "status" pos) (.int s.status):=
 aR (eV ho.pe hb) fun H hp Q k=>⟨rfl,hp,fun H1 s1=>by
  obtain ⟨dx,lr,lh,lb,ls,lm,kvs,a⟩:=Cor.co H1 (Stb.st s1 hp)
  exact ⟨p,C,dx,_,_,rfl,a.ins,T.cl,T.nS,aFv,k H1 s1⟩⟩
theorem mC {f:Str} {xs:List Int} {n:Int} (hn:bH X.K C f) (hcl:Cls X.K C) (ho:Ev X σ P o (.ref p)) (hi:Ev X σ P e (.int i)) (h0:0≤i∧i<n) (hb:attributeBase o f X.env (eval o X.env)=eval o X.env) (hs:fT e) [Stb P]
  (hc:∀H,P H→(xs.length:Int)=n∧∃dx fs l,H p=some (.ins C dx fs)∧fs.lookup f=some (.ref l)∧H l=some (.lst (xs.map V.int))):Ev X σ P (.Subscript (.Attribute o f apos) e pos) (.int (xs.getD i.toNat 0)):=
 aR (pF tI (eV ho.pe hb) hi.pe hs) fun H hp Q k=>⟨rfl,hp,fun H1 s1=>by
  obtain ⟨hl,dx,fs,l,e1,e2,e3⟩:=hc H1 (Stb.st s1 hp)
  refine ⟨p,C,dx,_,_,rfl,e1,hcl,hn,e2,rfl,Stb.st s1 hp,fun H2 s2=>⟨l,_,i,_,rfl,rfl,SqL.of (s2 _ _ e3),at_of (j:=i.toNat) (by omega) ?_,k H2 (s1.trans s2)⟩⟩
  have hlt:i.toNat<xs.length:=by omega
  rw[List.getElem?_map,List.getElem?_eq_getElem hlt,List.getD_eq_getElem?_getD,List.getElem?_eq_getElem hlt]
  rfl⟩
theorem iB [Cor P C p s] [Stb P] (T:CT X.K C) (ho:Ev X σ P o (.ref p)) (hi:Ev X σ P e (.int i)) (h0:0≤i∧i<16) (hb:attributeBase o "regs" X.env (eval o X.env)=eval o X.env) (hs:fT e):Ev X σ P (.Subscript (.Attribute o "regs" apos) e pos) (.int (s.reg i)):=
 mC T.nR T.cl ho hi h0 hb hs fun H hp=>let ⟨dx,lr,lh,lb,ls,lm,kvs,a⟩:=Cor.co H hp;⟨by rw[a.wf.lr];rfl,dx,_,lr,a.ins,hG,a.regs⟩
theorem aBg [Cor P C p s] [Stb P] (T:CT X.K C) (ho:Ev X σ P o (.ref p)) (hi:Ev X σ P e (.int i)) (h0:0≤i∧i<7) (hb:attributeBase o "high" X.env (eval o X.env)=eval o X.env) (hs:fT e):Ev X σ P (.Subscript (.Attribute o "high" apos) e pos) (.int (s.hi i)):=
 mC T.nH T.cl ho hi h0 hb hs fun H hp=>let ⟨dx,lr,lh,lb,ls,lm,kvs,a⟩:=Cor.co H hp;⟨by rw[a.wf.lh];rfl,dx,_,lh,a.ins,sT,a.high⟩
theorem pB [Cor P C p s] [Stb P] (T:CT X.K C) (ho:Ev X σ P o (.ref p)) (hi:Ev X σ P e (.int i)) (h0:0≤i∧i<10) (hb:attributeBase o "banks" X.env (eval o X.env)=eval o X.env) (hs:fT e):Ev X σ P (.Subscript (.Attribute o "banks" apos) e pos) (.int (s.bk i)):=
 mC T.nB T.cl ho hi h0 hb hs fun H hp=>let ⟨dx,lr,lh,lb,ls,lm,kvs,a⟩:=Cor.co H hp;⟨by rw[a.wf.lb];rfl,dx,_,lb,a.ins,mF,a.banks⟩
theorem zI [Cor P C p s] [Stb P] {z:Expr} {gpos:Pos} (T:CT X.K C) (hu:X.A.units+1<cLine) (ho:Ev X σ P o (.ref p)) (hi:Ev X σ P e (.int i)) (hz:Ev X σ P z (.int 0)) (hb:attributeBase o "words" X.env (eval o X.env)=eval o X.env) (m:M2 X (.Attribute o "words" apos) "get" gpos e z pos) :
  Ev X σ P (.Call (.Attribute (.Attribute o "words" apos) "get" gpos) [e,z] [] pos) (.int (s.mem i)):=
 aR (yT hu (eV ho.pe hb) hi.pe hz.pe m) fun H hp Q k=>⟨rfl,hp,fun H1 s1=>by
  obtain ⟨dx,lr,lh,lb,ls,lm,kvs,a⟩:=Cor.co H1 (Stb.st s1 hp)
  refine ⟨p,C,dx,_,_,rfl,a.ins,T.cl,T.nM,sM,lm,rfl,.inl ⟨kvs,.inl a.mem⟩,rfl,Stb.st s1 hp,fun H2 s2=>⟨rfl,Stb.st (s1.trans s2) hp,fun H3 s3=>⟨_,gA.k (k:=Sum.inl i) (s3 _ _ (s2 _ _ a.mem)),?_⟩⟩⟩
  rw[a.mok.val i]
  exact k H3 ((s1.trans s2).trans s3)⟩
theorem gE {C:Addr} {H:Hp} {p dx q:Addr} {fs:List (Str×V)} {o':HO} (e:H p=some (.ins C dx fs)) (e1:H q=some o') (e2:∀C dx fs,o'≠.ins C dx fs):q≠p:=bR e1 e (e2 _ _ _)
theorem aFo {H0:Hp} (T:CT X.K C) (ho:Ev X σ (CP C p H0 s) o (.ref p)) (hv:Ev X σ (CP C p H0 s) e (.int i)) (hw:0≤i∧i<4294967296) (hr:Sts X σ (CP C p H0 (s.bI i)) rest D)
  {tpos:Pos} (hs:swapsWith e (some (.Attribute o "status" tpos)) pos.line X.env=pure false):Sts X σ (CP C p H0 s) (.Assign [.Attribute o "status" tpos] e pos::rest) D:=
 aZ (bC (gS ho.pe hv.pe hs) (Sts.pss rest)) fun H hp=>⟨rfl,hp,fun H1 s1=>⟨rfl,Stb.st s1 hp,fun H2 s2=>by
  have hp2:CP C p H0 s H2:=Stb.st (s1.trans s2) hp
  obtain ⟨dx,lr,lh,lb,ls,lm,kvs,a⟩:=hp2.1
  refine ⟨p,C,dx,_,rfl,a.ins,T.cl,T.nS,tN,CP C p H0 (s.bI i),⟨⟨dx,lr,lh,lb,ls,lm,kvs,?_⟩,hp2.2.trans ?_⟩,hr⟩
  ·refine ⟨by rw[aY,vQ];rfl,?_,?_,?_,?_,?_,a.mok,a.rh,a.rb,a.rs,a.hb,a.hs,a.bs,a.wf.bI hw⟩
   ·rw[aE (gE a.ins a.regs (by intros;intro z;cases z))];exact a.regs
   ·rw[aE (gE a.ins a.high (by intros;intro z;cases z))];exact a.high
   ·rw[aE (gE a.ins a.banks (by intros;intro z;cases z))];exact a.banks
   ·rw[aE (gE a.ins a.saved (by intros;intro z;cases z))];exact a.saved
   ·rw[aE (gE a.ins a.mem (by intros;intro z;cases z))];exact a.mem
  ·exact Fr.upd a.ins (.inl rfl) (by rw[aY,vQ])⟩⟩
theorem zH {n:Nat} {i:Int} (h0:0≤i) (h1:i<n):ixN n i=some i.toNat:=by
 unfold ixN
 rw[if_pos h0,if_pos h1]
theorem kL {f:Str} {xs:List Int} {n:Nat} {H0:Hp} {s':S} (hn:bH X.K C f) (hcl:Cls X.K C) (ho:Ev X σ (CP C p H0 s) o (.ref p)) (hi:Ev X σ (CP C p H0 s) e (.int i)) (hv:Ev X σ (CP C p H0 s) a (.int j)) (h0:0≤i∧i<n)
  (hc:∀H,CP C p H0 s H→xs.length=n∧∃dx fs l,H p=some (.ins C dx fs)∧fs.lookup f=some (.ref l)∧∀H',aB H H'→H' l=some (.lst (xs.map V.int))∧CP C p H0 s' (upd H' l (.lst ((xs.set i.toNat j).map V.int)))) (hr:Sts X σ (CP C p H0 s') rest D)
  {tpos:Pos} (hb:attributeBase o f X.env (eval o X.env)=eval o X.env) (hs:swapsWithSole [.Subscript (.Attribute o f apos) e tpos] a pos.line X.env=pure false) (hw:swappedStores [.Subscript (.Attribute o f apos) e tpos] a X.env=pure none)
  (h1:(assignEach [.Subscript (.Attribute o f apos) e tpos] X.env).map (·.2)=[assign (.Subscript (.Attribute o f apos) e tpos) X.env])
  (ha:∀v,assign (.Subscript (.Attribute o f apos) e tpos) X.env v=(do
   let ov ←holding [v] (eval (.Attribute o f apos) X.env)
   let iv ←holding [v,ov] (eval e X.env)
   standAt tpos
   holding [v,ov,iv] (setItem ov iv v)
   release [v,ov,iv] [])):Sts X σ (CP C p H0 s) (.Assign [.Subscript (.Attribute o f apos) e tpos] a pos::rest) D:=
 aZ (bC (vR hv.pe (aDc (eV ho.pe hb) hi.pe set_list ha) hs hw h1) (Sts.pss rest)) fun H hp=>⟨rfl,hp,fun H1 s1=>⟨rfl,Stb.st s1 hp,fun H2 s2=>by
  have hp2:CP C p H0 s H2:=Stb.st (s1.trans s2) hp
  obtain ⟨hl,dx,fs,l,e1,e2,e3⟩:=hc H2 hp2
  refine ⟨p,C,dx,_,_,rfl,e1,hcl,hn,e2,rfl,hp2,fun H3 s3=>⟨l,_,i,i.toNat,rfl,rfl,(e3 H3 s3).1,?_,CP C p H0 s',?_,hr⟩⟩
  ·rw[List.length_map,hl];exact zH h0.1 h0.2
  ·have q:=(e3 H3 s3).2
   rw[List.map_set] at q
   exact q⟩⟩
theorem At.ow {C:Addr} {H:Hp} {p:Addr} {s:S} {dx lr lh lb ls lm:Addr} {kvs:List (Key×V)} (a:At C H p s dx lr lh lb ls lm kvs):bS H p lr∧bS H p lh∧bS H p lb∧bS H p ls∧bS H p lm:=
 ⟨(cE a.ins).mpr (by simp),(cE a.ins).mpr (by simp),(cE a.ins).mpr (by simp),(cE a.ins).mpr (by simp),(cE a.ins).mpr (by simp)⟩
theorem At.same {C:Addr} {H H':Hp} {p:Addr} {s:S} {dx lr lh lb ls lm:Addr} {kvs:List (Key×V)} (a:At C H p s dx lr lh lb ls lm kvs) (q:aB H H'):At C H' p s dx lr lh lb ls lm kvs:=
 ⟨q _ _ a.ins,q _ _ a.regs,q _ _ a.high,q _ _ a.banks,q _ _ a.saved,q _ _ a.mem,a.mok,a.rh,a.rb,a.rs,a.hb,a.hs,a.bs,a.wf⟩
theorem At.np {C:Addr} {H:Hp} {p:Addr} {s:S} {dx lr lh lb ls lm:Addr} {kvs:List (Key×V)} (a:At C H p s dx lr lh lb ls lm kvs):p≠lr∧p≠lh∧p≠lb∧p≠ls∧p≠lm∧lm≠lr∧lm≠lh∧lm≠lb∧lm≠ls:=
 ⟨bR a.ins a.regs (by intro z;cases z),bR a.ins a.high (by intro z;cases z),bR a.ins a.banks (by intro z;cases z),bR a.ins a.saved (by intro z;cases z),bR a.ins a.mem (by intro z;cases z),
  bR a.mem a.regs (by intro z;cases z),bR a.mem a.high (by intro z;cases z),bR a.mem a.banks (by intro z;cases z),bR a.mem a.saved (by intro z;cases z)⟩
theorem CP.of {C p:Addr} {H0 H H':Hp} {s s':S} (h:CP C p H0 s H) (c:aG C H' p s') (f:Fr p H H'):CP C p H0 s' H':=⟨c,h.2.trans f⟩
theorem CP.aT {H0 H:Hp} (h:CP C p H0 s H) {dx lr lh lb ls lm:Addr} {kvs:List (Key×V)} (a:At C H p s dx lr lh lb ls lm kvs) (hj:Wd j):CP C p H0 (s.aT i j) (upd H lr (.lst ((s.regs.set i.toNat j).map V.int))):=by
 obtain ⟨n1,n2,n3,n4,n5,n6,n7,n8,n9⟩:=a.np
 have e1:upd H lr (.lst ((s.regs.set i.toNat j).map V.int)) p=some (.ins C dx (cf lr lh lb s.status ls lm)):=by rw[aE n1];exact a.ins
 refine h.of ⟨dx,lr,lh,lb,ls,lm,kvs,e1,aY,by rw[aE a.rh.symm];exact a.high,by rw[aE a.rb.symm];exact a.banks,by rw[aE a.rs.symm];exact a.saved,by rw[aE n6];exact a.mem,a.mok,a.rh,a.rb,a.rs,a.hb,a.hs,a.bs,a.wf.aT hj⟩ (Fr.upd a.ins a.ow.1 e1)
theorem CP.dE {H0 H:Hp} (h:CP C p H0 s H) {dx lr lh lb ls lm:Addr} {kvs:List (Key×V)} (a:At C H p s dx lr lh lb ls lm kvs) (hj:Wd j):CP C p H0 (s.dE i j) (upd H lb (.lst ((s.banks.set i.toNat j).map V.int))):=by
 obtain ⟨n1,n2,n3,n4,n5,n6,n7,n8,n9⟩:=a.np
 have e1:upd H lb (.lst ((s.banks.set i.toNat j).map V.int)) p=some (.ins C dx (cf lr lh lb s.status ls lm)):=by rw[aE n3];exact a.ins
 refine h.of ⟨dx,lr,lh,lb,ls,lm,kvs,e1,by rw[aE a.rb];exact a.regs,by rw[aE a.hb];exact a.high,aY,by rw[aE a.bs.symm];exact a.saved,by rw[aE n8];exact a.mem,a.mok,a.rh,a.rb,a.rs,a.hb,a.hs,a.bs,a.wf.dE hj⟩ (Fr.upd a.ins a.ow.2.2.1 e1)
theorem CP.bP {H0 H:Hp} (h:CP C p H0 s H) {dx lr lh lb ls lm:Addr} {kvs:List (Key×V)} (a:At C H p s dx lr lh lb ls lm kvs) (hj:Wd j):CP C p H0 (s.bP i j) (upd H ls (.lst ((s.saved.set i.toNat j).map V.int))):=by
 obtain ⟨n1,n2,n3,n4,n5,n6,n7,n8,n9⟩:=a.np
 have e1:upd H ls (.lst ((s.saved.set i.toNat j).map V.int)) p=some (.ins C dx (cf lr lh lb s.status ls lm)):=by rw[aE n4];exact a.ins
 refine h.of ⟨dx,lr,lh,lb,ls,lm,kvs,e1,by rw[aE a.rs];exact a.regs,by rw[aE a.hs];exact a.high,by rw[aE a.bs];exact a.banks,aY,by rw[aE n9];exact a.mem,a.mok,a.rh,a.rb,a.rs,a.hb,a.hs,a.bs,a.wf.bP hj⟩ (Fr.upd a.ins a.ow.2.2.2.1 e1)
theorem CP.cO {H0 H:Hp} (h:CP C p H0 s H) {dx lr lh lb ls lm:Addr} {kvs:List (Key×V)} (a:At C H p s dx lr lh lb ls lm kvs) (hi:0≤i∧i<1048576) (hj:0≤j∧j<4294967296):CP C p H0 (s.cO i j) (upd H lm (.dK (putK kvs (Sum.inl i) (.int j)))):=by
 obtain ⟨n1,n2,n3,n4,n5,n6,n7,n8,n9⟩:=a.np
 have e1:upd H lm (.dK (putK kvs (Sum.inl i) (.int j))) p=some (.ins C dx (cf lr lh lb s.status ls lm)):=by rw[aE n5];exact a.ins
 refine h.of ⟨dx,lr,lh,lb,ls,lm,_,e1,by rw[aE n6.symm];exact a.regs,by rw[aE n7.symm];exact a.high,by rw[aE n8.symm];exact a.banks,by rw[aE n9.symm];exact a.saved,aY,a.mok.put hi.1 hi.2,a.rh,a.rb,a.rs,a.hb,a.hs,a.bs,a.wf.cO hj⟩ (Fr.upd a.ins a.ow.2.2.2.2 e1)
theorem gY {H0:Hp} (T:CT X.K C) (ho:Ev X σ (CP C p H0 s) o (.ref p)) (hi:Ev X σ (CP C p H0 s) e (.int i)) (hv:Ev X σ (CP C p H0 s) a (.int j)) (h0:0≤i∧i<16) (hj:0≤j∧j<4294967296) (hr:Sts X σ (CP C p H0 (s.aT i j)) rest D)
  {tpos:Pos} (hb:attributeBase o "regs" X.env (eval o X.env)=eval o X.env) (hs:swapsWithSole [.Subscript (.Attribute o "regs" apos) e tpos] a pos.line X.env=pure false) (hw:swappedStores [.Subscript (.Attribute o "regs" apos) e tpos] a X.env=pure none)
  (h1:(assignEach [.Subscript (.Attribute o "regs" apos) e tpos] X.env).map (·.2)=[assign (.Subscript (.Attribute o "regs" apos) e tpos) X.env])
  (ha:∀v,assign (.Subscript (.Attribute o "regs" apos) e tpos) X.env v=(do
   let ov ←holding [v] (eval (.Attribute o "regs" apos) X.env)
   let iv ←holding [v,ov] (eval e X.env)
   standAt tpos
   holding [v,ov,iv] (setItem ov iv v)
   release [v,ov,iv] [])):Sts X σ (CP C p H0 s) (.Assign [.Subscript (.Attribute o "regs" apos) e tpos] a pos::rest) D:=
 kL (xs:=s.regs) (n:=16) T.nR T.cl ho hi hv h0 (fun H hp=>let ⟨dx,lr,lh,lb,ls,lm,kvs,z⟩:=hp.1;⟨z.wf.lr,dx,_,lr,z.ins,hG,fun H' q=>⟨q _ _ z.regs,CP.aT (Stb.st q hp) (z.same q) hj⟩⟩) hr hb hs hw h1 ha
theorem pM {H0:Hp} (T:CT X.K C) (ho:Ev X σ (CP C p H0 s) o (.ref p)) (hi:Ev X σ (CP C p H0 s) e (.int i)) (hv:Ev X σ (CP C p H0 s) a (.int j)) (h0:0≤i∧i<10) (hj:0≤j∧j<4294967296) (hr:Sts X σ (CP C p H0 (s.dE i j)) rest D)
  {tpos:Pos} (hb:attributeBase o "banks" X.env (eval o X.env)=eval o X.env) (hs:swapsWithSole [.Subscript (.Attribute o "banks" apos) e tpos] a pos.line X.env=pure false) (hw:swappedStores [.Subscript (.Attribute o "banks" apos) e tpos] a X.env=pure none)
  (h1:(assignEach [.Subscript (.Attribute o "banks" apos) e tpos] X.env).map (·.2)=[assign (.Subscript (.Attribute o "banks" apos) e tpos) X.env])
  (ha:∀v,assign (.Subscript (.Attribute o "banks" apos) e tpos) X.env v=(do
   let ov ←holding [v] (eval (.Attribute o "banks" apos) X.env)
   let iv ←holding [v,ov] (eval e X.env)
   standAt tpos
   holding [v,ov,iv] (setItem ov iv v)
   release [v,ov,iv] [])):Sts X σ (CP C p H0 s) (.Assign [.Subscript (.Attribute o "banks" apos) e tpos] a pos::rest) D:=
 kL (xs:=s.banks) (n:=10) T.nB T.cl ho hi hv h0 (fun H hp=>let ⟨dx,lr,lh,lb,ls,lm,kvs,z⟩:=hp.1;⟨z.wf.lb,dx,_,lb,z.ins,mF,fun H' q=>⟨q _ _ z.banks,CP.dE (Stb.st q hp) (z.same q) hj⟩⟩) hr hb hs hw h1 ha
theorem aAn {H0:Hp} (T:CT X.K C) (ho:Ev X σ (CP C p H0 s) o (.ref p)) (hi:Ev X σ (CP C p H0 s) e (.int i)) (hv:Ev X σ (CP C p H0 s) a (.int j)) (h0:0≤i∧i<5) (hj:0≤j∧j<4294967296) (hr:Sts X σ (CP C p H0 (s.bP i j)) rest D)
  {tpos:Pos} (hb:attributeBase o "saved" X.env (eval o X.env)=eval o X.env) (hs:swapsWithSole [.Subscript (.Attribute o "saved" apos) e tpos] a pos.line X.env=pure false) (hw:swappedStores [.Subscript (.Attribute o "saved" apos) e tpos] a X.env=pure none)
  (h1:(assignEach [.Subscript (.Attribute o "saved" apos) e tpos] X.env).map (·.2)=[assign (.Subscript (.Attribute o "saved" apos) e tpos) X.env])
  (ha:∀v,assign (.Subscript (.Attribute o "saved" apos) e tpos) X.env v=(do
   let ov ←holding [v] (eval (.Attribute o "saved" apos) X.env)
   let iv ←holding [v,ov] (eval e X.env)
   standAt tpos
   holding [v,ov,iv] (setItem ov iv v)
   release [v,ov,iv] [])):Sts X σ (CP C p H0 s) (.Assign [.Subscript (.Attribute o "saved" apos) e tpos] a pos::rest) D:=
 kL (xs:=s.saved) (n:=5) T.nV T.cl ho hi hv h0 (fun H hp=>let ⟨dx,lr,lh,lb,ls,lm,kvs,z⟩:=hp.1;⟨z.wf.ls,dx,_,ls,z.ins,tJ,fun H' q=>⟨q _ _ z.saved,CP.bP (Stb.st q hp) (z.same q) hj⟩⟩) hr hb hs hw h1 ha
theorem xG {H0:Hp} (T:CT X.K C) (hu:X.A.units+1<cLine) (ho:Ev X σ (CP C p H0 s) o (.ref p)) (hi:Ev X σ (CP C p H0 s) e (.int i)) (hv:Ev X σ (CP C p H0 s) a (.int j)) (h0:0≤i∧i<1048576) (hj:0≤j∧j<4294967296) (hr:Sts X σ (CP C p H0 (s.cO i j)) rest D)
  {tpos:Pos} (hb:attributeBase o "words" X.env (eval o X.env)=eval o X.env) (hs:swapsWith a (some (.Subscript (.Attribute o "words" apos) e tpos)) pos.line X.env=pure false):Sts X σ (CP C p H0 s) (.Assign [.Subscript (.Attribute o "words" apos) e tpos] a pos::rest) D:=
 aZ (bC (zV hu (eV ho.pe hb) hi.pe hv.pe hs) (Sts.pss rest)) fun H hp=>⟨rfl,hp,fun H1 s1=>⟨rfl,Stb.st s1 hp,fun H2 s2=>by
  have hp2:CP C p H0 s H2:=Stb.st (s1.trans s2) hp
  obtain ⟨dx,lr,lh,lb,ls,lm,kvs,z⟩:=hp2.1
  refine ⟨p,C,dx,_,_,rfl,z.ins,T.cl,T.nM,sM,rfl,hp2,fun H3 s3=>⟨lm,_,rfl,gF.k (k:=Sum.inl i) (s3 _ _ z.mem) ?_,CP C p H0 (s.cO i j),CP.cO (Stb.st s3 hp2) (z.same s3) h0 hj,hr⟩⟩
  have:=z.mok.len
  show kvs.length<16777216
  omega⟩⟩
theorem dX {H0:Hp} {sts:List Stmt} (h:∀s',s'=s→WF s'→Sts X σ (CP C p H0 s') sts D):Sts X σ (CP C p H0 s) sts D:=aDx (fun H hp=>hp.1.wf) fun hw=>h s rfl hw
theorem hU {n:Nat} {x:Str} {pos':Pos} [Stb P] {Pg:Program} {w:World} {K:PySem.W.Frag} {mg:Str→Option Value} {base:Heap} {N:List Str} {sc:Scope} {k:Nat} (he:Ev X σ P e (.int i)) (hr:∀m:Int,m=i→Sts X (σ.set n (some (.int m))) P rest D) (B:Bd X Pg w K mg base N sc k) (hx:Vr X n x)
  (hs:swapsWith e (some (.Name x pos')) pos.line X.env=pure false):Sts X σ P (.Assign [.Name x pos'] e pos::rest) D:=Arm.rQ (i:=n) he (hr i rfl) B.nd' hx.n hx.l hs (.inl (B.fn _))
theorem pW {n:Nat} {x:Str} {pos':Pos} [Stb P] {Pg:Program} {w:World} {K:PySem.W.Frag} {mg:Str→Option Value} {base:Heap} {N:List Str} {sc:Scope} {k:Nat} (he:Ev X σ P e v) (hr:Sts X (σ.set n (some v)) P rest D) (B:Bd X Pg w K mg base N sc k) (hx:Vr X n x)
  (hs:swapsWith e (some (.Name x pos')) pos.line X.env=pure false):Sts X σ P (.Assign [.Name x pos'] e pos::rest) D:=Arm.rQ (i:=n) he hr B.nd' hx.n hx.l hs (.inl (B.fn _))
end
end Arm
end

section
set_option maxRecDepth 100000
namespace Arm
open PySem PySem.Spec PyProof.Rows L2
def kvI (l:List (Int×Int)):List (Key×V):=l.map fun kv=>((Sum.inl kv.1:Key),V.int kv.2)
theorem jY (i:Int):∀l:List (Int×Int),aM (kvI l) (Sum.inl i:Key)=(dC l i).map V.int
 | []=>rfl
 | (a,b)::r=>by
  by_cases e:a=i
  ·rw[show kvI ((a,b)::r)=((Sum.inl a:Key),V.int b)::kvI r from rfl,cF (show ((Sum.inl a:Key),V.int b).1=Sum.inl i by rw[e])]
   unfold dC
   rw[List.find?_cons_of_pos (by simpa using e)]
   rfl
  ·rw[show kvI ((a,b)::r)=((Sum.inl a:Key),V.int b)::kvI r from rfl,cI (show ¬((Sum.inl a:Key),V.int b).1=Sum.inl i from fun q=>e (Sum.inl.inj q)),jY i r]
   unfold dC
   rw[List.find?_cons_of_neg (by simpa using e)]
def cR (K:PySem.W.Frag) (mg:Str→Option Value) (x:Str) (l:List (Int×Int)):Prop:=
 ∃a,mg x=some (.ref a)∧(a==sysModules)=false∧∀(P:Program) (w:World) (h:Heap),K.In h→∃vs:List (Key×Value),KV (kvI l) vs∧h.DictOf (aX P w) a vs
section
variable {X:Cx} {σ:L2.St} {P:Hp→Prop} {a b c e o:Expr} {v:V} {i j:Int} {pos bpos:Pos} {D:Ends} {C p:Addr} {s:S} {rest:List Stmt}
theorem uC {d:Addr} {l:List (Int×Int)} (hs:(d==sysModules)=false) (hD:∀h:Heap,X.K.In h→∃vs:List (Key×Value),KV (kvI l) vs∧h.DictOf (aX X.prog X.w) d vs) :
  OpR X (compareOp .In) (fun x y H Q=>∃i,x=.int i∧y=.ref d∧Q (.bl (bM l i)) H):=by
 intro pins s σ H x y v u Q I rx ry h
 obtain ⟨i,rfl,rfl,q⟩:=h
 cases (show u=Value.ref d from ry)
 obtain ⟨vs,rel,dd⟩:=hD s.heap I.kIn
 refine wpAny_in_of (gB (k:=Sum.inl i) rx) hs dd.mapOf ?_
 rw[←(rel.val (Sum.inl i)).qK,jY,Option.isSome_map]
 exact ⟨.bl _,H,I.tok _,rfl,q⟩
theorem tF [Stb P] {x:Str} {l:List (Int×Int)} (ha:Ev X σ P a (.int i)) (hg:Gl X x) (hm:cR X.K X.mg x l) (hd:Nm x) (hmk:behindInMarks .In (.Name x bpos)=false):Ev X σ P (.Compare a [.In] [.Name x bpos] pos) (.bl (bM l i)):=by
 obtain ⟨t,hm,hs,hD⟩:=hm
 exact aR (aAx (uC hs (hD _ _)) ha.pe (fZ (v:=.ref t) hg hm rfl hd.d) hmk) fun H hp Q k=>⟨rfl,hp,fun H1 s1=>⟨i,rfl,rfl,k H1 s1⟩⟩
theorem vN [Stb P] {x:Str} {l:List (Int×Int)} (ha:Ev X σ P a (.int i)) (hg:Gl X x) (hm:cR X.K X.mg x l) (hd:Nm x) (hmk:behindInMarks .In (.Name x bpos)=false):Tv X σ P (.Compare a [.In] [.Name x bpos] pos) (bM l i):=by
 obtain ⟨t,hm,hs,hD⟩:=hm
 exact gZ (pK (uC hs (hD _ _)) ha.pe (fZ (v:=.ref t) hg hm rfl hd.d) hmk) fun H hp Q k=>⟨rfl,hp,fun H1 s1=>⟨i,rfl,rfl,_,rfl,k H1 s1⟩⟩
theorem nL [Stb P] {x:Str} {l:List (Int×Int)} (hg:Gl X x) (hm:cR X.K X.mg x l) (hd:Nm x) (hi:Ev X σ P e (.int i)) (hh:bM l i=true) (hs:qD e):Ev X σ P (.Subscript (.Name x bpos) e pos) (.int (dAt l i)):=by
 obtain ⟨t,hm,hS,hD⟩:=hm
 intro pins s H Q I hp k
 refine aD7 PySem.F.slot_dict_getitem.lookup hs (thn (fZ (v:=.ref t) hg hm rfl hd.d pins s σ H (fun u H1=>u=.ref t∧H1=H) I ⟨rfl,rfl⟩) fun u s1 ⟨y,H1,I1,ry,e1,e2⟩=>?_)
 subst e1 e2
 cases (show u=Value.ref t from ry)
 refine thn (hi pins s1 H1 (fun y H2=>y=.int i∧aB H1 H2) I1 hp fun H2 s2=>⟨rfl,s2⟩) fun iv s2 ⟨y,H2,I2,ry2,e3,q2⟩=>?_
 subst e3
 obtain ⟨vs,rel,dd⟩:=hD X.prog X.w s2.heap I2.kIn
 refine ⟨dd.typeIs,?_⟩
 obtain ⟨n,hn⟩:=Option.isSome_iff_exists.mp (show (dC l i).isSome=true from hh)
 obtain ⟨w',hw,rw'⟩:=bJ.some_of (v:=.int n) (o:=valueAt vs (Sum.inl i)) (by
  have:=rel.val (Sum.inl i:Key)
  rw[jY,hn] at this
  exact this)
 refine wpAny_getItem_of (gB (k:=Sum.inl i) ry2) dd.mapOf hw ⟨.int n,H2,I2.tok _,rw',?_⟩
 have e4:dAt l i=n:=by unfold dAt;rw[hn];rfl
 rw[←e4]
 exact k H2 q2
theorem cS [Stb P] {x:Str} {ps:List Str} {k:Nat} {sp:Sp} {es:List Expr} {vs:List V} {q spos:Pos} {P':Hp→Prop} (c:Cl X x ps k sp) (ha:EvL X σ P (e::es) vs) (hsp:∀H,P H→∀Q:VK,(∀v H',P' H'→Q v H')→sp vs H Q E0) (hrest:Sts X σ P' rest D)
  (hs:swapsWith (.Call (.Name x q) (e::es) [] pos) none spos.line X.env=pure false:=by rfl)
  (he:starEach (e::es) X.env=(false,eval e X.env)::starEach es X.env:=by rfl) (hpl:(backTo pos (starEach es X.env)).any (·.1)=false:=by rfl):Sts X σ P (.Expr (.Call (.Name x q) (e::es) [] pos) spos::rest) D:=
 Arm.aBf c.fc c.room c.gl c.nm.d ha hsp hrest hs he hpl
variable {Pg:Program} {w:World} {K:PySem.W.Frag} {mg:Str→Option Value} {base:Heap} {N:List Str} {sc:Scope} {k:Nat}
theorem Bd.mgd (B:Bd X Pg w K mg base N sc k) {x:Str} {l:List (Int×Int)} (h:cR K mg x l):cR X.K X.mg x l:=by rw[B.eK,B.eM];exact h
end
end Arm
end

section
set_option maxRecDepth 100000
namespace Arm
open PySem PySem.Spec PyProof.Rows L2
def top (i:Nat):Stmt:=PySem.Challenge.pw_condwords_s03_arm_interrupt.main.body.getD i (.Pass ⟨0,0,0,0⟩)
def nD:Stmt:=top 5
def lR:Stmt:=top 6
def mW:Stmt:=top 7
def lF:Stmt:=top 8
def lI:Stmt:=top 9
def oQ:Stmt:=top 18
def lY:Stmt:=top 19
def mK:Stmt:=top 20
def kD:Stmt:=top 21
def jU:Stmt:=top 22
def oT:Stmt:=top 23
def kH:Stmt:=top 24
def nZ:Stmt:=top 25
def mZ:Stmt:=top 27
def hE:Stmt:=top 32
def mT:Stmt:=top 33
def oC:Stmt:=top 34
abbrev dR:Stmt:=inClass (top 4) 0
abbrev dZ:Stmt:=inClass (top 4) 1
theorem qB:Nm "FAST_OUT":=⟨by decide +kernel,by decide +kernel⟩
theorem kJ:Nm "FIQ":=⟨by decide +kernel,by decide +kernel⟩
theorem qJ:Nm "INTERRUPTS_OUT":=⟨by decide +kernel,by decide +kernel⟩
theorem yE:Nm "IRQ":=⟨by decide +kernel,by decide +kernel⟩
theorem yG:Nm "KEPT_OUT":=⟨by decide +kernel,by decide +kernel⟩
theorem aCh:Nm "LET_IN":=⟨by decide +kernel,by decide +kernel⟩
theorem tO:Nm "MODE_BITS":=⟨by decide +kernel,by decide +kernel⟩
theorem gJ:Nm "PAIR_STARTS":=⟨by decide +kernel,by decide +kernel⟩
theorem qL:Nm "SAVED_INDEXES":=⟨by decide +kernel,by decide +kernel⟩
theorem aHa:Nm "STATE_REFUSAL":=⟨by decide +kernel,by decide +kernel⟩
theorem sX:Nm "STATUS_BITS":=⟨by decide +kernel,by decide +kernel⟩
theorem yY:Nm "WORD":=⟨by decide +kernel,by decide +kernel⟩
theorem qG:Nm "WORD_PLACES":=⟨by decide +kernel,by decide +kernel⟩
theorem yV:Nm "answer":=⟨by decide +kernel,by decide +kernel⟩
theorem pQ:Nm "back":=⟨by decide +kernel,by decide +kernel⟩
theorem zQ:Nm "change_sevens":=⟨by decide +kernel,by decide +kernel⟩
theorem bK:Nm "core":=⟨by decide +kernel,by decide +kernel⟩
theorem aD3:Nm "enter_exception":=⟨by decide +kernel,by decide +kernel⟩
theorem zP:Nm "fast":=⟨by decide +kernel,by decide +kernel⟩
theorem aBz:Nm "has_mode":=⟨by decide +kernel,by decide +kernel⟩
theorem aGp:Nm "interrupt":=⟨by decide +kernel,by decide +kernel⟩
theorem aGd:Nm "is_refused":=⟨by decide +kernel,by decide +kernel⟩
theorem sL:Nm "k":=⟨by decide +kernel,by decide +kernel⟩
theorem aEk:Nm "kept_out":=⟨by decide +kernel,by decide +kernel⟩
theorem aEt:Nm "load_byte":=⟨by decide +kernel,by decide +kernel⟩
theorem tD:Nm "load_word":=⟨by decide +kernel,by decide +kernel⟩
theorem uX:Nm "looks":=⟨by decide +kernel,by decide +kernel⟩
theorem aBw:Nm "mode":=⟨by decide +kernel,by decide +kernel⟩
theorem mE:Nm "mode_of":=⟨by decide +kernel,by decide +kernel⟩
theorem aC3:Nm "new":=⟨by decide +kernel,by decide +kernel⟩
theorem xM:Nm "number":=⟨by decide +kernel,by decide +kernel⟩
theorem qS:Nm "old":=⟨by decide +kernel,by decide +kernel⟩
theorem aCl:Nm "part":=⟨by decide +kernel,by decide +kernel⟩
theorem dM:Nm "place":=⟨by decide +kernel,by decide +kernel⟩
theorem sD:Nm "pokes":=⟨by decide +kernel,by decide +kernel⟩
theorem yS:Nm "put_pair_away":=⟨by decide +kernel,by decide +kernel⟩
theorem rB:Nm "self":=⟨by decide +kernel,by decide +kernel⟩
theorem zS:Nm "set_saved_status":=⟨by decide +kernel,by decide +kernel⟩
theorem aA3:Nm "sevens":=⟨by decide +kernel,by decide +kernel⟩
theorem wY:Nm "shift":=⟨by decide +kernel,by decide +kernel⟩
theorem qU:Nm "start":=⟨by decide +kernel,by decide +kernel⟩
theorem tZ:Nm "state":=⟨by decide +kernel,by decide +kernel⟩
theorem fH:Nm "status":=⟨by decide +kernel,by decide +kernel⟩
theorem aGk:Nm "store_byte":=⟨by decide +kernel,by decide +kernel⟩
theorem aDr:Nm "store_part":=⟨by decide +kernel,by decide +kernel⟩
theorem aE1:Nm "store_word":=⟨by decide +kernel,by decide +kernel⟩
theorem xF:Nm "take_pair":=⟨by decide +kernel,by decide +kernel⟩
theorem aEc:Nm "take_up":=⟨by decide +kernel,by decide +kernel⟩
theorem jW:Nm "value":=⟨by decide +kernel,by decide +kernel⟩
structure Tx (K:PySem.W.Frag) (mg:Str→Option Value) (C:Addr):Prop where
 ct:CT K C
 iU:mg "range" = none
 tP:mg "enumerate" = none
 mY:mg "len" = none
 lG:∃t,mg "WORD" = some (.int 4294967295 t)
 hZ:∃t,mg "STATUS_BITS" = some (.int 4026532063 t)
 iG:∃t,mg "WORD_PLACES" = some (.int 1048572 t)
 gC:∃t,mg "FIQ" = some (.int 17 t)
 lK:∃t,mg "IRQ" = some (.int 18 t)
 jK:∃t,mg "MODE_BITS" = some (.int 31 t)
 iC:∃t,mg "INTERRUPTS_OUT" = some (.int 128 t)
 iK:∃t,mg "FAST_OUT" = some (.int 64 t)
 nF:∃t,mg "STATE_REFUSAL" = some (.int (-2) t)
 kO:∃t,mg "KEPT_OUT" = some (.int 0 t)
 lX:∃t,mg "LET_IN" = some (.int 1 t)
 eO:cR K mg "PAIR_STARTS" aV
 hC:cR K mg "SAVED_INDEXES" cW
theorem Bd.ct {X:Cx} {P:Program} {w:World} {K:PySem.W.Frag} {mg:Str→Option Value} {base:Heap} {N:List Str} {sc:Scope} {k:Nat} {C:Addr} (B:Bd X P w K mg base N sc k) (T:Tx K mg C):CT X.K C:=by rw[B.eK];exact T.ct
end Arm
end

section
set_option maxRecDepth 100000
namespace Arm
open PySem PySem.Spec PyProof.Rows L2
def Fx (K:PySem.W.Frag) (mg:Str→Option Value) (x name:Str) (st:Stmt) (ps:List Str):Prop:=
 ∃f fd,Fun K name name st f fd∧mg x=some (.ref f)∧PySem.W.keepIn K (.ref f)=true∧Binds K fd ps []
theorem aDy {K:PySem.W.Frag} {h:Heap} {mg:Str→Option Value} {x name:Str} {st:Stmt} {ps:List Str} {f:Addr} {oc kV dc pm cd ct:Value} {od an:Option Addr} {sl:Array (Option Value)} (X:K.In h) (G:h.Ns mainGlobals mg)
  (a:PySem.W.nsIn K mainGlobals x=some (some (.ref f))) (l:K.lookup f=some ⟨oc,od,.func (PySem.W.fnOf name name (cX st) (cM st) (aI st) .none kV dc pm an cd ct),sl⟩) (c:PySem.W.codeIn K cd name=true) (k:PySem.W.keepIn K (.ref f)=true)
  (b:∀(kV doc pm:Value) (an:Option Addr) (cdv ct:Value) (us:List Value),us.length=ps.length→bindArgs (PySem.W.fnOf name name (cX st) (cM st) (aI st) .none kV doc pm an cdv ct) ⟨us,[]⟩=pure (ps.zip us)) :
  Fx K mg x name st ps:=⟨f,_,eU l c k,PySem.W.mg_of X G a,k,(eU (st:=st) l c k).binds b⟩
def FxM (K:PySem.W.Frag) (mg:Str→Option Value) (name:Str) (st:Stmt) (ps:List Str):Prop:=
 ∃f fd,Fun K name name st f fd∧mg name=some (.ref f)∧∀us:List Value,us.length=ps.length→bindArgs fd ⟨us,[]⟩=pure (ps.zip us)
theorem aB2 {K:PySem.W.Frag} {h:Heap} {mg:Str→Option Value} {name:Str} {st:Stmt} {ps:List Str} {f:Addr} {oc kV dc pm cd ct:Value} {od an:Option Addr} {sl:Array (Option Value)} (X:K.In h) (G:h.Ns mainGlobals mg)
  (a:PySem.W.nsIn K mainGlobals name=some (some (.ref f))) (l:K.lookup f=some ⟨oc,od,.func (PySem.W.fnOf name name (cX st) (cM st) (aI st) .none kV dc pm an cd ct),sl⟩) (c:PySem.W.codeIn K cd name=true) (k:PySem.W.keepIn K (.ref f)=true)
  (b:∀(kV doc pm:Value) (an:Option Addr) (cdv ct:Value) (us:List Value),us.length=ps.length→bindArgs (PySem.W.fnOf name name (cX st) (cM st) (aI st) .none kV doc pm an cdv ct) ⟨us,[]⟩=pure (ps.zip us)) :
  FxM K mg name st ps:=⟨f,_,eU l c k,PySem.W.mg_of X G a,b kV dc pm an cd ct⟩
theorem Fx.fc {P:Program} {w:World} {K:PySem.W.Frag} {mg:Str→Option Value} {base:Heap} {x name:Str} {st:Stmt} {ps:List Str} {k:Nat} {sp:Sp} (X:Fx K mg x name st ps) (h:∀f fd,Fun K name name st f fd→aH P w K mg base CX0 k f fd ps sp):Fc P w K mg base x ps k sp:=by
 obtain ⟨f,fd,F,m,kp,b⟩:=X
 exact ⟨f,fd,h f fd F,m,kp,b⟩
def dOk:List DictEntry→List (Int×Int)→Bool
 | [],[]=>true
 | e::es,(k,v)::l=>(match e.key with | .int i _=>i==k | _=>false)&&((match e.val with | .int j _=>j==v | _=>false)&&((e.hash==hashInt k)&&dOk es l))
 | _,_=>false
theorem pA (P:Program) (w:World):∀(es:List DictEntry) (l:List (Int×Int)),dOk es l=true→∃vs:List (Key×Value),KV (kvI l) vs∧Pairs (aX P w) es vs∧(∀e∈es,∃k,(aX P w).is k e.key=true∧e.hash=(aX P w).hash k)∧vs.map (·.1)=l.map fun kv=>(Sum.inl kv.1:Key)
 | [],[],_=>⟨[],.nil,.nil,fun _ h=>absurd h (by simp),rfl⟩
 | e::es,(k,v)::l,h=>by
  unfold dOk at h
  rw[Bool.and_eq_true,Bool.and_eq_true,Bool.and_eq_true] at h
  obtain ⟨h1,h2,h3,h4⟩:=h
  obtain ⟨vs,r1,r2,r3,r4⟩:=pA P w es l h4
  have k1:∃t,e.key=.int k t:=by
   cases q:e.key<;>rw[q] at h1<;>first | cases h1 | skip
   rename_i i t
   exact ⟨t,by rw[show i=k from eq_of_beq h1]⟩
  have k2:∃t,e.val=.int v t:=by
   cases q:e.val<;>rw[q] at h2<;>first | cases h2 | skip
   rename_i i t
   exact ⟨t,by rw[show i=v from eq_of_beq h2]⟩
  obtain ⟨t,k1⟩:=k1
  obtain ⟨u,k2⟩:=k2
  have is1:(aX P w).is (Sum.inl k) e.key=true:=by rw[k1];show Value.isInt k (.int k t)=true;simp [Value.isInt]
  refine ⟨((Sum.inl k:Key),e.val)::vs,.cons ⟨rfl,by rw[k2];exact ⟨u,rfl⟩⟩ r1,.cons is1 rfl r2,fun e' he=>?_,by rw[List.map_cons,List.map_cons,r4]⟩
  rcases List.mem_cons.mp he with rfl | he
  ·exact ⟨Sum.inl k,is1,eq_of_beq h3⟩
  ·exact r3 e' he
 | [],_::_,h=>by cases h
 | _::_,[],h=>by cases h
theorem pZ:∀{l:List (Int×Int)},(l.map (·.1)).Nodup→(l.map fun kv=>(Sum.inl kv.1:Key)).Nodup
 | [],_=>List.nodup_nil
 | a::r,h=>by
  obtain ⟨h1,h2⟩:=List.nodup_cons.mp h
  refine List.nodup_cons.mpr ⟨fun m=>h1 ?_,pZ h2⟩
  obtain ⟨q,hq,e⟩:=List.mem_map.mp m
  exact List.mem_map.mpr ⟨q,hq,Sum.inl.inj e⟩
theorem aEr {K:PySem.W.Frag} {h0:Heap} {mg:Str→Option Value} {x:Str} {l:List (Int×Int)} {d:Addr} {es:Array DictEntry} {ep:Nat} (X:K.In h0) (G:h0.Ns mainGlobals mg) (a:PySem.W.nsIn K mainGlobals x=some (some (.ref d)))
  (lk:K.lookup d=some ⟨.type "dict",none,.dict es ep,#[]⟩) (hs:(d==sysModules)=false) (nd:(l.map (·.1)).Nodup) (ok:dOk es.toList l=true):cR K mg x l:=
 ⟨d,PySem.W.mg_of X G a,hs,fun P w h Y=>by
  obtain ⟨vs,r1,r2,r3,r4⟩:=pA P w es.toList l ok
  exact ⟨vs,r1,_,es,ep,Y d _ lk,⟨rfl,rfl,rfl⟩,rfl,fun e he=>r3 e (by simpa using he),r2,by rw[r4];exact pZ nd⟩⟩
theorem aDh {K:PySem.W.Frag} {h:Heap} {mg:Str→Option Value} {x:Str} {n:Int} {t:Tok} (X:K.In h) (G:h.Ns mainGlobals mg) (a:PySem.W.nsIn K mainGlobals x=some (some (.int n t))):∃t,mg x=some (.int n t):=⟨t,PySem.W.mg_of X G a⟩
structure aFe (K:PySem.W.Frag) (mg:Str→Option Value) (C f1 f2:Addr) (fd1 fd2:FuncData):Prop where
 ct:CT K C
 mkC:Mk K C f1
 mgC:mg "Core" = some (.ref C)
 F1:Fun K "__init__" "Core.__init__" dR f1 fd1
 b1:Binds K fd1 ["self","state","pokes"] []
 F2:Fun K "numbers" "Core.numbers" dZ f2 fd2
 b2:Binds K fd2 ["self"] []
 m2:Meth K C "numbers" f2
def oI (K:PySem.W.Frag) (mg:Str→Option Value):Prop:=∃C f1 f2 fd1 fd2,aFe K mg C f1 f2 fd1 fd2
theorem yM {K:PySem.W.Frag} {h:Heap} {mg:Str→Option Value} {C f1 f2:Addr} {od1 an1 od2 an2:Option Addr} {sl1 sl2:Array (Option Value)} {oc1 kV1 dc1 pm1 cd1 ct1 oc2 kV2 dc2 pm2 cd2 ct2:Value} (X:K.In h) (G:h.Ns mainGlobals mg)
  (aC:PySem.W.nsIn K mainGlobals "Core" = some (some (.ref C)))
  (a1:PySem.W.findIn K (.ref C) "__init__" = some (some (.ref f1))) (i1:PySem.W.isFn K (.ref f1)=true) (l1:K.lookup f1=some ⟨oc1,od1,.func (PySem.W.fnOf "__init__" "Core.__init__" (cX dR) (cM dR) (aI dR) .none kV1 dc1 pm1 an1 cd1 ct1),sl1⟩) (c1:PySem.W.codeIn K cd1 "Core.__init__" = true) (k1:PySem.W.keepIn K (.ref f1)=true)
  (a2:PySem.W.findIn K (.ref C) "numbers" = some (some (.ref f2))) (i2:PySem.W.isFn K (.ref f2)=true) (l2:K.lookup f2=some ⟨oc2,od2,.func (PySem.W.fnOf "numbers" "Core.numbers" (cX dZ) (cM dZ) (aI dZ) .none kV2 dc2 pm2 an2 cd2 ct2),sl2⟩) (c2:PySem.W.codeIn K cd2 "Core.numbers" = true) (k2:PySem.W.keepIn K (.ref f2)=true)
  (pg:PySem.W.plainGet K C Str.empty=true) (hd:PySem.W.hasDictIn K C=true) (po:PySem.W.plainOver K C=true) (sa:PySem.W.findIn K (.ref C) "__setattr__" = some (some (.builtin "object.__setattr__"))) (mk:PySem.W.makesIn K C=true) (kc:PySem.W.keepIn K (.ref C)=true)
  (n1:PySem.W.findIn K (.ref C) "regs" = some none) (n2:PySem.W.findIn K (.ref C) "high" = some none) (n3:PySem.W.findIn K (.ref C) "banks" = some none) (n4:PySem.W.findIn K (.ref C) "status" = some none) (n5:PySem.W.findIn K (.ref C) "saved" = some none) (n6:PySem.W.findIn K (.ref C) "words" = some none):oI K mg:=
 ⟨C,f1,f2,_,_,⟨⟨pg,hd,po,sa⟩,n1,n2,n3,n4,n5,n6⟩,⟨mk,a1,i1,kc⟩,PySem.W.mg_of X G aC,eU (st:=dR) l1 c1 k1,(eU (st:=dR) l1 c1 k1).binds fun _ _ _ _ _ _ us hl=>match us,hl with | [_,_,_],_=>rfl,
  eU (st:=dZ) l2 c2 k2,(eU (st:=dZ) l2 c2 k2).binds fun _ _ _ _ _ _ us hl=>match us,hl with | [_],_=>rfl,⟨a2,i2,k2⟩⟩
end Arm
end

section
set_option maxRecDepth 100000
namespace Arm
open PySem PySem.Spec PyProof.Rows L2
structure qP (K:PySem.W.Frag) (mg:Str→Option Value):Prop where
 aFr:Fx K mg "load_byte" "load_byte" nD ["core","place"]
 aFn:Fx K mg "load_word" "load_word" lR ["core","place"]
 aGm:Fx K mg "store_byte" "store_byte" mW ["core","place","value"]
 aCv:Fx K mg "store_part" "store_part" lF ["core","place","value","part","shift"]
 aGy:Fx K mg "store_word" "store_word" lI ["core","place","value"]
 yA:Fx K mg "mode_of" "mode_of" oQ ["status"]
 aEo:Fx K mg "has_mode" "has_mode" lY ["status"]
 aEz:Fx K mg "set_saved_status" "set_saved_status" mK ["core","status"]
 aCw:Fx K mg "take_up" "take_up" kD ["core","status"]
 zB:Fx K mg "put_pair_away" "put_pair_away" jU ["core","start"]
 aEi:Fx K mg "take_pair" "take_pair" oT ["core","start"]
 zW:Fx K mg "change_sevens" "change_sevens" kH ["core"]
 zZ:Fx K mg "enter_exception" "enter_exception" nZ ["core","mode","place","back"]
 aGs:Fx K mg "interrupt" "interrupt" mZ ["core","is_fast"]
 zC:Fx K mg "is_refused" "is_refused" mT ["core"]
 aCi:Fx K mg "answer" "answer" oC ["number","core","looks"]
structure GlX (K:PySem.W.Frag) (mg:Str→Option Value):Prop where
 iU:mg "range" = none
 tP:mg "enumerate" = none
 mY:mg "len" = none
 lG:∃t,mg "WORD" = some (.int 4294967295 t)
 hZ:∃t,mg "STATUS_BITS" = some (.int 4026532063 t)
 iG:∃t,mg "WORD_PLACES" = some (.int 1048572 t)
 gC:∃t,mg "FIQ" = some (.int 17 t)
 lK:∃t,mg "IRQ" = some (.int 18 t)
 jK:∃t,mg "MODE_BITS" = some (.int 31 t)
 iC:∃t,mg "INTERRUPTS_OUT" = some (.int 128 t)
 iK:∃t,mg "FAST_OUT" = some (.int 64 t)
 nF:∃t,mg "STATE_REFUSAL" = some (.int (-2) t)
 kO:∃t,mg "KEPT_OUT" = some (.int 0 t)
 lX:∃t,mg "LET_IN" = some (.int 1 t)
 eO:cR K mg "PAIR_STARTS" aV
 hC:cR K mg "SAVED_INDEXES" cW
end Arm
end

section
set_option maxRecDepth 100000
namespace Arm
open PySem PySem.Spec PyProof.Rows L2
def oJ (C:Addr):Sp:=fun vs H Q _=>∃(p:Addr) (s:S),vs=[.ref p]∧aG C H p s∧True∧∀H',aG C H' p (M.cC s)→Fr p H H'→Q .non H'
theorem aDz {C p:Addr} {H0:Hp} {s:S} (pre:True):∀H,CP C p H0 s H→∀Q:VK,(∀v H',CP C p H0 (M.cC s) H'→Q v H')→oJ C [.ref p] H Q E0:=fun H h Q k=>⟨_,_,rfl,h.1,pre,fun H2 c2 f2=>k _ H2 ⟨c2,h.2.trans f2⟩⟩
abbrev pO (P:Program) (w:World) (K:PySem.W.Frag) (mg:Str→Option Value) (base:Heap) (C:Addr):Prop:=Fc P w K mg base "change_sevens" ["core"] 1 (oJ C)
def mU (C:Addr):Sp:=fun vs H Q _=>∃(p:Addr) (s:S) (place:Int),vs=[.ref p,.int place]∧aG C H p s∧(True)∧∀H',aB H H'→Q (.int (M.bN s place)) H'
theorem sG {C p:Addr} {s:S} {Pp:Hp→Prop} [Cor Pp C p s] {place:Int} (pre:True):∀H,Pp H→∀Q:VK,(∀H',aB H H'→Q (.int (M.bN s place)) H')→mU C [.ref p,.int place] H Q E0:=fun H h Q k=>⟨_,_,_,rfl,Cor.co H h,pre,k⟩
abbrev nN (P:Program) (w:World) (K:PySem.W.Frag) (mg:Str→Option Value) (base:Heap) (C:Addr):Prop:=Fc P w K mg base "load_word" ["core","place"] 1 (mU C)
def sC (C:Addr):Sp:=fun vs H Q _=>∃(p:Addr) (s:S) (place:Int),vs=[.ref p,.int place]∧aG C H p s∧(True)∧∀H',aB H H'→Q (.int (M.eY s place)) H'
abbrev rL (P:Program) (w:World) (K:PySem.W.Frag) (mg:Str→Option Value) (base:Heap) (C:Addr):Prop:=Fc P w K mg base "load_byte" ["core","place"] 2 (sC C)
def kZ (C:Addr):Sp:=fun vs H Q _=>∃(p:Addr) (s:S) (place value:Int),vs=[.ref p,.int place,.int value]∧aG C H p s∧(0≤value∧value<4294967296)∧∀H',aG C H' p (M.fA s place value)→Fr p H H'→Q .non H'
theorem aBj {C p:Addr} {H0:Hp} {s:S} {place value:Int} (pre:0≤value∧value<4294967296):∀H,CP C p H0 s H→∀Q:VK,(∀v H',CP C p H0 (M.fA s place value) H'→Q v H')→kZ C [.ref p,.int place,.int value] H Q E0:=fun H h Q k=>⟨_,_,_,_,rfl,h.1,pre,fun H2 c2 f2=>k _ H2 ⟨c2,h.2.trans f2⟩⟩
abbrev vH (P:Program) (w:World) (K:PySem.W.Frag) (mg:Str→Option Value) (base:Heap) (C:Addr):Prop:=Fc P w K mg base "store_word" ["core","place","value"] 1 (kZ C)
def lA (C:Addr):Sp:=fun vs H Q _=>∃(p:Addr) (s:S) (place value part shift:Int),vs=[.ref p,.int place,.int value,.int part,.int shift]∧aG C H p s∧((part=255∧(shift=0∨shift=8∨shift=16∨shift=24))∨(part=65535∧(shift=0∨shift=16)))∧∀H',aG C H' p (M.jJ s place value part shift)→Fr p H H'→Q .non H'
theorem aAs {C p:Addr} {H0:Hp} {s:S} {place value part shift:Int} (pre:(part=255∧(shift=0∨shift=8∨shift=16∨shift=24))∨(part=65535∧(shift=0∨shift=16))):∀H,CP C p H0 s H→∀Q:VK,(∀v H',CP C p H0 (M.jJ s place value part shift) H'→Q v H')→lA C [.ref p,.int place,.int value,.int part,.int shift] H Q E0:=fun H h Q k=>⟨_,_,_,_,_,_,rfl,h.1,pre,fun H2 c2 f2=>k _ H2 ⟨c2,h.2.trans f2⟩⟩
abbrev pC (P:Program) (w:World) (K:PySem.W.Frag) (mg:Str→Option Value) (base:Heap) (C:Addr):Prop:=Fc P w K mg base "store_part" ["core","place","value","part","shift"] 2 (lA C)
def tR (C:Addr):Sp:=fun vs H Q _=>∃(p:Addr) (s:S) (place value:Int),vs=[.ref p,.int place,.int value]∧aG C H p s∧(True)∧∀H',aG C H' p (M.cD s place value)→Fr p H H'→Q .non H'
abbrev rH (P:Program) (w:World) (K:PySem.W.Frag) (mg:Str→Option Value) (base:Heap) (C:Addr):Prop:=Fc P w K mg base "store_byte" ["core","place","value"] 3 (tR C)
def nT:Sp:=fun vs H Q _=>∃(status:Int),vs=[.int status]∧(True)∧∀H',aB H H'→Q (.int (M.bG status)) H'
theorem gW {Pp:Hp→Prop} {status:Int} (pre:True):∀H,Pp H→∀Q:VK,(∀H',aB H H'→Q (.int (M.bG status)) H')→nT [.int status] H Q E0:=fun H h Q k=>⟨_,rfl,pre,k⟩
abbrev iO (P:Program) (w:World) (K:PySem.W.Frag) (mg:Str→Option Value) (base:Heap) (C:Addr):Prop:=Fc P w K mg base "mode_of" ["status"] 1 (nT)
def kG:Sp:=fun vs H Q _=>∃(status:Int),vs=[.int status]∧(True)∧∀H',aB H H'→Q (.bl (M.fX status)) H'
theorem aGn {Pp:Hp→Prop} {status:Int} (pre:True):∀H,Pp H→∀Q:VK,(∀H',aB H H'→Q (.bl (M.fX status)) H')→kG [.int status] H Q E0:=fun H h Q k=>⟨_,rfl,pre,k⟩
abbrev qY (P:Program) (w:World) (K:PySem.W.Frag) (mg:Str→Option Value) (base:Heap) (C:Addr):Prop:=Fc P w K mg base "has_mode" ["status"] 2 (kG)
def lQ (C:Addr):Sp:=fun vs H Q _=>∃(p:Addr) (s:S) (status:Int),vs=[.ref p,.int status]∧aG C H p s∧(M.jQ s=true∧0≤status∧status<4294967296)∧∀H',aG C H' p (M.iP s status)→Fr p H H'→Q .non H'
theorem xI {C p:Addr} {H0:Hp} {s:S} {status:Int} (pre:M.jQ s=true∧0≤status∧status<4294967296):∀H,CP C p H0 s H→∀Q:VK,(∀v H',CP C p H0 (M.iP s status) H'→Q v H')→lQ C [.ref p,.int status] H Q E0:=fun H h Q k=>⟨_,_,_,rfl,h.1,pre,fun H2 c2 f2=>k _ H2 ⟨c2,h.2.trans f2⟩⟩
abbrev uF (P:Program) (w:World) (K:PySem.W.Frag) (mg:Str→Option Value) (base:Heap) (C:Addr):Prop:=Fc P w K mg base "set_saved_status" ["core","status"] 2 (lQ C)
def lO (C:Addr):Sp:=fun vs H Q _=>∃(p:Addr) (s:S) (start:Int),vs=[.ref p,.int start]∧aG C H p s∧(0≤start∧start≤8)∧∀H',aG C H' p (M.cP s start)→Fr p H H'→Q .non H'
theorem aGa {C p:Addr} {H0:Hp} {s:S} {start:Int} (pre:0≤start∧start≤8):∀H,CP C p H0 s H→∀Q:VK,(∀v H',CP C p H0 (M.cP s start) H'→Q v H')→lO C [.ref p,.int start] H Q E0:=fun H h Q k=>⟨_,_,_,rfl,h.1,pre,fun H2 c2 f2=>k _ H2 ⟨c2,h.2.trans f2⟩⟩
abbrev rE (P:Program) (w:World) (K:PySem.W.Frag) (mg:Str→Option Value) (base:Heap) (C:Addr):Prop:=Fc P w K mg base "put_pair_away" ["core","start"] 1 (lO C)
def kX (C:Addr):Sp:=fun vs H Q _=>∃(p:Addr) (s:S) (start:Int),vs=[.ref p,.int start]∧aG C H p s∧(0≤start∧start≤8)∧∀H',aG C H' p (M.dW s start)→Fr p H H'→Q .non H'
theorem aD5 {C p:Addr} {H0:Hp} {s:S} {start:Int} (pre:0≤start∧start≤8):∀H,CP C p H0 s H→∀Q:VK,(∀v H',CP C p H0 (M.dW s start) H'→Q v H')→kX C [.ref p,.int start] H Q E0:=fun H h Q k=>⟨_,_,_,rfl,h.1,pre,fun H2 c2 f2=>k _ H2 ⟨c2,h.2.trans f2⟩⟩
abbrev oZ (P:Program) (w:World) (K:PySem.W.Frag) (mg:Str→Option Value) (base:Heap) (C:Addr):Prop:=Fc P w K mg base "take_pair" ["core","start"] 1 (kX C)
def mR (C:Addr):Sp:=fun vs H Q _=>∃(p:Addr) (s:S) (status:Int),vs=[.ref p,.int status]∧aG C H p s∧(0≤status∧status<4294967296)∧∀H',aG C H' p (M.cN s status)→Fr p H H'→Q .non H'
theorem aAb {C p:Addr} {H0:Hp} {s:S} {status:Int} (pre:0≤status∧status<4294967296):∀H,CP C p H0 s H→∀Q:VK,(∀v H',CP C p H0 (M.cN s status) H'→Q v H')→mR C [.ref p,.int status] H Q E0:=fun H h Q k=>⟨_,_,_,rfl,h.1,pre,fun H2 c2 f2=>k _ H2 ⟨c2,h.2.trans f2⟩⟩
abbrev tH (P:Program) (w:World) (K:PySem.W.Frag) (mg:Str→Option Value) (base:Heap) (C:Addr):Prop:=Fc P w K mg base "take_up" ["core","status"] 2 (mR C)
def lJ (C:Addr):Sp:=fun vs H Q _=>∃(p:Addr) (s:S) (mode place back:Int),vs=[.ref p,.int mode,.int place,.int back]∧aG C H p s∧((mode=17∨mode=18∨mode=19∨mode=23∨mode=27)∧0≤place∧place<4294967296∧0≤back∧back<4294967296)∧∀H',aG C H' p (M.fQ s mode place back)→Fr p H H'→Q .non H'
theorem sF {C p:Addr} {H0:Hp} {s:S} {mode place back:Int} (pre:(mode=17∨mode=18∨mode=19∨mode=23∨mode=27)∧0≤place∧place<4294967296∧0≤back∧back<4294967296):∀H,CP C p H0 s H→∀Q:VK,(∀v H',CP C p H0 (M.fQ s mode place back) H'→Q v H')→lJ C [.ref p,.int mode,.int place,.int back] H Q E0:=fun H h Q k=>⟨_,_,_,_,_,rfl,h.1,pre,fun H2 c2 f2=>k _ H2 ⟨c2,h.2.trans f2⟩⟩
abbrev uU (P:Program) (w:World) (K:PySem.W.Frag) (mg:Str→Option Value) (base:Heap) (C:Addr):Prop:=Fc P w K mg base "enter_exception" ["core","mode","place","back"] 3 (lJ C)
def mD (C:Addr):Sp:=fun vs H Q _=>∃(p:Addr) (s:S),vs=[.ref p]∧aG C H p s∧(True)∧∀H',aB H H'→Q (.bl (M.dI s)) H'
theorem aDd {C p:Addr} {s:S} {Pp:Hp→Prop} [Cor Pp C p s] (pre:True):∀H,Pp H→∀Q:VK,(∀H',aB H H'→Q (.bl (M.dI s)) H')→mD C [.ref p] H Q E0:=fun H h Q k=>⟨_,_,rfl,Cor.co H h,pre,k⟩
abbrev vE (P:Program) (w:World) (K:PySem.W.Frag) (mg:Str→Option Value) (base:Heap) (C:Addr):Prop:=Fc P w K mg base "is_refused" ["core"] 3 (mD C)
end Arm
end

section
set_option maxRecDepth 100000
namespace Arm
open PySem PySem.Spec PyProof.Rows L2
section
variable {P:Program} {w:World} {K:PySem.W.Frag} {mg:Str→Option Value} {base:Heap} {C:Addr}
theorem wR:aP ["core","place"] ["core","place"] (aI lR):=⟨rfl,rfl,rfl,by decide +kernel,rfl,by decide +kernel,by decide +kernel⟩
theorem aDk {f:Addr} {fd:FuncData} (F:Fun K "load_word" "load_word" lR f fd) (T:Tx K mg C):aH P w K mg base CX0 1 f fd ["core","place"] (mU C):=by
 refine bD F wR (fun vs H Q E h=>?_) (fun X B vs H Q E h=>?_)
 ·obtain ⟨_,_,_,rfl,_⟩:=h;rfl
 ·obtain ⟨p,s,place,rfl,hc,pre,k⟩:=h
  have hw:=hc.wf
  have aD:Vr X 0 "core":=B.vr rfl rfl bK
  have bQ:Vr X 1 "place":=B.vr rfl rfl dM
  have jS:=B.gi T.iG rfl qG
  refine ⟨RP C p H s,⟨hc,aB.refl H⟩,?_⟩
  show Sts X [some (.ref p),some (.int place)] _ _ _
  have r1:=bW (place) 1048572
  have r2:=hw.wm ((Builtin.bitAnd place 1048572))
  refine eQ (zI (B.ct T) (B.hu) (aA aD rfl) (bX (aA bQ rfl) (bF jS)) aN rfl ⟨rfl,rfl,rfl,rfl⟩) (fun H1 hP H2 s2=>?_)
  skip
  exact k H2 ((Sam.sa H1 hP).trans s2)
theorem yW:aP ["core","place"] ["core","place"] (aI nD):=⟨rfl,rfl,rfl,by decide +kernel,rfl,by decide +kernel,by decide +kernel⟩
theorem zF {f:Addr} {fd:FuncData} (F:Fun K "load_byte" "load_byte" nD f fd) (T:Tx K mg C) (fL:nN P w K mg base C):aH P w K mg base CX0 2 f fd ["core","place"] (sC C):=by
 refine bD F yW (fun vs H Q E h=>?_) (fun X B vs H Q E h=>?_)
 ·obtain ⟨_,_,_,rfl,_⟩:=h;rfl
 ·obtain ⟨p,s,place,rfl,hc,pre,k⟩:=h
  have hw:=hc.wf
  have aD:Vr X 0 "core":=B.vr rfl rfl bK
  have bQ:Vr X 1 "place":=B.vr rfl rfl dM
  have kF:=B.cl fL rfl tD (by decide)
  refine ⟨RP C p H s,⟨hc,aB.refl H⟩,?_⟩
  show Sts X [some (.ref p),some (.int place)] _ _ _
  have r1:=M.oS hw (place)
  have r2:=bW (place) 3
  have r3:=bW (((M.bN s place)/2^Int.toNat (8*(Builtin.bitAnd place 3)))) 255
  refine eQ (bX (aHc (cY kF (aF (aA aD rfl) (aF (aA bQ rfl) aO)) (sG trivial)) (pN aN (bX (aA bQ rfl) aN) (by omega)) (by omega)) aN) (fun H1 hP H2 s2=>?_)
  skip
  exact k H2 ((Sam.sa H1 hP).trans s2)
theorem yB:aP ["core","place","value"] ["core","place","value"] (aI lI):=⟨rfl,rfl,rfl,by decide +kernel,rfl,by decide +kernel,by decide +kernel⟩
theorem aG5 {f:Addr} {fd:FuncData} (F:Fun K "store_word" "store_word" lI f fd) (T:Tx K mg C):aH P w K mg base CX0 1 f fd ["core","place","value"] (kZ C):=by
 refine bD F yB (fun vs H Q E h=>?_) (fun X B vs H Q E h=>?_)
 ·obtain ⟨_,_,_,_,rfl,_⟩:=h;rfl
 ·obtain ⟨p,s,place,value,rfl,hc,pre,k⟩:=h
  have hw:=hc.wf
  have aD:Vr X 0 "core":=B.vr rfl rfl bK
  have bQ:Vr X 1 "place":=B.vr rfl rfl dM
  have gG:Vr X 2 "value":=B.vr rfl rfl jW
  have jS:=B.gi T.iG rfl qG
  refine ⟨CP C p H s,⟨hc,Fr.refl p H⟩,?_⟩
  show Sts X [some (.ref p),some (.int place),some (.int value)] _ _ _
  have r1:=bW (place) 1048572
  refine xG (B.ct T) (B.hu) (aA aD rfl) (bX (aA bQ rfl) (bF jS)) (aA gG rfl) (by omega) (by omega) ?_ rfl rfl
  exact bE (fun H1 hP=>k H1 hP.1 hP.2)
theorem aGg:aP ["core","place","value","part","shift"] ["core","place","value","part","shift"] (aI lF):=⟨rfl,rfl,rfl,by decide +kernel,rfl,by decide +kernel,by decide +kernel⟩
theorem yH {f:Addr} {fd:FuncData} (F:Fun K "store_part" "store_part" lF f fd) (T:Tx K mg C) (fL:nN P w K mg base C) (kP:vH P w K mg base C):aH P w K mg base CX0 2 f fd ["core","place","value","part","shift"] (lA C):=by
 refine bD F aGg (fun vs H Q E h=>?_) (fun X B vs H Q E h=>?_)
 ·obtain ⟨_,_,_,_,_,_,rfl,_⟩:=h;rfl
 ·obtain ⟨p,s,place,value,part,shift,rfl,hc,pre,k⟩:=h
  have hw:=hc.wf
  have aD:Vr X 0 "core":=B.vr rfl rfl bK
  have bQ:Vr X 1 "place":=B.vr rfl rfl dM
  have gG:Vr X 2 "value":=B.vr rfl rfl jW
  have sO:Vr X 3 "part":=B.vr rfl rfl aCl
  have sI:Vr X 4 "shift":=B.vr rfl rfl wY
  have kF:=B.cl fL rfl tD (by decide)
  have wD:=B.cl kP rfl aE1 (by decide)
  refine ⟨CP C p H s,⟨hc,Fr.refl p H⟩,?_⟩
  show Sts X [some (.ref p),some (.int place),some (.int value),some (.int part),some (.int shift)] _ _ _
  have r1:=M.oS hw (place)
  refine cS wD (aF (aA aD rfl) (aF (aA bQ rfl) (aF (iY (bX (cY kF (aF (aA aD rfl) (aF (aA bQ rfl) aO)) (sG trivial)) (tL (tK (aA sO rfl) (aA sI rfl) (by first | omega | exact jP hw pre | exact uN pre | exact lB pre)))) (tK (bX (aA gG rfl) (aA sO rfl)) (aA sI rfl) (by first | omega | exact jP hw pre | exact uN pre | exact lB pre))) aO))) (aBj (by first | omega | exact jP hw pre | exact uN pre | exact lB pre)) ?_
  exact bE (fun H1 hP=>k H1 hP.1 hP.2)
theorem aGz:aP ["core","place","value"] ["core","place","value"] (aI mW):=⟨rfl,rfl,rfl,by decide +kernel,rfl,by decide +kernel,by decide +kernel⟩
theorem aBp {f:Addr} {fd:FuncData} (F:Fun K "store_byte" "store_byte" mW f fd) (T:Tx K mg C) (kU:pC P w K mg base C):aH P w K mg base CX0 3 f fd ["core","place","value"] (tR C):=by
 refine bD F aGz (fun vs H Q E h=>?_) (fun X B vs H Q E h=>?_)
 ·obtain ⟨_,_,_,_,rfl,_⟩:=h;rfl
 ·obtain ⟨p,s,place,value,rfl,hc,pre,k⟩:=h
  have hw:=hc.wf
  have aD:Vr X 0 "core":=B.vr rfl rfl bK
  have bQ:Vr X 1 "place":=B.vr rfl rfl dM
  have gG:Vr X 2 "value":=B.vr rfl rfl jW
  have aF7:=B.cl kU rfl aDr (by decide)
  refine ⟨CP C p H s,⟨hc,Fr.refl p H⟩,?_⟩
  show Sts X [some (.ref p),some (.int place),some (.int value)] _ _ _
  have r1:=bW (place) 3
  refine cS aF7 (aF (aA aD rfl) (aF (aA bQ rfl) (aF (aA gG rfl) (aF aN (aF (pN aN (bX (aA bQ rfl) aN) (by first | omega | exact kM _)) aO))))) (aAs (by first | omega | exact kM _)) ?_
  exact bE (fun H1 hP=>k H1 hP.1 hP.2)
theorem aFs:aP ["status"] ["status"] (aI oQ):=⟨rfl,rfl,rfl,by decide +kernel,rfl,by decide +kernel,by decide +kernel⟩
theorem aF0 {f:Addr} {fd:FuncData} (F:Fun K "mode_of" "mode_of" oQ f fd) (T:Tx K mg C):aH P w K mg base CX0 1 f fd ["status"] (nT):=by
 refine bD F aFs (fun vs H Q E h=>?_) (fun X B vs H Q E h=>?_)
 ·obtain ⟨_,rfl,_⟩:=h;rfl
 ·obtain ⟨status,rfl,pre,k⟩:=h
  have dB:Vr X 0 "status":=B.vr rfl rfl fH
  have lT:=B.gi T.jK rfl tO
  refine ⟨aB H,aB.refl H,?_⟩
  show Sts X [some (.int status)] _ _ _
  have r1:=bW (status) 31
  refine eQ (bX (aA dB rfl) (bF lT)) (fun H1 hP H2 s2=>?_)
  skip
  exact k H2 ((Sam.sa H1 hP).trans s2)
theorem aB3:aP ["status"] ["status"] (aI lY):=⟨rfl,rfl,rfl,by decide +kernel,rfl,by decide +kernel,by decide +kernel⟩
theorem aFy {f:Addr} {fd:FuncData} (F:Fun K "has_mode" "has_mode" lY f fd) (T:Tx K mg C) (dD:iO P w K mg base C):aH P w K mg base CX0 2 f fd ["status"] (kG):=by
 refine bD F aB3 (fun vs H Q E h=>?_) (fun X B vs H Q E h=>?_)
 ·obtain ⟨_,rfl,_⟩:=h;rfl
 ·obtain ⟨status,rfl,pre,k⟩:=h
  have dB:Vr X 0 "status":=B.vr rfl rfl fH
  have fI:Gl X "PAIR_STARTS":=B.g rfl
  have mJ:Gl X "SAVED_INDEXES":=B.g rfl
  have eD:=B.cl dD rfl mE (by decide)
  refine ⟨aB H,aB.refl H,?_⟩
  show Sts X [some (.int status)] _ _ _
  have r1:=M.jC (status)
  refine eQ (pV (tF (cY eD (aF (aA dB rfl) aO) (gW trivial)) fI (B.mgd T.eO) gJ (by with_unfolding_all rfl)) (fun hq=>(vG (tF (cY eD (aF (aA dB rfl) aO) (gW trivial)) mJ (B.mgd T.hC) qL (by with_unfolding_all rfl))))) (fun H1 hP H2 s2=>?_)
  skip
  exact k H2 ((Sam.sa H1 hP).trans s2)
theorem xE:aP ["core","status"] ["core","status"] (aI mK):=⟨rfl,rfl,rfl,by decide +kernel,rfl,by decide +kernel,by decide +kernel⟩
theorem aG4 {f:Addr} {fd:FuncData} (F:Fun K "set_saved_status" "set_saved_status" mK f fd) (T:Tx K mg C) (dD:iO P w K mg base C):aH P w K mg base CX0 2 f fd ["core","status"] (lQ C):=by
 refine bD F xE (fun vs H Q E h=>?_) (fun X B vs H Q E h=>?_)
 ·obtain ⟨_,_,_,rfl,_⟩:=h;rfl
 ·obtain ⟨p,s,status,rfl,hc,pre,k⟩:=h
  have hw:=hc.wf
  have aD:Vr X 0 "core":=B.vr rfl rfl bK
  have dB:Vr X 1 "status":=B.vr rfl rfl fH
  have mJ:Gl X "SAVED_INDEXES":=B.g rfl
  have eD:=B.cl dD rfl mE (by decide)
  refine ⟨CP C p H s,⟨hc,Fr.refl p H⟩,?_⟩
  show Sts X [some (.ref p),some (.int status)] _ _ _
  have r1:=M.jC ((s).status)
  have r2:=aEp ((M.bG (s).status))
  refine aAn (B.ct T) (aA aD rfl) (nL mJ (B.mgd T.hC) qL (cY eD (aF (fF (B.ct T) (aA aD rfl) rfl) aO) (gW trivial)) (by first | omega | exact pre.1) (fun _ _=>rfl)) (aA dB rfl) (by first | omega | exact pre.1) (by first | omega | exact pre.1) ?_ rfl rfl rfl rfl (by intro _;rfl)
  exact bE (fun H1 hP=>k H1 hP.1 hP.2)
end
end Arm
end

section
set_option maxRecDepth 100000
namespace Arm
open PySem PySem.Spec PyProof.Rows L2
section
variable {P:Program} {w:World} {K:PySem.W.Frag} {mg:Str→Option Value} {base:Heap} {C:Addr}
theorem xR:aP ["core","start"] ["core","start"] (aI jU):=⟨rfl,rfl,rfl,by decide +kernel,rfl,by decide +kernel,by decide +kernel⟩
theorem aAi {f:Addr} {fd:FuncData} (F:Fun K "put_pair_away" "put_pair_away" jU f fd) (T:Tx K mg C):aH P w K mg base CX0 1 f fd ["core","start"] (lO C):=by
 refine bD F xR (fun vs H Q E h=>?_) (fun X B vs H Q E h=>?_)
 ·obtain ⟨_,_,_,rfl,_⟩:=h;rfl
 ·obtain ⟨p,s,start,rfl,hc,pre,k⟩:=h
  have hw:=hc.wf
  have aD:Vr X 0 "core":=B.vr rfl rfl bK
  have fY:Vr X 1 "start":=B.vr rfl rfl qU
  refine ⟨CP C p H s,⟨hc,Fr.refl p H⟩,?_⟩
  show Sts X [some (.ref p),some (.int start)] _ _ _
  have r1:=hw.rr (13)
  refine pM (B.ct T) (aA aD rfl) (aA fY rfl) (iB (B.ct T) (aA aD rfl) aN (by omega) rfl (fun _ _=>rfl)) (by omega) (by omega) ?_ rfl rfl rfl rfl (by intro _;rfl)
  refine dX (fun s2 cB hw2=>?_)
  have r2:=hw2.rr (14)
  refine pM (B.ct T) (aA aD rfl) (gO (aA fY rfl) aN) (iB (B.ct T) (aA aD rfl) aN (by omega) rfl (fun _ _=>rfl)) (by omega) (by omega) ?_ rfl rfl rfl rfl (by intro _;rfl)
  subst cB
  exact bE (fun H1 hP=>k H1 hP.1 hP.2)
theorem wX:aP ["core","start"] ["core","start"] (aI oT):=⟨rfl,rfl,rfl,by decide +kernel,rfl,by decide +kernel,by decide +kernel⟩
theorem aEw {f:Addr} {fd:FuncData} (F:Fun K "take_pair" "take_pair" oT f fd) (T:Tx K mg C):aH P w K mg base CX0 1 f fd ["core","start"] (kX C):=by
 refine bD F wX (fun vs H Q E h=>?_) (fun X B vs H Q E h=>?_)
 ·obtain ⟨_,_,_,rfl,_⟩:=h;rfl
 ·obtain ⟨p,s,start,rfl,hc,pre,k⟩:=h
  have hw:=hc.wf
  have aD:Vr X 0 "core":=B.vr rfl rfl bK
  have fY:Vr X 1 "start":=B.vr rfl rfl qU
  refine ⟨CP C p H s,⟨hc,Fr.refl p H⟩,?_⟩
  show Sts X [some (.ref p),some (.int start)] _ _ _
  have r1:=hw.rb (start)
  refine gY (B.ct T) (aA aD rfl) aN (pB (B.ct T) (aA aD rfl) (aA fY rfl) (by omega) rfl (fun _ _=>rfl)) (by omega) (by omega) ?_ rfl rfl rfl rfl (by intro _;rfl)
  refine dX (fun s2 cB hw2=>?_)
  have r2:=hw2.rb ((start+1))
  refine gY (B.ct T) (aA aD rfl) aN (pB (B.ct T) (aA aD rfl) (gO (aA fY rfl) aN) (by omega) rfl (fun _ _=>rfl)) (by omega) (by omega) ?_ rfl rfl rfl rfl (by intro _;rfl)
  subst cB
  exact bE (fun H1 hP=>k H1 hP.1 hP.2)
theorem aE8:aP ["core","status","old","new"] ["core","status"] (aI kD):=⟨rfl,rfl,rfl,by decide +kernel,rfl,by decide +kernel,by decide +kernel⟩
theorem aEe {f:Addr} {fd:FuncData} (F:Fun K "take_up" "take_up" kD f fd) (T:Tx K mg C) (dD:iO P w K mg base C) (lE:rE P w K mg base C) (nA:oZ P w K mg base C) (nY:pO P w K mg base C):aH P w K mg base CX0 2 f fd ["core","status"] (mR C):=by
 refine bD F aE8 (fun vs H Q E h=>?_) (fun X B vs H Q E h=>?_)
 ·obtain ⟨_,_,_,rfl,_⟩:=h;rfl
 ·obtain ⟨p,s,status,rfl,hc,pre,k⟩:=h
  have hw:=hc.wf
  have aD:Vr X 0 "core":=B.vr rfl rfl bK
  have dB:Vr X 1 "status":=B.vr rfl rfl fH
  have dU:Vr X 2 "old":=B.vr rfl rfl qS
  have iX:Vr X 3 "new":=B.vr rfl rfl aC3
  have fI:Gl X "PAIR_STARTS":=B.g rfl
  have fK:=B.gi T.gC rfl kJ
  have eD:=B.cl dD rfl mE (by decide)
  have aBt:=B.cl lE rfl yS (by decide)
  have aFb:=B.cl nA rfl xF (by decide)
  have aHb:=B.cl nY rfl zQ (by decide)
  refine ⟨CP C p H s,⟨hc,Fr.refl p H⟩,?_⟩
  show Sts X [some (.ref p),some (.int status),none,none] _ _ _
  have r1:=M.jC ((s).status)
  refine hU (n:=2) (cY eD (aF (fF (B.ct T) (aA aD rfl) rfl) aO) (gW trivial)) (fun old aU=>?_) B dU rfl
  have r2:=M.jC (status)
  refine hU (n:=3) (cY eD (aF (aA dB rfl) aO) (gW trivial)) (fun new aBx=>?_) B iX rfl
  refine aFo (B.ct T) (aA aD rfl) (aA dB rfl) (by first | omega | assumption) ?_ rfl
  refine dX (fun s2 cB hw2=>?_)
  refine iE [some (.ref p),some (.int status),some (.int old),some (.int new)] (CP C p H (cond (bM aV old) (M.cP (s2) (dAt aV old)) (s2))) (vN (aA dU rfl) fI (B.mgd T.eO) gJ (by with_unfolding_all rfl)) (fun h1=>?_) (fun h1=>?_) ?_
  ·
   have r3:=vI (old)
   refine cS aBt (aF (aA aD rfl) (aF (nL fI (B.mgd T.eO) gJ (aA dU rfl) (by first | omega | assumption) (fun _ _=>rfl)) aO)) (aGa (by first | omega | assumption)) ?_
   exact bE (fun _ hh=>⟨rfl,by rw[eJ h1];exact hh⟩)
  ·
   exact bE (fun _ hh=>⟨rfl,by rw[dG h1];exact hh⟩)
  ·
   refine dX (fun s3 lV hw3=>?_)
   refine iE [some (.ref p),some (.int status),some (.int old),some (.int new)] (CP C p H (cond (!((decide (old=17))==(decide (new=17)))) (M.cC (s3)) (s3))) (aGf (qF (aA dU rfl) (bF fK)) (qF (aA iX rfl) (bF fK))) (fun h2=>?_) (fun h2=>?_) ?_
   ·
    refine cS aHb (aF (aA aD rfl) aO) (aDz trivial) ?_
    exact bE (fun _ hh=>⟨rfl,by rw[eJ h2];exact hh⟩)
   ·
    exact bE (fun _ hh=>⟨rfl,by rw[dG h2];exact hh⟩)
   ·
    refine dX (fun s4 mG hw4=>?_)
    refine iE [some (.ref p),some (.int status),some (.int old),some (.int new)] (CP C p H (cond (bM aV new) (M.dW (s4) (dAt aV new)) (s4))) (vN (aA iX rfl) fI (B.mgd T.eO) gJ (by with_unfolding_all rfl)) (fun h3=>?_) (fun h3=>?_) ?_
    ·
     have r4:=vI (new)
     refine cS aFb (aF (aA aD rfl) (aF (nL fI (B.mgd T.eO) gJ (aA iX rfl) (by first | omega | assumption) (fun _ _=>rfl)) aO)) (aD5 (by first | omega | assumption)) ?_
     exact bE (fun _ hh=>⟨rfl,by rw[eJ h3];exact hh⟩)
    ·
     exact bE (fun _ hh=>⟨rfl,by rw[dG h3];exact hh⟩)
    ·
     subst mG
     subst lV
     subst cB
     subst aBx
     subst aU
     exact bE (fun H1 hP=>k H1 hP.1 hP.2)
theorem aAp:aP ["core","mode","place","back","old","kept_out"] ["core","mode","place","back"] (aI nZ):=⟨rfl,rfl,rfl,by decide +kernel,rfl,by decide +kernel,by decide +kernel⟩
theorem aE5 {f:Addr} {fd:FuncData} (F:Fun K "enter_exception" "enter_exception" nZ f fd) (T:Tx K mg C) (mI:uF P w K mg base C) (mN:tH P w K mg base C):aH P w K mg base CX0 3 f fd ["core","mode","place","back"] (lJ C):=by
 refine bD F aAp (fun vs H Q E h=>?_) (fun X B vs H Q E h=>?_)
 ·obtain ⟨_,_,_,_,_,rfl,_⟩:=h;rfl
 ·obtain ⟨p,s,mode,place,back,rfl,hc,pre,k⟩:=h
  have hw:=hc.wf
  have aD:Vr X 0 "core":=B.vr rfl rfl bK
  have tW:Vr X 1 "mode":=B.vr rfl rfl aBw
  have bQ:Vr X 2 "place":=B.vr rfl rfl dM
  have gR:Vr X 3 "back":=B.vr rfl rfl pQ
  have dU:Vr X 4 "old":=B.vr rfl rfl qS
  have pU:Vr X 5 "kept_out":=B.vr rfl rfl aEk
  have fK:=B.gi T.gC rfl kJ
  have iT:=B.gi T.iC rfl qJ
  have lZ:=B.gi T.iK rfl qB
  have lT:=B.gi T.jK rfl tO
  have aG0:=B.cl mI rfl zS (by decide)
  have yZ:=B.cl mN rfl aEc (by decide)
  refine ⟨CP C p H s,⟨hc,Fr.refl p H⟩,?_⟩
  show Sts X [some (.ref p),some (.int mode),some (.int place),some (.int back),none,none] _ _ _
  refine hU (n:=4) (fF (B.ct T) (aA aD rfl) rfl) (fun old aU=>?_) B dU rfl
  refine hU (n:=5) (sN (yO (aA tW rfl) (bF fK)) (fun hq=>(iY (bF iT) (bF lZ))) (fun hq=>(bF iT))) (fun kept_out bY=>?_) B pU rfl
  refine cS yZ (aF (aA aD rfl) (aF (iY (iY (bX (aA dU rfl) (tL (bF lT))) (aA tW rfl)) (aA pU rfl)) aO)) (aAb (by first | omega | (rw[bY];exact fR (by rw[aU];exact hw.wst) pre.1) | exact ⟨by rw[cB,bY];exact fG (by rw[aU];exact hw.wst) pre.1,by rw[aU];exact hw.wst⟩)) ?_
  refine dX (fun s2 cB hw2=>?_)
  refine cS aG0 (aF (aA aD rfl) (aF (aA dU rfl) aO)) (xI (by first | omega | (rw[bY];exact fR (by rw[aU];exact hw.wst) pre.1) | exact ⟨by rw[cB,bY];exact fG (by rw[aU];exact hw.wst) pre.1,by rw[aU];exact hw.wst⟩)) ?_
  refine dX (fun s3 lV hw3=>?_)
  refine gY (B.ct T) (aA aD rfl) aN (aA gR rfl) (by first | omega | (rw[bY];exact fR (by rw[aU];exact hw.wst) pre.1) | exact ⟨by rw[cB,bY];exact fG (by rw[aU];exact hw.wst) pre.1,by rw[aU];exact hw.wst⟩) (by first | omega | (rw[bY];exact fR (by rw[aU];exact hw.wst) pre.1) | exact ⟨by rw[cB,bY];exact fG (by rw[aU];exact hw.wst) pre.1,by rw[aU];exact hw.wst⟩) ?_ rfl rfl rfl rfl (by intro _;rfl)
  refine dX (fun s4 mG hw4=>?_)
  refine gY (B.ct T) (aA aD rfl) aN (aA bQ rfl) (by first | omega | (rw[bY];exact fR (by rw[aU];exact hw.wst) pre.1) | exact ⟨by rw[cB,bY];exact fG (by rw[aU];exact hw.wst) pre.1,by rw[aU];exact hw.wst⟩) (by first | omega | (rw[bY];exact fR (by rw[aU];exact hw.wst) pre.1) | exact ⟨by rw[cB,bY];exact fG (by rw[aU];exact hw.wst) pre.1,by rw[aU];exact hw.wst⟩) ?_ rfl rfl rfl rfl (by intro _;rfl)
  subst mG
  subst lV
  subst cB
  subst bY
  subst aU
  exact bE (fun H1 hP=>k H1 hP.1 hP.2)
theorem wZ:aP ["core"] ["core"] (aI mT):=⟨rfl,rfl,rfl,by decide +kernel,rfl,by decide +kernel,by decide +kernel⟩
theorem wB {f:Addr} {fd:FuncData} (F:Fun K "is_refused" "is_refused" mT f fd) (T:Tx K mg C) (kE:qY P w K mg base C):aH P w K mg base CX0 3 f fd ["core"] (mD C):=by
 refine bD F wZ (fun vs H Q E h=>?_) (fun X B vs H Q E h=>?_)
 ·obtain ⟨_,_,rfl,_⟩:=h;rfl
 ·obtain ⟨p,s,rfl,hc,pre,k⟩:=h
  have hw:=hc.wf
  have aD:Vr X 0 "core":=B.vr rfl rfl bK
  have aE7:=B.cl kE rfl aBz (by decide)
  refine ⟨RP C p H s,⟨hc,aB.refl H⟩,?_⟩
  show Sts X [some (.ref p)] _ _ _
  have r1:=hw.rr (15)
  have r2:=bW (((s).reg 15)) 3
  refine eQ (pV (aAl (cY aE7 (aF (fF (B.ct T) (aA aD rfl) rfl) aO) (aGn trivial))) (fun hq=>(vG (tE (bX (iB (B.ct T) (aA aD rfl) aN (by omega) rfl (fun _ _=>rfl)) aN) aN)))) (fun H1 hP H2 s2=>?_)
  skip
  exact k H2 ((Sam.sa H1 hP).trans s2)
end
end Arm
end

section
set_option maxRecDepth 100000
namespace Arm
open PySem PyProof.Rows
def N (x:Int):Nat:=x.toNat
@[irreducible] def aW (m:Int→Int):List UInt8:=(List.range 1048576).map fun (i:Nat)=>UInt8.ofNat (m (i:Int)).toNat
def aK (m:Int→Int) (i:Int):Int:=m (i-i%4)/2^Int.toNat (8*(i%4))%256
def abs (s:S):Ql28.St:=⟨s.regs.map N,s.high.map N,s.banks.map N,N s.status,s.saved.map N,aW (aK s.mem)⟩
theorem hJ (l:List Int) (k:Nat):(l.map N).getD k 0=N (l.getD k 0):=by
 rw[List.getD_eq_getElem?_getD,List.getD_eq_getElem?_getD,List.getElem?_map]
 cases l[k]?<;>rfl
theorem kR (s:S) (k:Nat):Ql28.reg (abs s) k=N (s.reg k):=hJ s.regs k
theorem gT {x:Int} (h:0≤x):((N x:Nat):Int)=x:=Int.toNat_of_nonneg h
theorem qN {s:S} (h:WF s) (k:Nat):((Ql28.reg (abs s) k:Nat):Int)=s.reg k:=by rw[kR];exact gT (h.rr _).1
theorem rJ {s:S} {v:Int} (hv:0≤v∧v<4294967296) (k:Nat):abs (s.aT k v)=Ql28.put (abs s) k (N v):=by
 have e:N v%Ql28.L=N v:=Nat.mod_eq_of_lt (by show v.toNat<4294967296;omega)
 unfold Ql28.put
 rw[e]
 show (⟨(s.regs.set (k:Int).toNat v).map N,_,_,_,_,_⟩:Ql28.St)=_
 rw[List.map_set]
 rfl
theorem kW (m:Int→Int):(aW m).length=1048576:=by unfold aW;rw[List.length_map,List.length_range]
theorem lL (m:Int→Int) (k:Nat) (h:k<1048576):(aW m)[k]?=some (UInt8.ofNat (m k).toNat):=by
 unfold aW
 rw[List.getElem?_map,List.getElem?_range h,Option.map_some]
theorem aBd (m:Int→Int) (i:Int):0≤aK m i∧aK m i<256:=by unfold aK;omega
theorem xX {s:S} (h:WF s) (p:Nat):((Ql28.rd (abs s) p:Nat):Int)=aK s.mem ((p%1048576:Nat):Int):=by
 have lt:p%1048576<1048576:=Nat.mod_lt _ (by decide)
 unfold Ql28.rd
 show (((aW (aK s.mem)).getD (p%1048576) 0).toNat:Int)=_
 rw[List.getD_eq_getElem?_getD,lL _ _ lt]
 have:=aBd s.mem ((p%1048576:Nat):Int)
 show ((UInt8.ofNat (aK s.mem ((p%1048576:Nat):Int)).toNat).toNat:Int)=_
 rw[UInt8.toNat_ofNat']
 show (((aK s.mem ((p%1048576:Nat):Int)).toNat%256:Nat):Int)=_
 omega
theorem rC (m:Int→Int) (k:Nat) (v:Int):(aW m).set k (UInt8.ofNat v.toNat)=aW (fun j=>if j=(k:Int) then v else m j):=by
 apply List.ext_getElem?
 intro i
 by_cases hi:i<1048576
 ·rw[lL _ _ hi]
  by_cases e:k=i
  ·subst e
   rw[List.getElem?_set_self (by rw[kW];exact hi),if_pos rfl]
  ·rw[List.getElem?_set_ne e,lL _ _ hi,if_neg (by omega)]
 ·rw[List.getElem?_eq_none (by rw[List.length_set,kW];omega),List.getElem?_eq_none (by rw[kW];omega)]
theorem aAd (x:Int):Builtin.bitAnd x 255=x%256:=bitAnd_m8 x
theorem p0:(2:Int)^Int.toNat 0=1:=by decide
theorem p8:(2:Int)^Int.toNat 8=256:=by decide
theorem p16:(2:Int)^Int.toNat 16=65536:=by decide
theorem p24:(2:Int)^Int.toNat 24=16777216:=by decide
theorem rY (s:S) (p:Int):M.bN s p=s.mem (p%1048576-p%4):=by
 unfold M.bN
 rw[sS]
theorem aDp {s:S} (h:WF s) (p:Int) (q:Nat) (e:p%1048576=(q:Int)%1048576):M.eY s p=((Ql28.rd (abs s) q:Nat):Int):=by
 rw[xX h]
 unfold M.eY aK
 rw[rY,aAd,bitAnd_m2]
 have e2:((q%1048576:Nat):Int)=p%1048576:=by omega
 rw[e2]
 have e3:p%1048576%4=p%4:=by omega
 rw[e3]
theorem WF.fA {s:S} (h:WF s) (p:Int) {v:Int} (hv:0≤v∧v<4294967296):WF (M.fA s p v):=h.cO hv
theorem WF.cD {s:S} (h:WF s) (p v:Int):WF (M.cD s p v):=h.fA p (jP h (kM p))
def eI (f:Int→Int) (k:Nat) (v:Int):Int→Int:=fun j=>if j=(k:Int) then v else f j
theorem qO (r hi bk:List Nat) (c:Nat) (sv:List Nat) (f:Int→Int) (q u:Nat):Ql28.wr ⟨r,hi,bk,c,sv,aW f⟩ q u=⟨r,hi,bk,c,sv,aW (eI f (q%1048576) (((u%256:Nat):Int)))⟩:=by
 unfold Ql28.wr eI
 rw[←rC]
 rfl
theorem aDm (m:Int→Int) (a v i:Int) (ha:a%4=0):aK (fun j=>if j=a then v else m j) i=if i=a then v%256 else if i=a+1 then v/256%256 else if i=a+2 then v/65536%256 else if i=a+3 then v/16777216%256 else aK m i:=by
 unfold aK
 show (if i-i%4=a then v else m (i-i%4))/_%256=_
 by_cases h0:i=a
 ·rw[if_pos h0,if_pos (by omega),show i%4=0 by omega,show (8*0:Int)=0 from rfl,p0,Int.ediv_one]
 ·rw[if_neg h0]
  by_cases h1:i=a+1
  ·rw[if_pos h1,if_pos (by omega),show i%4=1 by omega,show (8*1:Int)=8 from rfl,p8]
  ·rw[if_neg h1]
   by_cases h2:i=a+2
   ·rw[if_pos h2,if_pos (by omega),show i%4=2 by omega,show (8*2:Int)=16 from rfl,p16]
   ·rw[if_neg h2]
    by_cases h3:i=a+3
    ·rw[if_pos h3,if_pos (by omega),show i%4=3 by omega,show (8*3:Int)=24 from rfl,p24]
    ·rw[if_neg h3,if_neg (by omega)]
theorem aE0 (k j hi c lo:Nat) (hc:c<2^j) (hl:lo<2^k):(2^(k+j)*hi+lo)|||(2^k*c)=2^(k+j)*hi+(2^k*c+lo):=by
 have h1:2^k*c+lo<2^(k+j):=by
  have a:2^k*(c+1)≤2^k*2^j:=Nat.mul_le_mul_left _ hc
  rw[←Nat.pow_add,Nat.mul_add] at a
  omega
 have h2:lo<2^(k+j):=Nat.lt_of_le_of_lt (Nat.le_add_left _ _) h1
 rw[Nat.two_pow_add_eq_or_of_lt h2,Nat.two_pow_add_eq_or_of_lt h1,Nat.two_pow_add_eq_or_of_lt hl,Nat.or_assoc,Nat.or_comm lo]
theorem aDa (w k j:Nat):w&&&((2^j-1)*2^k)=2^k*(w/2^k%2^j):=by
 rw[Nat.mul_comm (2^k)]
 apply Nat.eq_of_testBit_eq
 intro i
 rw[Nat.testBit_and,Nat.testBit_mul_two_pow,Nat.testBit_mul_two_pow,Nat.testBit_two_pow_sub_one,Nat.testBit_mod_two_pow,Nat.testBit_div_two_pow]
 by_cases h:k≤i
 ·rw[show i-k+k=i by omega]
  cases w.testBit i<;>cases decide (i-k<j)<;>simp [h]
 ·simp [h]
theorem aCj (w c k j:Nat) (hc:c<2^j):((w-(w&&&((2^j-1)*2^k)))|||(2^k*c))+2^k*(w/2^k%2^j)=w+2^k*c:=by
 rw[aDa]
 have d1:=Nat.div_add_mod w (2^k)
 have d2:=Nat.div_add_mod (w/2^k) (2^j)
 have hl:=Nat.mod_lt w (Nat.two_pow_pos k)
 have e1:2^k*(w/2^k)=2^(k+j)*(w/2^k/2^j)+2^k*(w/2^k%2^j):=by
  conv=>lhs;rw[←d2]
  rw[Nat.mul_add,←Nat.mul_assoc,←Nat.pow_add]
 have e2:w-2^k*(w/2^k%2^j)=2^(k+j)*(w/2^k/2^j)+w%2^k:=by omega
 rw[e2,aE0 k j _ c _ hc hl]
 omega
theorem aFw {w v:Int} (hw:0≤w) (k j:Nat):Builtin.bitOr (Builtin.bitAnd w (Builtin.bitNot ((((2^j:Nat):Int)-1)*((2^k:Nat):Int)))) (Builtin.bitAnd v (((2^j:Nat):Int)-1)*((2^k:Nat):Int))=w-w/((2^k:Nat):Int)%((2^j:Nat):Int)*((2^k:Nat):Int)+v%((2^j:Nat):Int)*((2^k:Nat):Int):=by
 obtain ⟨n,rfl⟩:=Int.eq_ofNat_of_zero_le hw
 rw[mask,bitAnd_not]
 have pj:0<2^j:=Nat.two_pow_pos j
 obtain ⟨c,ec⟩:∃c:Nat,(c:Int)=v%((2^j:Nat):Int):=⟨(v%((2^j:Nat):Int)).toNat,by have:=Int.emod_nonneg v (b:=((2^j:Nat):Int)) (by omega);omega⟩
 have hc:c<2^j:=by have:=Int.emod_lt_of_pos v (b:=((2^j:Nat):Int)) (by omega);omega
 rw[←ec]
 have e1:((((2^j:Nat):Int)-1)*((2^k:Nat):Int))=(((2^j-1)*2^k:Nat):Int):=by
  rw[Int.natCast_mul]
  congr 1
  omega
 rw[e1,dY]
 have hle:n&&&((2^j-1)*2^k)≤n:=Nat.and_le_left
 have e2:((n:Int)-((n&&&((2^j-1)*2^k):Nat):Int))=((n-(n&&&((2^j-1)*2^k)):Nat):Int):=by omega
 have e3:(c:Int)*((2^k:Nat):Int)=((2^k*c:Nat):Int):=by rw[Int.natCast_mul,Int.mul_comm]
 have e4:(n:Int)/((2^k:Nat):Int)%((2^j:Nat):Int)*((2^k:Nat):Int)=((2^k*(n/2^k%2^j):Nat):Int):=by
  rw[Int.natCast_mul,Int.natCast_emod,Int.natCast_ediv,Int.mul_comm]
 rw[e2,e3,e4,eT]
 have:=aCj n c k j hc
 omega
theorem aDl {w:Int} (hw:0≤w) (v b:Int) (hb:0≤b∧b<4):Builtin.bitOr (Builtin.bitAnd w (Builtin.bitNot (255*2^Int.toNat (8*b)))) (Builtin.bitAnd v 255*2^Int.toNat (8*b))=w-w/2^Int.toNat (8*b)%256*2^Int.toNat (8*b)+v%256*2^Int.toNat (8*b):=by
 have h:=aFw (v:=v) hw (Int.toNat (8*b)) 8
 rw[←pY] at h
 exact h
theorem aB5 {s:S} (h:WF s) (p v:Int) (q u:Nat) (e:p%1048576=(q:Int)%1048576) (ev:v%256=(u:Int)%256):abs (M.cD s p v)=Ql28.wr (abs s) q u:=by
 unfold M.cD M.jJ M.fA
 rw[rY,sS,bitAnd_m2]
 unfold abs
 rw[qO]
 have m0:=h.wm (p%1048576-p%4)
 obtain ⟨a,ea⟩:∃a:Nat,(a:Int)=p%1048576-p%4:=⟨(p%1048576-p%4).toNat,by omega⟩
 rw[←ea] at m0 ⊢
 rw[aDl m0.1 v (p%4) (by omega)]
 have ha:(a:Int)%4=0:=by omega
 have ef:∀V:Int,V=s.mem a-s.mem a/2^Int.toNat (8*(p%4))%256*2^Int.toNat (8*(p%4))+v%256*2^Int.toNat (8*(p%4))→aK (s.cO (a:Int) V).mem=eI (aK s.mem) (q%1048576) ((u%256:Nat):Int):=fun V hV=>by
  funext i
  show aK (fun j=>if j=(a:Int) then V else s.mem j) i=_
  rw[aDm _ _ _ _ ha]
  unfold eI
  have b0:aK s.mem (a:Int)=s.mem a%256:=by unfold aK;rw[ha,show (8*0:Int)=0 from rfl,p0,Int.ediv_one,Int.sub_zero]
  have b1:aK s.mem ((a:Int)+1)=s.mem a/256%256:=by unfold aK;rw[show ((a:Int)+1)%4=1 by omega,show (8*1:Int)=8 from rfl,p8,show (a:Int)+1-1=a by omega]
  have b2:aK s.mem ((a:Int)+2)=s.mem a/65536%256:=by unfold aK;rw[show ((a:Int)+2)%4=2 by omega,show (8*2:Int)=16 from rfl,p16,show (a:Int)+2-2=a by omega]
  have b3:aK s.mem ((a:Int)+3)=s.mem a/16777216%256:=by unfold aK;rw[show ((a:Int)+3)%4=3 by omega,show (8*3:Int)=24 from rfl,p24,show (a:Int)+3-3=a by omega]
  have hq:((q%1048576:Nat):Int)=(a:Int)+p%4:=by omega
  rw[hq]
  have hu:((u%256:Nat):Int)=v%256:=by omega
  rw[hu]
  rcases (show p%4=0∨p%4=1∨p%4=2∨p%4=3 by omega) with c | c | c | c<;>rw[c] at hV ⊢
  ·rw[show (8*0:Int)=0 from rfl,p0] at hV
   by_cases h0:i=a
   ·rw[if_pos h0,if_pos (by omega)];omega
   ·rw[if_neg h0,if_neg (show ¬i=(a:Int)+0 by omega)]
    by_cases h1:i=(a:Int)+1
    ·rw[if_pos h1,h1,b1];omega
    ·rw[if_neg h1]
     by_cases h2:i=(a:Int)+2
     ·rw[if_pos h2,h2,b2];omega
     ·rw[if_neg h2]
      by_cases h3:i=(a:Int)+3
      ·rw[if_pos h3,h3,b3];omega
      ·rw[if_neg h3]
  ·rw[show (8*1:Int)=8 from rfl,p8] at hV
   by_cases h0:i=a
   ·rw[if_pos h0,if_neg (show ¬i=(a:Int)+1 by omega),h0,b0];omega
   ·rw[if_neg h0]
    by_cases h1:i=(a:Int)+1
    ·rw[if_pos h1,if_pos h1];omega
    ·rw[if_neg h1,if_neg h1]
     by_cases h2:i=(a:Int)+2
     ·rw[if_pos h2,h2,b2];omega
     ·rw[if_neg h2]
      by_cases h3:i=(a:Int)+3
      ·rw[if_pos h3,h3,b3];omega
      ·rw[if_neg h3]
  ·rw[show (8*2:Int)=16 from rfl,p16] at hV
   by_cases h0:i=a
   ·rw[if_pos h0,if_neg (show ¬i=(a:Int)+2 by omega),h0,b0];omega
   ·rw[if_neg h0]
    by_cases h1:i=(a:Int)+1
    ·rw[if_pos h1,if_neg (show ¬i=(a:Int)+2 by omega),h1,b1];omega
    ·rw[if_neg h1]
     by_cases h2:i=(a:Int)+2
     ·rw[if_pos h2,if_pos h2];omega
     ·rw[if_neg h2,if_neg h2]
      by_cases h3:i=(a:Int)+3
      ·rw[if_pos h3,h3,b3];omega
      ·rw[if_neg h3]
  ·rw[show (8*3:Int)=24 from rfl,p24] at hV
   by_cases h0:i=a
   ·rw[if_pos h0,if_neg (show ¬i=(a:Int)+3 by omega),h0,b0];omega
   ·rw[if_neg h0]
    by_cases h1:i=(a:Int)+1
    ·rw[if_pos h1,if_neg (show ¬i=(a:Int)+3 by omega),h1,b1];omega
    ·rw[if_neg h1]
     by_cases h2:i=(a:Int)+2
     ·rw[if_pos h2,if_neg (show ¬i=(a:Int)+3 by omega),h2,b2];omega
     ·rw[if_neg h2]
      by_cases h3:i=(a:Int)+3
      ·rw[if_pos h3,if_pos h3];omega
      ·rw[if_neg h3,if_neg h3]
 rw[←ef _ rfl]
 rfl
end Arm
end

section
set_option maxRecDepth 100000
namespace Arm
open PySem PyProof.Rows
theorem deq (a b:Nat):decide ((a:Int)=(b:Int))=decide (a=b):=by
 rw[decide_eq_decide];omega
end Arm
end

section
set_option maxRecDepth 100000
namespace Arm
open PySem PyProof.Rows
theorem oE {x:Int} (h:0≤x):M.bG x=((N x%32:Nat):Int):=by
 unfold M.bG
 rw[bitAnd_m5]
 unfold N
 omega
theorem vB:∀m:Fin 32,dC aV (m.val:Int)=(Ql28.bankOf m.val).map fun b=>((2*b:Nat):Int):=by decide
theorem zG:∀m:Fin 32,dC cW (m.val:Int)=(Ql28.savedOf m.val).map fun (b:Nat)=>(b:Int):=by decide
theorem aGr:∀m:Fin 32,Ql28.modes.contains m.val=((Ql28.bankOf m.val).isSome||(Ql28.savedOf m.val).isSome):=by decide
theorem kN {m:Nat} (h:m<32):bM aV (m:Int)=(Ql28.bankOf m).isSome:=by
 unfold bM;rw[vB ⟨m,h⟩,Option.isSome_map]
theorem xH {m:Nat} (h:m<32):bM cW (m:Int)=(Ql28.savedOf m).isSome:=by
 unfold bM;rw[zG ⟨m,h⟩,Option.isSome_map]
theorem rK {m b:Nat} (h:m<32) (e:Ql28.bankOf m=some b):dAt aV (m:Int)=((2*b:Nat):Int):=by
 unfold dAt;rw[vB ⟨m,h⟩];show ((Ql28.bankOf m).map _).getD 0=_;rw[e];rfl
theorem xD {x:Int} (h:0≤x):M.fX x=Ql28.modes.contains (N x%32):=by
 have lt:N x%32<32:=Nat.mod_lt _ (by decide)
 unfold M.fX
 rw[oE h,kN lt,xH lt,aGr ⟨_,lt⟩]
theorem aCe (s:S) (n:Nat):abs (M.cP s (n:Int))={ abs s with banks:=((abs s).banks.set n (Ql28.reg (abs s) 13)).set (n+1) (Ql28.reg (abs s) 14) }:=by
 show (⟨_,_,((s.banks.set (n:Int).toNat (s.reg 13)).set ((n:Int)+1).toNat (s.reg 14)).map N,_,_,_⟩:Ql28.St)=_
 rw[List.map_set,List.map_set,kR,kR]
 rfl
theorem aB9 (s:S) (n:Nat):abs (M.dW s (n:Int))={ abs s with r:=((abs s).r.set 13 ((abs s).banks.getD n 0)).set 14 ((abs s).banks.getD (n+1) 0) }:=by
 show (⟨((s.regs.set 13 (s.bk (n:Int))).set 14 (s.bk ((n:Int)+1))).map N,_,_,_,_,_⟩:Ql28.St)=_
 rw[List.map_set,List.map_set]
 have e1:N (s.bk (n:Int))=(abs s).banks.getD n 0:=(hJ s.banks n).symm
 have e2:N (s.bk ((n:Int)+1))=(abs s).banks.getD (n+1) 0:=(hJ s.banks (n+1)).symm
 rw[e1,e2]
 rfl
theorem aDn (s:S):abs (M.cC s)={ abs s with r:=(abs s).r.take 8++((abs s).high++(abs s).r.drop 15),high:=((abs s).r.drop 8).take 7 }:=by
 show (⟨(s.regs.take 8++(s.high++s.regs.drop 15)).map N,((s.regs.drop 8).take 7).map N,_,_,_,_⟩:Ql28.St)=_
 rw[List.map_append,List.map_append,List.map_take,List.map_drop,List.map_take,List.map_drop]
 rfl
open Ql28 in
def en1 (t:Ql28.St) (old:Nat):Ql28.St:=match bankOf old with
 | some b=>{ t with banks:=(t.banks.set (2*b) (reg t 13)).set (2*b+1) (reg t 14) }
 | none=>t
open Ql28 in
def en2 (t:Ql28.St) (old m:Nat):Ql28.St:=
 if ((old==0x11)==(m==0x11))=true then t
 else { t with r:=t.r.take 8++(t.high++t.r.drop 15),high:=(t.r.drop 8).take 7 }
open Ql28 in
def en3 (t:Ql28.St) (m:Nat):Ql28.St:=match bankOf m with
 | some b=>{ t with r:=(t.r.set 13 (t.banks.getD (2*b) 0)).set 14 (t.banks.getD (2*b+1) 0) }
 | none=>t
def cT (t:Ql28.St) (c:Nat):Ql28.St:={ t with cpsr:=c }
theorem aD0 (t:Ql28.St) (m:Nat):Ql28.enter t m=cT (en3 (en2 (en1 t (Ql28.mode t)) (Ql28.mode t) m) m) ((en3 (en2 (en1 t (Ql28.mode t)) (Ql28.mode t) m) m).cpsr/32*32+m):=rfl
theorem aF1 (t:Ql28.St) (o c:Nat):en1 (cT t c) o=cT (en1 t o) c:=by unfold en1;cases Ql28.bankOf o<;>rfl
theorem vW (t:Ql28.St) (o m c:Nat):en2 (cT t c) o m=cT (en2 t o m) c:=by unfold en2;cases ((o==0x11)==(m==0x11))<;>rfl
theorem vS (t:Ql28.St) (m c:Nat):en3 (cT t c) m=cT (en3 t m) c:=by unfold en3;cases Ql28.bankOf m<;>rfl
theorem aCc {s:S} (h:WF s) {st:Int} (h0:0≤st):abs (M.cN s st)=cT (en3 (en2 (en1 (abs s) (Ql28.mode (abs s))) (Ql28.mode (abs s)) (N st%32)) (N st%32)) (N st):=by
 have l1:N s.status%32<32:=Nat.mod_lt _ (by decide)
 have l2:N st%32<32:=Nat.mod_lt _ (by decide)
 unfold M.cN
 dsimp only
 rw[oE h.wst.1,oE h0,kN l1,kN l2]
 have e17:∀m:Nat,decide (((m:Nat):Int)=17)=(m==17):=fun m=>by
  rw[show (17:Int)=((17:Nat):Int) from rfl,deq];rfl
 rw[e17,e17]
 rw[show Ql28.mode (abs s)=N s.status%32 from rfl]
 have f1:abs (cond (Ql28.bankOf (N s.status%32)).isSome (M.cP (S.bI s st) (dAt aV ((N s.status%32:Nat):Int))) (S.bI s st))=cT (en1 (abs s) (N s.status%32)) (N st):=by
  rw[←aF1]
  unfold en1
  cases e:Ql28.bankOf (N s.status%32) with
  | none=>rfl
  | some b=>
   rw[rK l1 e]
   show abs (M.cP (S.bI s st) ((2*b:Nat):Int))=_
   rw[aCe]
   rfl
 generalize (cond (Ql28.bankOf (N s.status%32)).isSome (M.cP (S.bI s st) (dAt aV ((N s.status%32:Nat):Int))) (S.bI s st))=x1 at f1 ⊢
 have f2:abs (cond (!((N s.status%32==17)==(N st%32==17))) (M.cC x1) x1)=cT (en2 (en1 (abs s) (N s.status%32)) (N s.status%32) (N st%32)) (N st):=by
  rw[←vW]
  unfold en2
  cases ((N s.status%32==17)==(N st%32==17)) with
  | true=>exact f1
  | false=>
   show abs (M.cC x1)=_
   rw[aDn,f1]
   rfl
 generalize (cond (!((N s.status%32==17)==(N st%32==17))) (M.cC x1) x1)=x2 at f2 ⊢
 rw[←vS]
 unfold en3
 cases e:Ql28.bankOf (N st%32) with
 | none=>exact f2
 | some b=>
  rw[rK l2 e]
  show abs (M.dW x2 ((2*b:Nat):Int))=_
  rw[aB9,f2]
end Arm
end

section
set_option maxRecDepth 100000
namespace Arm
open PySem PyProof.Rows
theorem aCm (s:S) (k:Nat) (v:Int):abs (s.bP (k:Int) v)={ abs s with spsr:=(abs s).spsr.set k (N v) }:=by
 show (⟨_,_,_,_,(s.saved.set (k:Int).toNat v).map N,_⟩:Ql28.St)=_
 rw[List.map_set];rfl
theorem wQ (o:Nat):Builtin.bitAnd (o:Int) (Builtin.bitNot 31)=((o/32*32:Nat):Int):=by
 rw[bitAnd_not,bitAnd_m5]
 have:=Nat.div_add_mod o 32
 omega
end Arm
end

section
set_option maxRecDepth 100000
namespace Arm
open PySem PyProof.Rows
end Arm
end

section
set_option maxRecDepth 100000
namespace Arm
open PySem PyProof.Rows
end Arm
end

section
set_option maxRecDepth 100000
namespace Arm
open PySem PyProof.Rows
end Arm
end

section
set_option maxRecDepth 100000
namespace Arm
open PySem PyProof.Rows
end Arm
end

section
set_option maxRecDepth 100000
namespace Arm
open PySem PyProof.Rows
end Arm
end

section
set_option maxRecDepth 100000
namespace Arm
open PySem PyProof.Rows
end Arm
end

section
set_option maxRecDepth 100000
namespace Arm
open PySem PyProof.Rows
end Arm
end

section
set_option maxRecDepth 100000
namespace Arm
open PySem PyProof.Rows
end Arm
end

section
set_option maxRecDepth 100000
namespace Arm
open PySem PyProof.Rows
end Arm
end

section
set_option maxRecDepth 100000
namespace Arm
open PySem PyProof.Rows
end Arm
end

section
set_option maxRecDepth 100000
namespace Arm
open PySem PyProof.Rows
end Arm
end

section
set_option maxRecDepth 100000
namespace Arm
open PySem PyProof.Rows
end Arm
end

section
set_option maxRecDepth 100000
namespace Arm
open PySem PyProof.Rows
end Arm
end

section
set_option maxRecDepth 100000
namespace Arm
open PySem PyProof.Rows
end Arm
end

section
set_option maxRecDepth 100000
namespace Arm
open PySem PyProof.Rows
end Arm
end

section
set_option maxRecDepth 100000
namespace Arm
open PySem PyProof.Rows
end Arm
end

section
set_option maxRecDepth 100000
namespace Arm
open PySem PyProof.Rows
end Arm
end

section
set_option maxRecDepth 100000
namespace Arm
open PySem PyProof.Rows
end Arm
end

section
set_option maxRecDepth 100000
namespace Arm
open PySem PyProof.Rows
end Arm
end

section
set_option maxRecDepth 100000
namespace Arm
open PySem PyProof.Rows
end Arm
end

section
set_option maxRecDepth 100000
namespace Arm
open PySem PyProof.Rows
end Arm
end

section
set_option maxRecDepth 100000
namespace Arm
open PySem PyProof.Rows
end Arm
end

section
set_option maxRecDepth 100000
namespace Arm
open PySem PyProof.Rows
end Arm
end

section
set_option maxRecDepth 100000
namespace Arm
open PySem PyProof.Rows
end Arm
end

section
set_option maxRecDepth 100000
namespace Arm
open PySem PyProof.Rows
end Arm
end

section
set_option maxRecDepth 100000
namespace Arm
open PySem PyProof.Rows
end Arm
end

section
set_option maxRecDepth 100000
namespace Arm
open PySem PyProof.Rows
end Arm
end

section
set_option maxRecDepth 100000
namespace Arm
open PySem PyProof.Rows
end Arm
end

section
set_option maxRecDepth 100000
namespace Arm
open PySem PyProof.Rows
end Arm
end

section
set_option maxRecDepth 100000
namespace Arm
open PySem PyProof.Rows
end Arm
end

section
set_option maxRecDepth 100000
namespace Arm
open PySem PyProof.Rows
def ST:Int:=4026532063
def cG (st:List Int):S:=⟨st.take 16,(st.drop 16).take 7,(st.drop 23).take 10,Builtin.bitAnd (st.getD 33 0) ST,((st.drop 34).take 5).map fun x=>Builtin.bitAnd x ST,fun _=>0⟩
def bT:S→List Int→S
 | s,a::b::r=>bT (M.cD s a b) r
 | s,_=>s
def bA (st pk:List Int):S:=bT (cG st) pk
def fC:(Int→Int)→List Int→(Int→Int)
 | f,a::b::r=>fC (eI f a.toNat b) r
 | f,_=>f
theorem tQ (x:Int):0≤Builtin.bitAnd x ST∧Builtin.bitAnd x ST<4294967296:=by
 have:=bW x ST (by decide)
 have e:ST=4026532063:=rfl
 omega
theorem lS {l:List Int} (a b:Nat) {x:Int} (h:x∈(l.drop a).take b):x∈l:=List.mem_of_mem_drop (List.mem_of_mem_take h)
theorem WF.cG {st:List Int} (hl:st.length=39) (hw:∀x∈st,Wd x):WF (cG st):=
 ⟨by show (st.take 16).length=16;rw[List.length_take];omega,
  by show ((st.drop 16).take 7).length=7;rw[List.length_take,List.length_drop];omega,
  by show ((st.drop 23).take 10).length=10;rw[List.length_take,List.length_drop];omega,
  by show (((st.drop 34).take 5).map _).length=5;rw[List.length_map,List.length_take,List.length_drop];omega,
  fun x hx=>hw x (List.mem_of_mem_take hx),fun x hx=>hw x (lS _ _ hx),fun x hx=>hw x (lS _ _ hx),
  fun x hx=>by obtain ⟨y,_,rfl⟩:=List.mem_map.mp hx;exact tQ y,tQ _,fun _=>⟨by show (0:Int)≤0;decide,by show (0:Int)<_;decide⟩⟩
theorem WF.bT:∀{s:S} (h:WF s) (l:List Int),WF (bT s l)
 | s,h,[]=>h
 | s,h,[_]=>h
 | s,h,a::b::r=>WF.bT (h.cD a b) r
theorem uB {x:Int} (h:0≤x):N (Builtin.bitAnd x ST)=N x&&&Ql28.STATUS:=by
 obtain ⟨n,rfl⟩:=Int.eq_ofNat_of_zero_le h
 rw[show ST=((Ql28.STATUS:Nat):Int) from rfl,dY]
 rfl
theorem xP {l:List Int} (h:∀x∈l,Wd x) (n:Nat):0≤l.getD n 0:=(jB h n).1
def dO:List UInt8→List Int→List UInt8
 | m,a::b::r=>dO (m.set a.toNat (UInt8.ofNat b.toNat)) r
 | m,_=>m
theorem qI:∀(m:Array UInt8) (l:List Int),(Ql28Neutral.poke m l).toList=dO m.toList l
 | m,[]=>rfl
 | m,[_]=>rfl
 | m,a::b::r=>by
  show (Ql28Neutral.poke _ r).toList=_
  rw[qI _ r,Array.toList_setIfInBounds]
  rfl
theorem uL:∀(m z:List UInt8) (l:List Int),Ql28Neutral.highest l≤m.length→dO m l++z=dO (m++z) l
 | m,z,[],_=>rfl
 | m,z,[_],_=>rfl
 | m,z,a::b::r,h=>by
  have h1:max (a.toNat+1) (Ql28Neutral.highest r)≤m.length:=h
  show dO (m.set _ _) r++z=dO ((m++z).set _ _) r
  rw[uL _ z r (by rw[List.length_set];omega),List.set_append_left _ _ (by omega)]
theorem tV:∀(l:List Int),Ql28Neutral.pokes 1048576 l=true→Ql28Neutral.highest l≤1048576
 | [],_=>by show (0:Nat)≤_;omega
 | [_],h=>by cases h
 | a::b::r,h=>by
  have h1:(NeutralIO.within a 0 (1048576-1)&&(NeutralIO.within b 0 255&&Ql28Neutral.pokes 1048576 r))=true:=h
  rw[Bool.and_eq_true,Bool.and_eq_true] at h1
  obtain ⟨h1,h2,h3⟩:=h1
  unfold NeutralIO.within at h1
  rw[Bool.and_eq_true,decide_eq_true_eq,decide_eq_true_eq] at h1
  have:=tV r h3
  show max (a.toNat+1) (Ql28Neutral.highest r)≤1048576
  omega
theorem aEg:Ql28Neutral.zeros=aW (fun _=>0):=by
 unfold aW Ql28Neutral.zeros
 apply List.ext_getElem?
 intro i
 rw[List.getElem?_map,List.getElem?_replicate]
 by_cases h:i<1048576
 ·rw[if_pos h,List.getElem?_range h];rfl
 ·rw[if_neg h,List.getElem?_eq_none (by rw[List.length_range];omega)];rfl
theorem iD:∀(f:Int→Int) (l:List Int),dO (aW f) l=aW (fC f l)
 | f,[]=>rfl
 | f,[_]=>rfl
 | f,a::b::r=>by
  show dO ((aW f).set _ _) r=aW (fC (eI f a.toNat b) r)
  rw[rC,←iD]
  rfl
theorem yL (l:List Int) (h:Ql28Neutral.pokes 1048576 l=true):Ql28Neutral.memory l=aW (fC (fun _=>0) l):=by
 have hl:=tV l h
 unfold Ql28Neutral.memory
 rw[Nat.min_eq_right hl]
 show (Ql28Neutral.poke (List.replicate (Ql28Neutral.highest l) (0:UInt8)).toArray l).toList++Ql28Neutral.zeros.drop (Ql28Neutral.highest l)=_
 rw[qI,List.toList_toArray,uL _ _ _ (by rw[List.length_replicate];exact Nat.le_refl _)]
 have e:List.replicate (Ql28Neutral.highest l) (0:UInt8)++Ql28Neutral.zeros.drop (Ql28Neutral.highest l)=Ql28Neutral.zeros:=by
  unfold Ql28Neutral.zeros
  rw[List.drop_replicate,List.replicate_append_replicate,Nat.add_sub_cancel' hl]
 rw[e,aEg,iD]
theorem qQ:∀{s:S} (h:WF s) (l:List Int),Ql28Neutral.pokes 1048576 l=true→abs (bT s l)={ abs s with mem:=aW (fC (aK s.mem) l) }
 | s,h,[],_=>rfl
 | s,h,[_],q=>by cases q
 | s,h,a::b::r,q=>by
  have h1:(NeutralIO.within a 0 (1048576-1)&&(NeutralIO.within b 0 255&&Ql28Neutral.pokes 1048576 r))=true:=q
  rw[Bool.and_eq_true,Bool.and_eq_true] at h1
  obtain ⟨h1,h2,h3⟩:=h1
  unfold NeutralIO.within at h1 h2
  rw[Bool.and_eq_true,decide_eq_true_eq,decide_eq_true_eq] at h1 h2
  have ih:=qQ (h.cD a b) r h3
  have sb:=aB5 h a b a.toNat b.toNat (by omega) (by omega)
  unfold abs at sb
  rw[qO] at sb
  have em:aW (aK (M.cD s a b).mem)=aW (eI (aK s.mem) (a.toNat%1048576) ((b.toNat%256:Nat):Int)):=(congrArg Ql28.St.mem sb)
  have e1:a.toNat%1048576=a.toNat:=Nat.mod_eq_of_lt (by omega)
  have e2:((b.toNat%256:Nat):Int)=b:=by omega
  rw[e1,e2] at em
  show abs (bT (M.cD s a b) r)=_
  rw[ih,←iD,em,iD]
  rfl
theorem wO:aK (fun _=>0)=fun _=>0:=by
 funext i
 unfold aK
 show (0:Int)/_%256=0
 rw[Int.zero_ediv]
 rfl
theorem aA2 (l:List Int):Ql28Neutral.nats l=l.map N:=rfl
theorem aGo {st pk:List Int} (hl:st.length=39) (hw:∀x∈st,Wd x) (hp:Ql28Neutral.pokes 1048576 pk=true):abs (bA st pk)=Ql28Neutral.stateOf (Ql28Neutral.nats st) (Ql28Neutral.memory pk):=by
 unfold bA
 rw[qQ (WF.cG hl hw) pk hp,yL pk hp,aA2]
 unfold Ql28Neutral.stateOf
 have eb:aK (cG st).mem=fun _=>0:=wO
 rw[eb]
 show (⟨(st.take 16).map N,((st.drop 16).take 7).map N,((st.drop 23).take 10).map N,N (Builtin.bitAnd (st.getD 33 0) ST),(((st.drop 34).take 5).map fun x=>Builtin.bitAnd x ST).map N,aW (fC (fun _=>0) pk)⟩:Ql28.St)=_
 rw[List.map_take,List.map_take,List.map_drop,List.map_take,List.map_drop,uB (xP hw 33),hJ,List.map_map]
 have es:(((st.drop 34).take 5).map (N∘fun x=>Builtin.bitAnd x ST))=(((st.map N).drop 34).take 5).map fun x=>x&&&Ql28.STATUS:=by
  rw[←List.map_drop,←List.map_take,List.map_map]
  exact List.map_congr_left fun x hx=>uB (hw x (lS _ _ hx)).1
 rw[es]
theorem aA9 {s:S} (h:WF s):M.dI s=!(Ql28.good (abs s)):=by
 unfold M.dI Ql28.good
 rw[xD h.wst.1,bitAnd_m2]
 have e:(!decide (s.reg 15%4=0))=!(Ql28.reg (abs s) 15%4==0):=by
  have c:((Ql28.reg (abs s) 15:Nat):Int)=s.reg 15:=qN h 15
  by_cases q:s.reg 15%4=0
  ·rw[decide_eq_true q,beq_iff_eq.mpr (show Ql28.reg (abs s) 15%4=0 by omega)]
  ·rw[decide_eq_false q,beq_eq_false_iff_ne.mpr (show Ql28.reg (abs s) 15%4≠0 by omega)]
 rw[e]
 show ((!Ql28.modes.contains (N s.status%32))||_)=_
 rw[Bool.not_and]
 rfl
def M.answer (n:Int) (s:S) (looks:List Int):List Int:=n::(s.regs++s.high++s.banks++[s.status]++s.saved++looks.map fun x=>M.eY s x)
theorem gN {l:List Int} (h:∀x∈l,Wd x):Ql28Neutral.ints (l.map N)=l:=by
 unfold Ql28Neutral.ints
 rw[List.map_map]
 conv=>rhs;rw[←List.map_id l]
 exact List.map_congr_left fun x hx=>gT (h x hx).1
theorem ints_app (a b:List Nat):Ql28Neutral.ints (a++b)=Ql28Neutral.ints a++Ql28Neutral.ints b:=List.map_append
theorem zK {s:S} (h:WF s) {n:Int} {l:List Int} (hl:Ql28Neutral.looks 1048576 l=true):n::Ql28Neutral.told (abs s) l=M.answer n s l:=by
 unfold Ql28Neutral.told M.answer
 rw[ints_app,ints_app,ints_app,ints_app]
 show n::(Ql28Neutral.ints (s.regs.map N)++Ql28Neutral.ints (s.high.map N)++Ql28Neutral.ints (s.banks.map N)++Ql28Neutral.ints [N s.status]++Ql28Neutral.ints (s.saved.map N)++Ql28Neutral.looked (abs s).mem l)=_
 rw[gN h.wr,gN h.wh,gN h.wb,gN h.ws]
 have e1:Ql28Neutral.ints [N s.status]=[s.status]:=gN (l:=[s.status]) fun x hx=>by rw[List.mem_singleton.mp hx];exact h.wst
 have e2:Ql28Neutral.looked (abs s).mem l=l.map fun x=>M.eY s x:=by
  unfold Ql28Neutral.looked
  refine List.map_congr_left fun x hx=>?_
  have hx2:NeutralIO.within x 0 (1048576-1)=true:=List.all_eq_true.mp hl x hx
  unfold NeutralIO.within at hx2
  rw[Bool.and_eq_true,decide_eq_true_eq,decide_eq_true_eq] at hx2
  rw[aDp h x x.toNat (by omega)]
  unfold Ql28.rd
  rw[show Ql28.MEM=1048576 from rfl,Nat.mod_eq_of_lt (show x.toNat<1048576 by omega)]
 rw[e1,e2]
theorem pP {st:List Int} (h:Ql28Neutral.state st=true):st.length=39∧∀x∈st,Wd x:=by
 unfold Ql28Neutral.state at h
 rw[Bool.and_eq_true,beq_iff_eq] at h
 refine ⟨h.1,fun x hx=>?_⟩
 have:=List.all_eq_true.mp h.2 x hx
 unfold Ql28Neutral.natural at this
 rw[Bool.and_eq_true,decide_eq_true_eq,decide_eq_true_eq] at this
 exact this
theorem rR {st pk:List Int} (hl:st.length=39) (hw:∀x∈st,Wd x):M.dI (bA st pk)=!(Ql28.good (abs (bA st pk))):=aA9 ((WF.cG hl hw).bT pk)
end Arm
end

section
set_option maxRecDepth 100000
namespace Arm
open PySem PySem.Spec PyProof.Rows L2
section
variable {P:Program} {w:World} {K:PySem.W.Frag} {mg:Str→Option Value} {base:Heap} {C:Addr}
theorem mO {X:Cx} {x:Str} {ps:List Str} {k:Nat} {sp:Sp} {e:Expr} {es:List Expr} {p pos:Pos} {t:TA} (F:Fc X.prog X.w X.K X.mg X.base x ps k sp) (hr:aJ k X.A) (hg:Gl X x) (hd:(x==("__debug__":Str))=false) (ha:PA X (e::es) t)
  (he:starEach (e::es) X.env=(false,eval e X.env)::starEach es X.env:=by rfl) (hpl:(backTo pos (starEach es X.env)).any (·.1)=false:=by rfl) :
  PE X (.Call (.Name x p) (e::es) [] pos) (mH sp [] E0 t):=by
 obtain ⟨f,fd,F,hm,hk,hb⟩:=F.ex
 exact pR F hr hg hm hk hb .nil jI ha hd he hpl
theorem Bd.fc {X:Cx} {N:List Str} {sc:Scope} {k j:Nat} {x:Str} {ps:List Str} {sp:Sp} (B:Bd X P w K mg base N sc k) (F:Fc P w K mg base x ps j sp):Fc X.prog X.w X.K X.mg X.base x ps j sp:=by rw[B.eP,B.eW,B.eK,B.eM,B.eB];exact F
theorem qZ {α:Type}:∀{l:List α} {i:Nat} {x:α},l[i]?=some x→l.take (i+1)=l.take i++[x]
 | [],i,x,h=>by simp at h
 | a::l,0,x,h=>by
  have e:a=x:=Option.some.inj h
  subst e
  rfl
 | a::l,i+1,x,h=>by
  have ih:=qZ (l:=l) (i:=i) (x:=x) h
  show a::l.take (i+1)=a::l.take i++[x]
  rw[ih]
  rfl
theorem Bd.rel {X:Cx} {N:List Str} {sc:Scope} {k:Nat} (B:Bd X P w K mg base N sc k) (scope:Scope) (cl:List (Str×Addr)) (c:Addr) {y:Str} {z:Option NameKind}
  (h:(scope.names.map fun (n,kk)=>if (kk==NameKind.free&&sc.kind==.function&&sc.names.lookup n==some .cell) then (n,NameKind.cell) else (n,kk)).lookup y=z):(compEnvC scope cl c X.env).scope.names.lookup y=z:=by
 unfold compEnvC relabel Env.kindOf
 rw[B.eS]
 exact h
end
end Arm
end

section
set_option maxRecDepth 100000
namespace Arm
open PySem PySem.Spec PyProof.Rows L2
section
variable {P:Program} {w:World} {K:PySem.W.Frag} {mg:Str→Option Value} {base:Heap} {C:Addr}
theorem Bd.never {X:Cx} {N:List Str} {sc:Scope} {k:Nat} (B:Bd X P w K mg base N sc k):PassesOwn (model X.prog X.w) X.A X.env X.xe:=by rw[B.eX];exact PassesOwn.never
theorem zN {X:Cx} {N:List Str} {sc:Scope} {k:Nat} {σ:L2.St} {Pp:Hp→Prop} {D:Ends} {x:Str} {i0:Nat} {m:Int} {n:Nat} {jj} {body rest:List Stmt} {px p cp pos fpos:Pos} (Pv:Nat→L2.St→Hp→Prop) (B:Bd X P w K mg base N sc k) (T:Tx K mg C) (hg:Gl X "range") (hx:Vr X i0 x)
  (hm:m=(n:Int)) (hn:n<4611686018427387904) (h0:∀H,Pp H→Pv 0 σ H)
  (hs:∀i σ' H,i<n→Pv i σ' H→∃Pb:Hp→Prop,Pb H∧Sts X (σ'.set i0 (some (.int (i:Int)))) Pb body { D with nx:=Pv (i+1),ct:=Pv (i+1),bk:=fun σ' H=>∃P,P H∧Sts X σ' P rest D })
  (hd:∀σ' H,Pv n σ' H→∃Pb:Hp→Prop,Pb H∧Sts X σ' Pb rest D):Sts X σ Pp (.For (.Name x px) (.Call (.Name "range" p) [.Constant (.int m) jj cp] [] pos) body [] fpos::rest) D:=by
 subst hm
 refine aZ (bC (sY B.never B.calm (aA0 hg (by rw[B.eM];exact T.iU) (bO dN dH)) (hW (i:=i0) B.nd' hx.n hx.l (.inl (B.fn _))) (Sts.pss body)) (Sts.pss rest)) fun H hp=>?_
 refine ⟨(n:Int),rfl,by omega,by omega,aFf (lo:=0) (n:=n) Pv (h0 H hp) (fun i σ' H' hi hP=>?_) (fun σ' H' hP=>hd σ' H' hP)⟩
 rw[Int.zero_add]
 exact hs i σ' H' hi hP
theorem aG7:aP ["core","sevens","k"] ["core"] (aI kH):=⟨rfl,rfl,rfl,by decide +kernel,rfl,by decide +kernel,by decide +kernel⟩
def dP (s:S) (i:Nat):S:={ s with regs:=s.regs.take 8++(s.high.take i++s.regs.drop (8+i)) }
theorem aFq {s:S} (h:WF s) {i:Nat} (hi:i<7):S.aT (dP s i) (8+(i:Int)) (s.hi i)=dP s (i+1):=by
 have l1:(s.regs.take 8).length=8:=by rw[List.length_take,h.lr];rfl
 have l2:(s.high.take i).length=i:=by rw[List.length_take,h.lh];omega
 have lh:i<s.high.length:=by rw[h.lh];exact hi
 have lr:8+i<s.regs.length:=by rw[h.lr];omega
 have e1:s.hi i=s.high[i]:=by
  show s.high.getD (i:Int).toNat 0=_
  rw[List.getD_eq_getElem?_getD,Int.toNat_natCast,List.getElem?_eq_getElem lh];rfl
 show (⟨(s.regs.take 8++(s.high.take i++s.regs.drop (8+i))).set (8+(i:Int)).toNat (s.hi i),_,_,_,_,_⟩:S)=⟨s.regs.take 8++(s.high.take (i+1)++s.regs.drop (8+(i+1))),_,_,_,_,_⟩
 rw[show (8+(i:Int)).toNat=8+i by omega,List.set_append_right _ _ (by omega),l1,show 8+i-8=i by omega,List.set_append_right _ _ (by omega),l2,Nat.sub_self,e1,
  List.drop_eq_getElem_cons lr,List.set_cons_zero,List.take_succ_eq_append_getElem lh,List.append_assoc]
 rfl
theorem aAj {s:S} (h:WF s):dP s 7={ M.cC s with high:=s.high }:=by
 unfold dP M.cC
 rw[List.take_of_length_le (l:=s.high) (by rw[h.lh];exact Nat.le_refl _)]
theorem aB4 (s:S):dP s 0=s:=by
 unfold dP
 rw[List.take_zero,List.nil_append,Nat.add_zero,List.take_append_drop]
theorem aEy {f:Addr} {fd:FuncData} (F:Fun K "change_sevens" "change_sevens" kH f fd) (T:Tx K mg C):aH P w K mg base CX0 1 f fd ["core"] (oJ C):=by
 refine bD F aG7 (fun vs H Q E h=>?_) (fun X B vs H Q E h=>?_)
 ·obtain ⟨_,_,rfl,_⟩:=h;rfl
 ·obtain ⟨p,s,rfl,hc,pre,k⟩:=h
  have hw:=hc.wf
  have aD:Vr X 0 "core":=B.vr rfl rfl bK
  have fM:Vr X 1 "sevens":=B.vr rfl rfl aA3
  have x_k:Vr X 2 "k":=B.vr rfl rfl sL
  have jX:Gl X "range":=B.g rfl
  refine ⟨fun H'=>H'=H,rfl,?_⟩
  show Sts X [some (.ref p),none,none] _ _ _
  obtain ⟨dx,lr,lh,lb,ls,lm,kvs,a⟩:=id hc
  refine aZ (bC (kI (i:=1) B.nd' fM.n fM.l (sJ uG (eV (eR (i:=0) aD.n aD.v aD.nm.d aD.nm.c) rfl) (hR dN) (hR dN)) rfl (.inl (B.fn _))) (Sts.pss _)) fun H' hH=>?_
  subst hH
  refine ⟨.ref p,rfl,p,C,dx,_,_,rfl,a.ins,(B.ct T).cl,(B.ct T).nR,hG,8,rfl,15,rfl,lr,_,rfl,SqL.of a.regs,fun q hq=>?_⟩
  have e1:cZ (s.regs.map V.int) (some 8) (some 15)=((s.regs.drop 8).take 7).map V.int:=by
   unfold cZ
   rw[List.length_map,hw.lr,List.map_take,List.map_drop]
   rfl
  rw[e1]
  generalize hA:upd H' q (.lst (((s.regs.drop 8).take 7).map V.int))=A
  have sA:aB H' A:=by rw[←hA];exact aB.new hq
  have cA:aG C A p s:=hc.same sA
  have qA:A q=some (.lst (((s.regs.drop 8).take 7).map V.int)):=by rw[←hA];exact aY
  have nq:∀b o,H' b=some o→b≠q:=fun b o e=>bV e hq
  have oA:¬bS A p q:=fun ow=>by
   rcases (cE (sA _ _ a.ins)).mp ow with z | z | z | z | z | z
   ·exact nq _ _ a.ins z.symm
   ·exact nq _ _ a.regs z.symm
   ·exact nq _ _ a.high z.symm
   ·exact nq _ _ a.banks z.symm
   ·exact nq _ _ a.saved z.symm
   ·exact nq _ _ a.mem z.symm
  refine ⟨fun H2=>H2=A,rfl,?_⟩
  show Sts X [some (.ref p),some (.ref q),none] _ _ _
  refine zN (fun i σ' H2=>∃v,σ'=[some (.ref p),some (.ref q),v]∧CP C p A (dP s i) H2) B T jX x_k (n:=7) rfl (by decide) (fun H2 e=>⟨none,rfl,by rw[e,aB4];exact ⟨cA,Fr.refl _ _⟩⟩) (fun i σ' H2 hi ⟨v,e,hP⟩=>?_) (fun σ' H2 ⟨v,e,hP⟩=>?_)
  ·subst e
   refine ⟨CP C p A (dP s i),hP,?_⟩
   have r1:=hw.rh i
   show Sts X [some (.ref p),some (.ref q),some (.int (i:Int))] _ _ _
   refine gY (B.ct T) (aA aD rfl) (gO aN (aA x_k rfl)) (aBg (B.ct T) (aA aD rfl) (aA x_k rfl) (by omega) rfl (fun _ _=>rfl)) (by omega) (by exact r1) ?_ rfl rfl rfl rfl (by intro _;rfl)
   refine bE fun H3 h3=>⟨some (.int (i:Int)),rfl,?_⟩
   rw[←aFq hw hi]
   exact h3
  ·subst e
   refine ⟨fun H3=>H3=H2,rfl,?_⟩
   refine aZ (bC (gS (eR (i:=0) aD.n aD.v aD.nm.d aD.nm.c) (eR (i:=1) fM.n fM.v fM.nm.d fM.nm.c) rfl) jL) fun H3 e3=>?_
   subst e3
   rw[aAj hw] at hP
   obtain ⟨dx2,lr2,lh2,lb2,ls2,lm2,kvs2,a2⟩:=id hP.1
   obtain ⟨q3,o3⟩:=hP.2 q _ qA oA
   have nn:q≠p∧q≠lr2∧q≠lh2∧q≠lb2∧q≠ls2∧q≠lm2:=by
    have:=fun h=>o3 ((cE a2.ins).mpr h)
    refine ⟨fun z=>this (.inl z),fun z=>this (.inr (.inl z)),fun z=>this (.inr (.inr (.inl z))),fun z=>this (.inr (.inr (.inr (.inl z)))),fun z=>this (.inr (.inr (.inr (.inr (.inl z))))),fun z=>this (.inr (.inr (.inr (.inr (.inr z)))))⟩
   refine ⟨.ref q,rfl,.ref p,rfl,p,C,dx2,_,rfl,a2.ins,(B.ct T).cl,(B.ct T).nH,tN,?_⟩
   obtain ⟨n1,n2,n3,n4,n5,n6,n7,n8,n9⟩:=a2.np
   have ei:upd H3 p (.ins C dx2 (aL "high" (.ref q) (cf lr2 lh2 lb2 s.status ls2 lm2))) p=some (.ins C dx2 (cf lr2 q lb2 s.status ls2 lm2)):=by rw[aY,aA4]
   have wf':WF (M.cC s):=⟨a2.wf.lr,by show ((s.regs.drop 8).take 7).length=7;rw[List.length_take,List.length_drop,hw.lr];rfl,a2.wf.lb,a2.wf.ls,a2.wf.wr,fun x hx=>hw.wr x (List.mem_of_mem_drop (List.mem_of_mem_take hx)),a2.wf.wb,a2.wf.ws,a2.wf.wst,a2.wf.wm⟩
   refine k _ ⟨dx2,lr2,q,lb2,ls2,lm2,kvs2,ei,by rw[aE n1.symm];exact a2.regs,by rw[aE nn.1];exact q3,by rw[aE n3.symm];exact a2.banks,by rw[aE n4.symm];exact a2.saved,by rw[aE n5.symm];exact a2.mem,a2.mok,nn.2.1.symm,a2.rb,a2.rs,nn.2.2.2.1,nn.2.2.2.2.1,a2.bs,wf'⟩ ?_
   intro b o eb ob
   have eA:=sA _ _ eb
   have oA':¬bS A p b:=(Fr.same hc sA b o eb ob).2
   obtain ⟨e5,o5⟩:=hP.2 b o eA oA'
   have nb:=fun h=>o5 ((cE a2.ins).mpr h)
   refine ⟨by rw[aE (fun z=>nb (.inl z))];exact e5,fun ow=>?_⟩
   rcases (cE ei).mp ow with z | z | z | z | z | z
   ·exact nb (.inl z)
   ·exact nb (.inr (.inl z))
   ·exact nq _ _ eb z
   ·exact nb (.inr (.inr (.inr (.inl z))))
   ·exact nb (.inr (.inr (.inr (.inr (.inl z)))))
   ·exact nb (.inr (.inr (.inr (.inr (.inr z)))))
end
end Arm
end

section
set_option maxRecDepth 100000
namespace Arm
open PySem PySem.Spec PyProof.Rows L2
section
variable {P:Program} {w:World} {K:PySem.W.Frag} {mg:Str→Option Value} {base:Heap} {C:Addr}
end
end Arm
end

section
set_option maxRecDepth 100000
namespace Arm
open PySem PySem.Spec PyProof.Rows L2
section
variable {P:Program} {w:World} {K:PySem.W.Frag} {mg:Str→Option Value} {base:Heap} {C:Addr}
end
end Arm
end

section
set_option maxRecDepth 100000
namespace Arm
open PySem PySem.Spec PyProof.Rows L2
section
variable {P:Program} {w:World} {K:PySem.W.Frag} {mg:Str→Option Value} {base:Heap} {C:Addr}
theorem Bd.vrc {X:Cx} {N:List Str} {sc:Scope} {k:Nat} (B:Bd X P w K mg base N sc k) {i:Nat} {x:Str} (h:N[i]?=some x) (q:sc.names.lookup x=some .cell) (n:Nm x):Vr X i x:=
 ⟨by rw[B.eN];exact h,.inr (.inl (by rw[B.eS];exact q)),.inr (by rw[B.eS];exact q),n⟩
theorem aBq {X:Cx} {N:List Str} {sc:Scope} {k:Nat} {σ:L2.St} {Pp:Hp→Prop} {e:Expr} {l:Addr} {xs:List V} {p pos:Pos} [Stb Pp] (B:Bd X P w K mg base N sc k) (T:Tx K mg C) (hg:Gl X "len") (he:Ev X σ Pp e (.ref l)) (hl:∀H,Pp H→SqL X.K H l xs)
  (hst:starEach (e::[]) X.env=(false,eval e X.env)::starEach [] X.env):Ev X σ Pp (.Call (.Name "len" p) [e] [] pos) (.int xs.length):=
 aR (yI vT hg (by rw[B.eM];exact T.mY) PySem.boot_len (bO he.pe dH hst) (by decide) (by decide) hst rfl) fun H hp Q k=>⟨rfl,hp,fun H1 s1=>⟨l,xs,rfl,.inl (hl H1 (Stb.st s1 hp)),k H1 s1⟩⟩
end
end Arm
end

section
set_option maxRecDepth 100000
namespace Arm
open PySem PySem.Spec PyProof.Rows L2
section
variable {P:Program} {w:World} {K:PySem.W.Frag} {mg:Str→Option Value} {base:Heap} {C:Addr}
end
end Arm
end

section
set_option maxRecDepth 100000
namespace Arm
open PySem PySem.Spec PyProof.Rows L2
structure Bld (C:Addr) (H:Hp) (x dx:Addr) (fs:List (Str×V)) (as:List (Addr×HO)) (H':Hp):Prop where
 ins:H' x=some (.ins C dx fs)
 own:∀a∈as,H' a.1=some a.2
 ne:∀a∈as,a.1≠x
 nd:(as.map (·.1)).Nodup
 fr:∀b o,H b=some o→b≠x→H' b=some o∧∀a∈as,a.1≠b
section
variable {C x dx:Addr} {H H' H1:Hp} {fs fs':List (Str×V)} {as:List (Addr×HO)}
instance aHn:Stb (Bld C H x dx fs as):=⟨fun q h=>⟨q _ _ h.ins,fun a ha=>q _ _ (h.own a ha),h.ne,h.nd,fun b o e n=>⟨q _ _ (h.fr b o e n).1,(h.fr b o e n).2⟩⟩⟩
theorem Bld.start (h:H x=some (.ins C dx [])):Bld C H x dx [] [] H:=⟨h,fun _ h=>by simp at h,fun _ h=>by simp at h,List.nodup_nil,fun b o e _=>⟨e,fun _ h=>by simp at h⟩⟩
theorem Bld.set (h:Bld C H x dx fs as H'):Bld C H x dx fs' as (upd H' x (.ins C dx fs')):=
 ⟨aY,fun a ha=>by rw[aE (h.ne a ha)];exact h.own a ha,h.ne,h.nd,fun b o e n=>⟨by rw[aE n];exact (h.fr b o e n).1,(h.fr b o e n).2⟩⟩
theorem Bld.put (h:Bld C H x dx fs as H') {q:Addr} {o:HO} (s:aB H' H1) (hq:H' q=none) (h1:H1 q=some o):Bld C H x dx fs' ((q,o)::as) (upd H1 x (.ins C dx fs')):=by
 have nx:q≠x:=(bV h.ins hq).symm
 refine ⟨aY,fun a ha=>?_,fun a ha=>?_,?_,fun b u e n=>⟨?_,fun a ha=>?_⟩⟩
 ·rcases List.mem_cons.mp ha with rfl | ha
  ·rw[aE nx];exact h1
  ·rw[aE (h.ne a ha)];exact s _ _ (h.own a ha)
 ·rcases List.mem_cons.mp ha with rfl | ha
  ·exact nx
  ·exact h.ne a ha
 ·refine List.nodup_cons.mpr ⟨fun m=>?_,h.nd⟩
  obtain ⟨a,ha,e⟩:=List.mem_map.mp m
  have:=h.own a ha
  rw[e] at this
  rw[hq] at this
  cases this
 ·rw[aE n];exact s _ _ (h.fr b u e n).1
 ·rcases List.mem_cons.mp ha with rfl | ha
  ·exact (bV (h.fr b u e n).1 hq).symm
  ·exact (h.fr b u e n).2 a ha
theorem Bld.seq {K:PySem.W.Frag} {l:Addr} {xs:List V} (h:Bld C H x dx fs as H') (hx:H x=some (.ins C dx [])) (q:SqL K H l xs):SqL K H' l xs:=by
 rcases q with (q | ⟨o,q⟩) | q
 ·exact .inl (.inl (h.fr _ _ q (bR q hx (by intro z;cases z))).1)
 ·exact .inl (.inr ⟨o,(h.fr _ _ q (bR q hx (by intro z;cases z))).1⟩)
 ·exact .inr q
end
theorem pX:∀(s:S) (l:List Int) (i:Nat) (a b:Int),l[2*i]?=some a→l[2*i+1]?=some b→bT s (l.take (2*(i+1)))=M.cD (bT s (l.take (2*i))) a b
 | s,[],i,a,b,h,_=>by simp at h
 | s,[z],i,a,b,h,h2=>by simp at h2
 | s,y::z::r,0,a,b,h,h2=>by
  have e1:y=a:=Option.some.inj h
  have e2:z=b:=Option.some.inj h2
  subst e1 e2
  rfl
 | s,y::z::r,i+1,a,b,h,h2=>by
  have ih:=pX (M.cD s y z) r i a b h h2
  exact ih
section
variable {P:Program} {w:World} {K:PySem.W.Frag} {mg:Str→Option Value} {base:Heap} {C:Addr}
theorem lM {X:Cx} {σ:L2.St} {Pp:Hp→Prop} {o e:Expr} {l:Addr} {xs:List Int} {i:Int} {pos:Pos} [Stb Pp] (ho:Ev X σ Pp o (.ref l)) (hl:∀H,Pp H→SqL X.K H l (xs.map V.int)) (hi:Ev X σ Pp e (.int i)) (hb:0≤i∧i<xs.length) (hs:fT e):Ev X σ Pp (.Subscript o e pos) (.int (xs.getD i.toNat 0)):=
 aR (pF tI ho.pe hi.pe hs) fun H hp Q k=>⟨rfl,hp,fun H1 s1=>⟨rfl,Stb.st s1 hp,fun H2 s2=>by
  refine ⟨l,_,i,_,rfl,rfl,hl H2 (Stb.st (s1.trans s2) hp),at_of (j:=i.toNat) (by omega) ?_,k H2 (s1.trans s2)⟩
  have hlt:i.toNat<xs.length:=by omega
  rw[List.getElem?_map,List.getElem?_eq_getElem hlt,List.getD_eq_getElem?_getD,List.getElem?_eq_getElem hlt]
  rfl⟩⟩
def EvN (X:Cx) (σ:L2.St) (P:Hp→Prop) (e:Expr) (xs:List V):Prop:=
 ∀(pins:List (Addr×Obj)) (s:Shared) (H:Hp) (Q:VK),L2.Inv X pins σ H s→P H→(∀H' l,aB H H'→H l=none→H' l=some (.lst xs)→Q (.ref l) H')→wpAny (model X.prog X.w) X.A (eval e X.env) (EP X pins σ Q) X.xe s
def EvS (X:Cx) (σ:L2.St) (P:Hp→Prop) (e:Expr) (xs:List V):Prop:=
 ∀(pins:List (Addr×Obj)) (s:Shared) (H:Hp) (Q:VK),L2.Inv X pins σ H s→P H→(∀H' l,aB H H'→H' l=some (.lst xs)→Q (.ref l) H')→wpAny (model X.prog X.w) X.A (eval e X.env) (EP X pins σ Q) X.xe s
def EvQ (X:Cx) (σ:L2.St) (P:Hp→Prop) (e:Expr) (xs:List V):Prop:=
 ∀(pins:List (Addr×Obj)) (s:Shared) (H:Hp) (Q:VK),L2.Inv X pins σ H s→P H→(∀H' l,aB H H'→SqL X.K H' l xs→Q (.ref l) H')→wpAny (model X.prog X.w) X.A (eval e X.env) (EP X pins σ Q) X.xe s
def aCy (σ:L2.St) (P:Hp→Prop) (xs:List V):TE:=fun σ' H Q=>σ'=σ∧P H∧∀H' l,aB H H'→H l=none→H' l=some (.lst xs)→Q (.ref l) H'
def aDe (σ:L2.St) (P:Hp→Prop) (xs:List V):TE:=fun σ' H Q=>σ'=σ∧P H∧∀H' l,aB H H'→H' l=some (.lst xs)→Q (.ref l) H'
def aEf (K:PySem.W.Frag) (σ:L2.St) (P:Hp→Prop) (xs:List V):TE:=fun σ' H Q=>σ'=σ∧P H∧∀H' l,aB H H'→SqL K H' l xs→Q (.ref l) H'
theorem EvN.pe {X:Cx} {σ:L2.St} {Pp:Hp→Prop} {e:Expr} {xs:List V} (h:EvN X σ Pp e xs):PE X e (aCy σ Pp xs):=fun pins s σ' H Q I hq=>by
 obtain ⟨es,hp,k⟩:=hq
 subst es
 exact h pins s H Q I hp k
theorem EvS.pe {X:Cx} {σ:L2.St} {Pp:Hp→Prop} {e:Expr} {xs:List V} (h:EvS X σ Pp e xs):PE X e (aDe σ Pp xs):=fun pins s σ' H Q I hq=>by
 obtain ⟨es,hp,k⟩:=hq
 subst es
 exact h pins s H Q I hp k
theorem EvQ.pe {X:Cx} {σ:L2.St} {Pp:Hp→Prop} {e:Expr} {xs:List V} (h:EvQ X σ Pp e xs):PE X e (aEf X.K σ Pp xs):=fun pins s σ' H Q I hq=>by
 obtain ⟨es,hp,k⟩:=hq
 subst es
 exact h pins s H Q I hp k
theorem jE {X:Cx} {σ:L2.St} {Pp:Hp→Prop} {e:Expr} {xs:List V} {t:TE} (h:PE X e t) (ht:∀H,Pp H→∀Q:VK,(∀H' l,aB H H'→H l=none→H' l=some (.lst xs)→Q (.ref l) H')→t σ H Q):EvN X σ Pp e xs:=fun pins s H Q I hp k=>h pins s σ H Q I (ht H hp Q k)
theorem qV {X:Cx} {σ:L2.St} {Pp:Hp→Prop} {e:Expr} {xs:List V} {t:TE} (h:PE X e t) (ht:∀H,Pp H→∀Q:VK,(∀H' l,aB H H'→H' l=some (.lst xs)→Q (.ref l) H')→t σ H Q):EvS X σ Pp e xs:=fun pins s H Q I hp k=>h pins s σ H Q I (ht H hp Q k)
theorem EvN.s {X:Cx} {σ:L2.St} {Pp:Hp→Prop} {e:Expr} {xs:List V} (h:EvN X σ Pp e xs):EvS X σ Pp e xs:=fun pins s H Q I hp k=>h pins s H Q I hp fun H' l s1 _ q=>k H' l s1 q
theorem EvS.q {X:Cx} {σ:L2.St} {Pp:Hp→Prop} {e:Expr} {xs:List V} (h:EvS X σ Pp e xs):EvQ X σ Pp e xs:=fun pins s H Q I hp k=>h pins s H Q I hp fun H' l s1 q=>k H' l s1 (SqL.of q)
theorem gP {X:Cx} {σ:L2.St} {Pp:Hp→Prop} {e:Expr} {l:Addr} {xs:List V} [Stb Pp] (h:Ev X σ Pp e (.ref l)) (hl:∀H,Pp H→SqL X.K H l xs):EvQ X σ Pp e xs:=fun pins s H Q I hp k=>h pins s H Q I hp fun H' s1=>k H' l s1 (hl H' (Stb.st s1 hp))
theorem EvN.eq {X:Cx} {σ:L2.St} {Pp:Hp→Prop} {e:Expr} {xs ys:List V} (h:EvN X σ Pp e xs) (q:xs=ys):EvN X σ Pp e ys:=q▸h
theorem jA {X:Cx} {σ:L2.St} {Pp:Hp→Prop} {e:Expr} {xs:List V} {a b:Int} {j1 j2:Nat} {p1 p2 p3 pos:Pos} (h:EvQ X σ Pp e xs):EvN X σ Pp (.Subscript e (.Slice (some (.Constant (.int a) j1 p1)) (some (.Constant (.int b) j2 p2)) none p3) pos) (cZ xs (some a) (some b)):=
 jE (sJ uG h.pe (hR dN) (hR dN)) fun H hp Q k=>⟨rfl,hp,fun H1 l s1 q=>⟨a,rfl,b,rfl,l,xs,rfl,q,fun t ht=>k _ t (s1.trans (aB.new ht)) (s1.free ht) aY⟩⟩
theorem fJ {X:Cx} {σ:L2.St} {Pp:Hp→Prop} {a b:Expr} {xs ys:List V} {pos:Pos} [Stb Pp] (ha:EvS X σ Pp a xs) (hb:EvS X σ Pp b ys) (hl:xs.length+ys.length≤sizeLine):EvN X σ Pp (.BinOp a .Add b pos) (xs++ys):=
 jE (iI vZ ha.pe hb.pe) fun H hp Q k=>⟨rfl,hp,fun H1 l1 s1 q1=>⟨rfl,Stb.st s1 hp,fun H2 l2 s2 q2=>⟨l1,l2,xs,ys,rfl,rfl,s2 _ _ q1,q2,hl,fun t ht=>k _ t ((s1.trans s2).trans (aB.new ht)) ((s1.trans s2).free ht) aY⟩⟩⟩
theorem iF {X:Cx} {σ:L2.St} {Pp:Hp→Prop} {es:List Expr} {vs:List V} {pos:Pos} (h:EvL X σ Pp es vs) (hl:vs.length≤sizeLine):EvN X σ Pp (.List es pos) vs:=
 jE (xQ h.pa) fun H hp Q k=>⟨rfl,hp,fun H1 s1=>⟨hl,fun t ht=>k _ t (s1.trans (aB.new ht)) (s1.free ht) aY⟩⟩
theorem qH {X:Cx} {N:List Str} {sc:Scope} {k:Nat} (B:Bd X P w K mg base N sc k) {σ:L2.St} {Pp:Hp→Prop} {elt iter:Expr} {scope:Scope} {x:Str} {i:Nat} {px pos:Pos} {te:TE} {ns:List Int} {g:Int→Int} [Stb Pp] (hi:EvQ X σ Pp iter (ns.map V.int)) (hlen:ns.length<sizeLine)
  (ok:gU X.N X.env.scope scope [(x,i)]) (hg:∀(s:Shared) (H:Hp) (C:Addr) (cl:List (Str×Addr)) (fp:List Addr),PG (X.blk s H scope (compEnvC scope cl C X.env) fp) (.Name x px) (mQ i))
  (he:∀(s:Shared) (H:Hp) (C:Addr) (cl:List (Str×Addr)) (fp:List Addr),PE (X.blk s H scope (compEnvC scope cl C X.env) fp) elt te) (hw:∀v,wipe ((wipe σ [i]).set i v) [i]=wipe σ [i])
  (ht:∀n∈ns,∀H,Pp H→∀Q:VK,(∀H',aB H H'→Q (.int (g n)) H')→te ((wipe σ [i]).set i (some (.int n))) H Q) (hs:∀z,foldedSetIterable iter X.env z=pure z) :
  EvN X σ Pp (.ListComp elt [⟨.Name x px,iter,[],0⟩] scope pos) ((ns.map g).map V.int):=
 jE (xY (own:=[(x,i)]) B.calm B.nd' (aBe hi.pe) ok hg (fun _ _ _ _ _=>aEv) he hs) fun H hp Q kk=>⟨rfl,hp,fun H1 l s1 q1=>⟨l,rfl,⟨_,q1⟩,fun d hd=>by
  refine xT (K:=X.K) (a:=l) (xs:=ns.map V.int) (fun j H'=>aB H1 H'∧H' d=some (.lst (((ns.take j).map g).map V.int))) ⟨aB.new hd,aY⟩ (fun j H' _ hP=>hP.1.seq q1) (fun j y H' hy hP=>?_) (fun H' hP=>?_)
  ·obtain ⟨n,hn,rfl⟩:∃n,ns[j]?=some n∧y=V.int n:=by
    rw[List.getElem?_map] at hy
    cases e:ns[j]? with
    | none=>rw[e] at hy;cases hy
    | some n=>rw[e] at hy;exact ⟨n,rfl,(Option.some.inj hy).symm⟩
   refine ⟨hw _,?_⟩
   unfold vK
   dsimp only
   rw[if_pos rfl]
   refine ht n (List.mem_of_getElem? hn) H' (Stb.st hP.1 (Stb.st s1 hp)) _ fun H4 s4=>⟨_,s4 _ _ hP.2,?_,?_,?_⟩
   ·rw[List.length_map,List.length_map,List.length_take]
    exact Nat.lt_of_le_of_lt (Nat.min_le_right _ _) hlen
   ·exact fun b o e=>by rw[aE (bV e hd)];exact s4 _ _ (hP.1 _ _ e)
   ·rw[aY,qZ hn,List.map_append,List.map_append]
    rfl
  ·rw[List.length_map,List.take_length] at hP
   exact kk H' d (s1.trans hP.1) (s1.free hd) hP.2⟩⟩
theorem jM {X:Cx} {σ:L2.St} {H:Hp} {x dx:Addr} {fs:List (Str×V)} {as:List (Addr×HO)} {o e:Expr} {f:Str} {xs:List V} {p5 pos:Pos} {rest:List Stmt} {D:Ends} (n:bH X.K C f) (c:Cls X.K C)
  (ho:Ev X σ (Bld C H x dx fs as) o (.ref x)) (he:EvN X σ (Bld C H x dx fs as) e xs) (hf:fs.length<1000)
  (hr:∀q,Sts X σ (Bld C H x dx (aL f (.ref q) fs) ((q,.lst xs)::as)) rest D)
  (hs:swapsWith e (some (.Attribute o f p5)) pos.line X.env=pure false) :
  Sts X σ (Bld C H x dx fs as) (.Assign [.Attribute o f p5] e pos::rest) D:=
 aZ (bC (gS ho.pe he.pe hs) (Sts.pss rest)) fun H' hB=>⟨rfl,hB,fun H1 q s1 hq h1=>⟨rfl,Stb.st s1 hB,fun H2 s2=>
  ⟨x,C,dx,fs,rfl,(Stb.st (s1.trans s2) hB).ins,c,n,hf,_,hB.put (s1.trans s2) hq (s2 _ _ h1),hr q⟩⟩⟩
theorem aAm {X:Cx} {σ:L2.St} {H:Hp} {x dx:Addr} {fs:List (Str×V)} {as:List (Addr×HO)} {o e:Expr} {f:Str} {i:Int} {p5 pos:Pos} {rest:List Stmt} {D:Ends} (n:bH X.K C f) (c:Cls X.K C)
  (ho:Ev X σ (Bld C H x dx fs as) o (.ref x)) (he:Ev X σ (Bld C H x dx fs as) e (.int i)) (hf:fs.length<1000)
  (hr:Sts X σ (Bld C H x dx (aL f (.int i) fs) as) rest D)
  (hs:swapsWith e (some (.Attribute o f p5)) pos.line X.env=pure false) :
  Sts X σ (Bld C H x dx fs as) (.Assign [.Attribute o f p5] e pos::rest) D:=
 aZ (bC (gS ho.pe he.pe hs) (Sts.pss rest)) fun H' hB=>⟨rfl,hB,fun H1 s1=>⟨rfl,Stb.st s1 hB,fun H2 s2=>
  ⟨x,C,dx,fs,rfl,(Stb.st (s1.trans s2) hB).ins,c,n,hf,_,(Stb.st (s1.trans s2) hB).set,hr⟩⟩⟩
theorem aBk {X:Cx} {σ:L2.St} {H:Hp} {x dx:Addr} {fs:List (Str×V)} {as:List (Addr×HO)} {o:Expr} {f:Str} {p4 p5 pos:Pos} {rest:List Stmt} {D:Ends} (n:bH X.K C f) (c:Cls X.K C)
  (ho:Ev X σ (Bld C H x dx fs as) o (.ref x)) (hf:fs.length<1000)
  (hr:∀q,Sts X σ (Bld C H x dx (aL f (.ref q) fs) ((q,.dK [])::as)) rest D)
  (hs:swapsWith (.Dict [] [] p4) (some (.Attribute o f p5)) pos.line X.env=pure false) :
  Sts X σ (Bld C H x dx fs as) (.Assign [.Attribute o f p5] (.Dict [] [] p4) pos::rest) D:=
 aZ (bC (gS ho.pe aD2 hs) (Sts.pss rest)) fun H' hB q hq=>⟨rfl,Stb.st (aB.new hq) hB,fun H2 s2=>
  ⟨x,C,dx,fs,rfl,s2 _ _ (aB.new hq _ _ hB.ins),c,n,hf,_,hB.put ((aB.new hq).trans s2) hq (s2 _ _ aY),hr q⟩⟩
def rT (K:PySem.W.Frag) (C:Addr):Sp:=fun vs H Q _=>∃(x dx ls lp:Addr) (st pk:List Int) (m:Nat),vs=[.ref x,.ref ls,.ref lp]∧H x=some (.ins C dx [])∧SqL K H ls (st.map V.int)∧SqL K H lp (pk.map V.int)∧st.length=39∧(∀v∈st,Wd v)∧pk.length=2*m∧pk.length≤49000 ∧
 ∀H',aG C H' x (bA st pk)→(∀b o,H b=some o→b≠x→H' b=some o∧¬bS H' x b)→Q .non H'
theorem iS {xs:List Int} {a b:Nat} (hb:b≤xs.length) (hab:a≤b):cZ (xs.map V.int) (some (a:Int)) (some (b:Int))=((xs.drop a).take (b-a)).map V.int:=by
 have e:∀k d:Nat,k≤xs.length→HT.sIx xs.length d (some (k:Int))=k:=fun k d hk=>by
  rw[HT.aFm]
  omega
 unfold cZ
 rw[List.length_map,e a _ (by omega),e b _ hb,List.map_take,List.map_drop]
theorem aCq {lr lh lb:Addr} {st:Int} {ls lm:Addr}:aL "words" (.ref lm) (aL "saved" (.ref ls) (aL "status" (.int st) (aL "banks" (.ref lb) (aL "high" (.ref lh) (aL "regs" (.ref lr) [])))))=cf lr lh lb st ls lm:=by rfl
theorem wF {H H':Hp} {x dx lr lh lb ls lm:Addr} {s:S} (wf:WF s) (hm:s.mem=fun _=>0) (h:Bld C H x dx (cf lr lh lb s.status ls lm) [(lm,.dK []),(ls,.lst (s.saved.map V.int)),(lb,.lst (s.banks.map V.int)),(lh,.lst (s.high.map V.int)),(lr,.lst (s.regs.map V.int))] H') :
  aG C H' x s∧(∀b o,H b=some o→b≠x→H' b=some o∧¬bS H' x b):=by
 have nd:=h.nd
 simp only[List.map_cons,List.map_nil,List.nodup_cons,List.mem_cons,List.not_mem_nil,not_or,or_false,not_false_eq_true,and_true,List.nodup_nil] at nd
 obtain ⟨⟨n1,n2,n3,n4⟩,⟨n5,n6,n7⟩,⟨n8,n9⟩,n10⟩:=nd
 refine ⟨⟨dx,lr,lh,lb,ls,lm,[],h.ins,h.own (lr,.lst (s.regs.map V.int)) (by simp),h.own (lh,.lst (s.high.map V.int)) (by simp),h.own (lb,.lst (s.banks.map V.int)) (by simp),h.own (ls,.lst (s.saved.map V.int)) (by simp),h.own (lm,.dK []) (by simp),⟨fun k hk=>by simp at hk,List.nodup_nil,fun n=>by rw[hm];rfl⟩,fun z=>n10 z.symm,fun z=>n9 z.symm,fun z=>n7 z.symm,fun z=>n8 z.symm,fun z=>n6 z.symm,fun z=>n5 z.symm,wf⟩,fun b o e n=>⟨(h.fr b o e n).1,fun ow=>?_⟩⟩
 have q:=(h.fr b o e n).2
 rcases (cE h.ins).mp ow with z | z | z | z | z | z
 ·exact n z
 ·exact q (lr,.lst (s.regs.map V.int)) (by simp) z.symm
 ·exact q (lh,.lst (s.high.map V.int)) (by simp) z.symm
 ·exact q (lb,.lst (s.banks.map V.int)) (by simp) z.symm
 ·exact q (ls,.lst (s.saved.map V.int)) (by simp) z.symm
 ·exact q (lm,.dK []) (by simp) z.symm
end
end Arm
end

section
set_option maxRecDepth 100000
namespace Arm
open PySem PySem.Spec PyProof.Rows L2
section
variable {P:Program} {w:World} {K:PySem.W.Frag} {mg:Str→Option Value} {base:Heap} {C:Addr}
theorem aE4:aP ["self","state","pokes","k","status"] ["self","state","pokes"] (aI dR):=⟨rfl,rfl,rfl,by decide +kernel,rfl,by decide +kernel,by decide +kernel⟩
theorem fits {i:Int} (h:-1000000≤i∧i≤1000000):Builtin.Range.rangeFitsLong i=true:=by
 unfold Builtin.Range.rangeFitsLong
 have a:(1000000:Int)<2^63:=by decide
 rw[Bool.and_eq_true,decide_eq_true_eq,decide_eq_true_eq]
 generalize (2:Int)^63=z at a
 omega
theorem rg2 (m:Nat) (h:2*m≤49000):RgC 0 ((2*m:Nat):Int) 2 m:=by
 have e:Builtin.Range.rangeSize 0 ((2*m:Nat):Int) 2=(m:Int):=by
  rw[rangeSize_pos (by decide) (by omega)]
  omega
 refine ⟨by decide,by decide,?_,e⟩
 unfold Builtin.Range.small
 rw[e,fits (by omega),fits (by omega),fits (by omega),fits (by omega),if_pos (by decide),fits (by omega),Bool.or_true]
 rfl
def CPF (C x:Addr) (H:Hp) (s:S):Hp→Prop:=fun H'=>aG C H' x s∧∀b o,H b=some o→b≠x→H' b=some o∧¬bS H' x b
instance aHi {C x:Addr} {H:Hp} {s:S}:Stb (CPF C x H s):=⟨fun q h=>⟨h.1.same q,fun b o e n=>Fr.same h.1 q b o (h.2 b o e n).1 (h.2 b o e n).2⟩⟩
instance aHj {C x:Addr} {H:Hp} {s:S}:Cor (CPF C x H s) C x s:=⟨fun _ h=>h.1⟩
theorem CPF.fr {C x:Addr} {H H1 H2:Hp} {s t:S} (h:CPF C x H s H1) (c:aG C H2 x t) (f:Fr x H1 H2):CPF C x H t H2:=⟨c,fun b o e n=>f b o (h.2 b o e n).1 (h.2 b o e n).2⟩
theorem CPF.seq {C x l:Addr} {H H':Hp} {s:S} {xs:List V} (h:CPF C x H s H') (hx:H x=none∨∃dx fs,H x=some (.ins C dx fs)) (q:SqL K H l xs):SqL K H' l xs:=by
 have n:∀o,H l=some o→(∀C dx fs,o≠.ins C dx fs)→l≠x:=fun o e z=>by
  rcases hx with hx | ⟨dx,fs,hx⟩
  ·exact bV e hx
  ·exact bR e hx (z _ _ _)
 rcases q with (q | ⟨o,q⟩) | q
 ·exact .inl (.inl (h.2 _ _ q (n _ q (by intro _ _ _ z;cases z))).1)
 ·exact .inl (.inr ⟨o,(h.2 _ _ q (n _ q (by intro _ _ _ z;cases z))).1⟩)
 ·exact .inr q
theorem aG2 {f:Addr} {fd:FuncData} (F:Fun K "__init__" "Core.__init__" dR f fd) (T:Tx K mg C) (oF:rH P w K mg base C):aH P w K mg base CX0 4 f fd ["self","state","pokes"] (rT K C):=by
 refine bD F aE4 (fun vs H Q E h=>?_) (fun X B vs H Q E h=>?_)
 ·obtain ⟨_,_,_,_,_,_,_,rfl,_⟩:=h;rfl
 ·obtain ⟨x,dx,ls,lp,st,pk,m,rfl,hx,hs,hp,sl,sw,pl,pm,k⟩:=h
  have bU:Vr X 0 "self":=B.vr rfl rfl rB
  have eE:Vr X 1 "state":=B.vr rfl rfl tZ
  have gX:Vr X 2 "pokes":=B.vr rfl rfl sD
  have x_k:Vr X 3 "k":=B.vr rfl rfl sL
  have jX:Gl X "range":=B.g rfl
  have aBr:Gl X "len":=B.g rfl
  have aBv:=B.gi T.hZ rfl sX
  have aB0:=B.cl oF rfl aGk (by decide)
  have hs':SqL X.K H ls (st.map V.int):=by rw[B.eK];exact hs
  have hp':SqL X.K H lp (pk.map V.int):=by rw[B.eK];exact hp
  have ct:=B.ct T
  refine ⟨Bld C H x dx [] [],Bld.start hx,?_⟩
  show Sts X [some (.ref x),some (.ref ls),some (.ref lp),none,none] _ _ _
  have qs:∀{fs:List (Str×V)} {as:List (Addr×HO)},∀H',Bld C H x dx fs as H'→SqL X.K H' ls (st.map V.int):=fun H' h'=>h'.seq hx hs'
  refine jM ct.nR ct.cl (aA bU rfl) ((jA (gP (aA eE rfl) qs)).eq (iS (xs:=st) (a:=0) (b:=16) (by omega) (by decide))) (by show 0<1000;decide) (fun lr=>?_) rfl
  refine jM ct.nH ct.cl (aA bU rfl) ((jA (gP (aA eE rfl) qs)).eq (iS (xs:=st) (a:=16) (b:=23) (by omega) (by decide))) (by show 1<1000;decide) (fun lh=>?_) rfl
  refine jM ct.nB ct.cl (aA bU rfl) ((jA (gP (aA eE rfl) qs)).eq (iS (xs:=st) (a:=23) (b:=33) (by omega) (by decide))) (by show 2<1000;decide) (fun lb=>?_) rfl
  refine aAm ct.nS ct.cl (aA bU rfl) (bX (lM (aA eE rfl) qs aN (by omega) (fun _ _=>rfl)) (bF aBv)) (by show 3<1000;decide) ?_ rfl
  obtain ⟨tk,hk⟩:=T.hZ
  refine jM ct.nV ct.cl (aA bU rfl) (qH B (x:="status") (i:=4) (g:=fun z=>Builtin.bitAnd z 4026532063) ((jA (gP (aA eE rfl) qs)).eq (iS (xs:=st) (a:=34) (b:=39) (by omega) (by decide))).s.q (by show _<16777216;rw[List.length_take];omega)
   ?blk (fun s H' c cl fp=>hW (i:=4) B.nd' (by rw[B.eN];rfl) (.inl (B.rel _ _ _ rfl)) (.inr (B.rel _ _ _ rfl)))
   (fun s H' c cl fp=>iI rO (eR (i:=4) (by rw[B.eN];rfl) (.inl (B.rel _ _ _ rfl)) fH.d fH.c) (fZ (X:=X.blk _ _ _ _ _) (v:=.int 4026532063) (u:=.int 4026532063 tk) (B.rel _ _ _ rfl) (by rw[show (X.blk _ _ _ _ _).mg=mg from B.eM];exact hk) ⟨tk,rfl⟩ sX.d)) (fun v=>rfl) (fun n hn H' hp' Q' kk=>⟨_,rfl,n,_,rfl,rfl,kk H' (aB.refl _)⟩) (fun _=>rfl)) (by show 4<1000;decide) (fun lv=>?_) ?hsw
  case blk=>rw[B.eN,B.eS];exact uR (by decide +kernel)
  case hsw=>rfl
  refine aBk ct.nM ct.cl (aA bU rfl) (by show 5<1000;decide) (fun lm=>?_) rfl
  rw[aCq]
  have wf0:=WF.cG sl sw
  refine aFp (P':=CPF C x H (cG st)) ?_ (fun H' h'=>wF wf0 rfl h')
  have qp:∀{s:S},∀H',CPF C x H s H'→SqL X.K H' lp (pk.map V.int):=fun H' h'=>h'.seq (.inr ⟨dx,[],hx⟩) hp'
  refine aZ (bC (sY B.never B.calm (aFd jX (by rw[B.eM];exact T.iU) (bO dN (bO (aBq B T aBr (aA gX rfl) qp rfl).pe (bO dN dH)))) (hW (i:=3) B.nd' x_k.n x_k.l (.inl (B.fn _))) (Sts.pss _)) jL) fun H' h'=>⟨rfl,h',fun H1 s1=>⟨0,_,2,m,rfl,by rw[List.length_map,pl];exact rg2 m (by omega),
   aA5 (lo:=0) (c:=2) (n:=m) (fun i σ' H2=>∃v,σ'=[some (.ref x),some (.ref ls),some (.ref lp),v,none]∧CPF C x H (bT (cG st) (pk.take (2*i))) H2) ⟨none,rfl,Stb.st s1 h'⟩ (fun i σ' H2 hi ⟨v,e,hP⟩=>?_) (fun σ' H2 ⟨v,e,hP⟩=>?_)⟩⟩
  ·subst e
   have i1:2*i<pk.length:=by omega
   have i2:2*i+1<pk.length:=by omega
   obtain ⟨z,ez⟩:∃z:Int,z=0+(i:Nat)*2:=⟨_,rfl⟩
   rw[←ez]
   refine ⟨CPF C x H (bT (cG st) (pk.take (2*i))),hP,?_⟩
   show Sts X [some (.ref x),some (.ref ls),some (.ref lp),some (.int z),none] _ _ _
   refine cS (P':=CPF C x H (M.cD (bT (cG st) (pk.take (2*i))) (pk.getD z.toNat 0) (pk.getD (z+1).toNat 0))) aB0 (aF (aA bU rfl) (aF (lM (aA gX rfl) qp (aA x_k rfl) (by omega) (fun _ _=>rfl)) (aF (lM (aA gX rfl) qp (gO (aA x_k rfl) aN) (by omega) (fun _ _=>rfl)) aO)))
    (fun H3 h3 Q3 k3=>⟨_,_,_,_,rfl,h3.1,trivial,fun H4 c4 f4=>k3 _ H4 (h3.fr c4 f4)⟩) ?_
   refine bE fun H3 h3=>⟨_,rfl,?_⟩
   rw[pX _ pk i (pk.getD z.toNat 0) (pk.getD (z+1).toNat 0) (by rw[show z.toNat=2*i by omega,List.getD_eq_getElem?_getD,List.getElem?_eq_getElem i1];rfl) (by rw[show (z+1).toNat=2*i+1 by omega,List.getD_eq_getElem?_getD,List.getElem?_eq_getElem i2];rfl)]
   exact h3
  ·subst e
   rw[←pl,List.take_length] at hP
   exact k H2 hP.1 hP.2
def oU (C:Addr):Sp:=fun vs H Q _=>∃(p:Addr) (s:S),vs=[.ref p]∧aG C H p s∧∀H' l,aB H H'→H' l=some (.lst ((s.regs++s.high++s.banks++[s.status]++s.saved).map V.int))→Q (.ref l) H'
theorem iM {X:Cx} {σ:L2.St} {Pp:Hp→Prop} {o:Expr} {p:Addr} {f:Str} {xs:List V} {pos:Pos} [Stb Pp] (hn:bH X.K C f) (hcl:Cls X.K C) (ho:Ev X σ Pp o (.ref p)) (hc:∀H,Pp H→∃dx fs l,H p=some (.ins C dx fs)∧fs.lookup f=some (.ref l)∧H l=some (.lst xs)) (hb:attributeBase o f X.env (eval o X.env)=eval o X.env):EvS X σ Pp (.Attribute o f pos) xs:=
 qV (eV ho.pe hb) fun H hp Q k=>⟨rfl,hp,fun H1 s1=>by
  obtain ⟨dx,fs,l,e1,e2,e3⟩:=hc H1 (Stb.st s1 hp)
  exact ⟨p,C,dx,fs,_,rfl,e1,hcl,hn,e2,k H1 l s1 e3⟩⟩
theorem iQ {X:Cx} {σ:L2.St} {Pp:Hp→Prop} {e:Expr} {xs:List V} {pos:Pos} {rest:List Stmt} {D:Ends} (he:EvS X σ Pp e xs) (h:∀H,Pp H→∀H' l,aB H H'→H' l=some (.lst xs)→D.rt (.ref l) H'):Sts X σ Pp (.Return (some e) pos::rest) D:=
 aZ (bC (lH he.pe) (lP)) fun H hp=>⟨rfl,hp,h H hp⟩
theorem aF6:aP ["self"] ["self"] (aI dZ):=⟨rfl,rfl,rfl,by decide +kernel,rfl,by decide +kernel,by decide +kernel⟩
theorem aEb {f:Addr} {fd:FuncData} (F:Fun K "numbers" "Core.numbers" dZ f fd) (T:Tx K mg C):aH P w K mg base CX0 1 f fd ["self"] (oU C):=by
 refine bD F aF6 (fun vs H Q E h=>?_) (fun X B vs H Q E h=>?_)
 ·obtain ⟨_,_,rfl,_⟩:=h;rfl
 ·obtain ⟨p,s,rfl,hc,k⟩:=h
  have hw:=hc.wf
  have bU:Vr X 0 "self":=B.vr rfl rfl rB
  have ct:=B.ct T
  refine ⟨RP C p H s,⟨hc,aB.refl H⟩,?_⟩
  show Sts X [some (.ref p)] _ _ _
  have l1:(s.regs.map V.int).length=16:=by rw[List.length_map,hw.lr]
  have l2:(s.high.map V.int).length=7:=by rw[List.length_map,hw.lh]
  have l3:(s.banks.map V.int).length=10:=by rw[List.length_map,hw.lb]
  have l4:(s.saved.map V.int).length=5:=by rw[List.length_map,hw.ls]
  have sz:sizeLine=16777216:=rfl
  refine iQ (fJ (fJ (fJ (fJ (iM ct.nR ct.cl (aA bU rfl) (fun H h=>let ⟨dx,lr,lh,lb,ls,lm,kvs,a⟩:=h.1;⟨dx,_,lr,a.ins,hG,a.regs⟩) rfl) (iM ct.nH ct.cl (aA bU rfl) (fun H h=>let ⟨dx,lr,lh,lb,ls,lm,kvs,a⟩:=h.1;⟨dx,_,lh,a.ins,sT,a.high⟩) rfl) (by omega)).s
   (iM ct.nB ct.cl (aA bU rfl) (fun H h=>let ⟨dx,lr,lh,lb,ls,lm,kvs,a⟩:=h.1;⟨dx,_,lb,a.ins,mF,a.banks⟩) rfl) (by rw[List.length_append];omega)).s (iF (aF (fF ct (aA bU rfl) rfl) aO) (by show 1≤16777216;decide)).s (by rw[List.length_append,List.length_append];show _+1≤_;omega)).s
   (iM ct.nV ct.cl (aA bU rfl) (fun H h=>let ⟨dx,lr,lh,lb,ls,lm,kvs,a⟩:=h.1;⟨dx,_,ls,a.ins,tJ,a.saved⟩) rfl) (by rw[List.length_append,List.length_append,List.length_append];show _+1+_≤_;omega)).s (fun H1 hP H2 l s2 q=>?_)
  refine k H2 l (hP.2.trans s2) ?_
  rw[q]
  simp only[List.map_append,List.map_cons,List.map_nil]
def rW (K:PySem.W.Frag) (C:Addr):Sp:=fun vs H Q _=>∃(p ll:Addr) (s:S) (n:Int) (lk:List Int),vs=[.int n,.ref p,.ref ll]∧aG C H p s∧SqL K H ll (lk.map V.int)∧lk.length≤49000∧∀H' l,aB H H'→H' l=some (.lst ((M.answer n s lk).map V.int))→Q (.ref l) H'
abbrev qE (P:Program) (w:World) (K:PySem.W.Frag) (mg:Str→Option Value) (base:Heap) (C:Addr):Prop:=Fc P w K mg base "answer" ["number","core","looks"] 3 (rW K C)
def RPQ (K:PySem.W.Frag) (C p:Addr) (H0:Hp) (s:S) (l:Addr) (xs:List V):Hp→Prop:=fun H=>RP C p H0 s H∧SqL K H l xs
instance aHf {C p:Addr} {H0:Hp} {s:S} {l:Addr} {xs:List V}:Stb (RPQ K C p H0 s l xs):=⟨fun q h=>⟨Stb.st q h.1,q.seq h.2⟩⟩
theorem aDg:aP ["number","core","looks","place"] ["number","core","looks"] (aI oC):=⟨rfl,rfl,rfl,by decide +kernel,rfl,by decide +kernel,by decide +kernel⟩
theorem wG {f f2:Addr} {fd fd2:FuncData} (F:Fun K "answer" "answer" oC f fd) (T:Tx K mg C) (oM:rL P w K mg base C) (M2:Meth K C "numbers" f2) (F2:aH P w K mg base CX0 1 f2 fd2 ["self"] (oU C)) (b2:Binds K fd2 ["self"] []):aH P w K mg base CX0 3 f fd ["number","core","looks"] (rW K C):=by
 refine bD F aDg (fun vs H Q E h=>?_) (fun X B vs H Q E h=>?_)
 ·obtain ⟨_,_,_,_,_,rfl,_⟩:=h;rfl
 ·obtain ⟨p,ll,s,n,lk,rfl,hc,hl,hn,k⟩:=h
  have hw:=hc.wf
  have wU:Vr X 0 "number":=B.vr rfl rfl xM
  have aD:Vr X 1 "core":=B.vrc rfl rfl bK
  have nW:Vr X 2 "looks":=B.vr rfl rfl uX
  have ct:=B.ct T
  refine ⟨RPQ X.K C p H s ll (lk.map V.int),⟨⟨hc,aB.refl H⟩,by rw[B.eK];exact hl⟩,?_⟩
  show Sts X [some (.int n),some (.ref p),some (.ref ll),none] _ _ _
  have l1:((s.regs++s.high++s.banks++[s.status]++s.saved).map V.int).length=39:=by
   simp only[List.length_map,List.length_append,hw.lr,hw.lh,hw.lb,hw.ls,List.length_cons,List.length_nil]
  have sz:sizeLine=16777216:=rfl
  refine iQ (fJ (fJ (iF (aF (aA wU rfl) aO) (by show 1≤16777216;decide)).s
   (qV (xs:=(s.regs++s.high++s.banks++[s.status]++s.saved).map V.int) (aC5 (aA (P:=RPQ X.K C p H s ll (lk.map V.int)) aD rfl).pe ct.cl (by rw[B.eK];exact M2) (by rw[B.eP,B.eW,B.eK,B.eM,B.eB];exact F2) (B.room.mono (by decide)) (by rw[B.eK];exact b2) .nil jI) fun H1 h1 Q1 k1=>⟨rfl,h1,fun H2 s2=>by
    obtain ⟨dx,lr,lh,lb,ls,lm,kvs,a⟩:=(Stb.st s2 h1).1.1
    exact ⟨p,dx,_,rfl,a.ins,rfl,p,s,rfl,(Stb.st s2 h1).1.1,fun H3 l s3 q=>k1 H3 l (s2.trans s3) q⟩⟩) (by show 1+_≤_;omega)).s
   (qH B (x:="place") (i:=3) (g:=fun z=>M.eY s z) (gP (aA nW rfl) (fun H h=>h.2)) (by show lk.length<16777216;omega) ?blk
    (fun s H' c cl fp=>hW (i:=3) B.nd' (by rw[B.eN];rfl) (.inl (B.rel _ _ _ rfl)) (.inr (B.rel _ _ _ rfl)))
    (fun s H' c cl fp=>mO (X:=X.blk _ _ _ _ _) (B.fc oM) (B.room.mono (by decide)) (B.rel _ _ _ rfl) aEt.d (bO (eR (i:=1) (by rw[B.eN];rfl) (.inr (.inl (B.rel _ _ _ rfl))) bK.d bK.c) (bO (eR (i:=3) (by rw[B.eN];rfl) (.inl (B.rel _ _ _ rfl)) dM.d dM.c) dH)))
    (fun v=>rfl) (fun z hz H' h' Q' kk=>⟨_,rfl,_,rfl,p,s,z,rfl,h'.1.1,trivial,fun H3 s3=>kk H3 s3⟩) (fun _=>rfl)).s (by rw[List.length_append,List.length_map (f:=V.int) (as:=lk.map fun z=>M.eY s z),List.length_map (as:=lk)];show 1+_+_≤_;omega)).s (fun H1 hP H2 l s2 q=>?_)
  case blk=>rw[B.eN,B.eS];exact uR (by decide +kernel)
  refine k H2 l (hP.1.2.trans s2) ?_
  rw[q]
  unfold M.answer
  simp only[List.map_append,List.map_cons,List.map_nil,List.cons_append,List.nil_append,List.append_assoc]
end
end Arm
end

section
set_option maxRecDepth 100000
namespace Arm
open PySem PySem.Spec PyProof.Rows L2
section
variable {P:Program} {w:World} {K:PySem.W.Frag} {mg:Str→Option Value} {base:Heap} {C:Addr}
theorem vF:∀(l:List Int),Ql28Neutral.pokes 1048576 l=true→∃m,l.length=2*m
 | [],_=>⟨0,rfl⟩
 | [_],h=>by cases h
 | a::b::r,h=>by
  have h1:(NeutralIO.within a 0 (1048576-1)&&(NeutralIO.within b 0 255&&Ql28Neutral.pokes 1048576 r))=true:=h
  rw[Bool.and_eq_true,Bool.and_eq_true] at h1
  obtain ⟨m,hm⟩:=vF r h1.2.2
  exact ⟨m+1,by rw[List.length_cons,List.length_cons,hm];omega⟩
structure Rq (K:PySem.W.Frag) (H:Hp) (ls lp ll:Addr) (st pk lk:List Int):Prop where
 s:SqL K H ls (st.map V.int)
 p:SqL K H lp (pk.map V.int)
 l:SqL K H ll (lk.map V.int)
 sl:st.length=39
 sw:∀v∈st,Wd v
 pe:∃m,pk.length=2*m
 pl:pk.length≤49000
 ll:lk.length≤49000
structure jR (P:Program) (w:World) (K:PySem.W.Frag) (mg:Str→Option Value) (base:Heap) (C:Addr):Prop where
 ex:∃f1 fd1,Mk K C f1∧aH P w K mg base CX0 4 f1 fd1 ["self","state","pokes"] (rT K C)∧Binds K fd1 ["self","state","pokes"] []
 mgC:mg "Core" = some (.ref C)
theorem aAc {X:Cx} {N:List Str} {sc:Scope} {k:Nat} (B:Bd X P w K mg base N sc k) (M:jR P w K mg base C) (hk:5≤k) {σ:L2.St} {H:Hp} {ls lp ll:Addr} {st pk lk:List Int} {a b:Expr} {i:Nat} {px q cp pos:Pos} {rest:List Stmt} {D:Ends} (r:Rq K H ls lp ll st pk lk) (hg:Gl X "Core") (hx:Vr X i "core")
  (ha:Ev X σ (aB H) a (.ref ls)) (hb:Ev X σ (aB H) b (.ref lp)) (hr:∀x,H x=none→Sts X (σ.set i (some (.ref x))) (CPF C x H (bA st pk)) rest D)
  (hs:swapsWith (.Call (.Name "Core" q) [a,b] [] cp) (some (.Name "core" px)) pos.line X.env=pure false)
  (he:starEach [a,b] X.env=(false,eval a X.env)::starEach [b] X.env) (he2:starEach [b] X.env=(false,eval b X.env)::starEach [] X.env) (hpl:(backTo cp (starEach [b] X.env)).any (·.1)=false) :
  Sts X σ (aB H) (.Assign [.Name "core" px] (.Call (.Name "Core" q) [a,b] [] cp) pos::rest) D:=by
 obtain ⟨f1,fd1,mk,ok,bi⟩:=M.ex
 refine aZ (bC (kI (i:=i) B.nd' hx.n hx.l (aFx (by rw[B.eK];exact mk) (by rw[B.eP,B.eW,B.eK,B.eM,B.eB];exact ok) (B.room.mono hk) hg (by rw[B.eM];exact M.mgC) (by rw[B.eK];exact bi) .nil jI (bO ha.pe (bO hb.pe dH he2) he) (by decide) he hpl) hs (.inl (B.fn _))) (Sts.pss rest)) fun H0 h0=>⟨rfl,h0,fun H1 s1=>⟨rfl,Stb.st s1 h0,fun H2 s2 x dx hx0 hd0 hdx=>?_⟩⟩
 have s12:aB H H2:=aB.trans (aB.trans h0 s1) s2
 have nx:H x=none:=s12.free hx0
 have nd:H dx=none:=s12.free hd0
 have keep:∀b o,H b=some o→upd (upd H2 dx (.own x)) x (.ins C dx []) b=some o:=fun b o e=>by
  rw[aE (bV e nx),aE (bV e nd)];exact s12 _ _ e
 have kq:∀{l:Addr} {xs:List V},SqL K H l xs→SqL K (upd (upd H2 dx (.own x)) x (.ins C dx [])) l xs:=fun q=>aB.seq (H:=H) keep q
 obtain ⟨m,hm⟩:=r.pe
 refine ⟨x,dx,ls,lp,st,pk,m,rfl,aY,kq r.s,kq r.p,r.sl,r.sw,hm,r.pl,fun H3 c3 f3=>⟨rfl,_,⟨c3,fun b o e n=>f3 b o (keep b o e) n⟩,hr x nx⟩⟩
end
end Arm
end

section
set_option maxRecDepth 100000
namespace Arm
open PySem PyProof.Rows
def fU (c m:Nat):Nat:=([(7,true)]++(if m=0x11 then [(6,true)] else [])).foldl (fun f (x:Nat×Bool)=>Ql28.setBit f x.1 x.2) (c/32*32+m)
theorem aAu {s:S} (h:WF s) {m k:Nat} (hk:Ql28.savedOf m=some k) {st:Int} (h0:0≤st) (hm:N st%32=m) (hst:N st=fU (N s.status) m) (vec:Nat) (hv:vec<4294967296) (b:Int) (hb:0≤b∧b<4294967296) :
  abs ((((M.cN s st).bP (k:Int) s.status).aT 14 b).aT 15 (vec:Int))=Ql28.exception (abs s) m vec (N b):=by
 have tu:=aCc h h0
 rw[hm] at tu
 generalize hX:M.cN s st=x at tu ⊢
 have p1:abs ((x.bP (k:Int) s.status).aT 14 b)=Ql28.put (abs (x.bP (k:Int) s.status)) 14 (N b):=rJ hb 14
 have p2:abs (((x.bP (k:Int) s.status).aT 14 b).aT 15 (vec:Int))=Ql28.put (abs ((x.bP (k:Int) s.status).aT 14 b)) 15 vec:=rJ (v:=(vec:Int)) ⟨by omega,by omega⟩ 15
 rw[p2,p1,aCm,tu,hst]
 unfold Ql28.exception
 dsimp only
 rw[aD0,hk]
 have c2:(en3 (en2 (en1 (abs s) (Ql28.mode (abs s))) (Ql28.mode (abs s)) m) m).cpsr=N s.status:=by
  have a1:∀t:Ql28.St,∀o,(en1 t o).cpsr=t.cpsr:=fun t o=>by unfold en1;cases Ql28.bankOf o<;>rfl
  have a2:∀t:Ql28.St,∀o m,(en2 t o m).cpsr=t.cpsr:=fun t o m=>by unfold en2;cases ((o==0x11)==(m==0x11))<;>rfl
  have a3:∀t:Ql28.St,∀o,(en3 t o).cpsr=t.cpsr:=fun t o=>by unfold en3;cases Ql28.bankOf o<;>rfl
  rw[a3,a2,a1];rfl
 rw[c2]
 generalize en3 (en2 (en1 (abs s) (Ql28.mode (abs s))) (Ql28.mode (abs s)) m) m=u
 rfl
theorem yP (t:Ql28.St) (m vec b:Nat):Ql28.exception t m vec (b%Ql28.L)=Ql28.exception t m vec b:=by
 unfold Ql28.exception Ql28.put
 dsimp only
 rw[Nat.mod_mod]
theorem lN (x k:Nat):Ql28.setBit x k true=x|||2^k:=by
 unfold Ql28.setBit
 apply Nat.eq_of_testBit_eq
 intro i
 rw[Nat.testBit_or,Nat.testBit_two_pow]
 by_cases h:x.testBit k=true
 ·rw[if_pos h]
  by_cases e:k=i
  ·subst e;rw[h];rfl
  ·rw[decide_eq_false e,Bool.or_false]
 ·rw[if_neg h,if_pos rfl]
  have h2:x.testBit k=false:=by simpa using h
  have e:x+2^k=x^^^2^k:=by
   have q:=yQ x (2^k)
   have z:x&&&2^k=0:=by
    apply Nat.eq_of_testBit_eq
    intro j
    rw[Nat.testBit_and,Nat.testBit_two_pow,Nat.zero_testBit]
    by_cases g:k=j
    ·subst g;rw[h2];rfl
    ·rw[decide_eq_false g,Bool.and_false]
   omega
  rw[e,Nat.testBit_xor,Nat.testBit_two_pow]
  by_cases e:k=i
  ·subst e;rw[h2];simp
  ·rw[decide_eq_false e];simp
theorem aFt (c:Nat):fU c 17=(c/32*32+17)|||192:=by
 unfold fU
 rw[if_pos rfl]
 show Ql28.setBit (Ql28.setBit (c/32*32+17) 7 true) 6 true=_
 rw[lN,lN,Nat.or_assoc]
 rfl
theorem aAo (c:Nat):fU c 18=(c/32*32+18)|||128:=by
 unfold fU
 rw[if_neg (by decide)]
 show Ql28.setBit (c/32*32+18) 7 true=_
 rw[lN]
end Arm
end

section
set_option maxRecDepth 100000
namespace Arm
open PySem PyProof.Rows
def eL (o m bits:Int):Int:=Builtin.bitOr (Builtin.bitOr (Builtin.bitAnd o (Builtin.bitNot 31)) m) bits
theorem aBh {o m bits:Nat} (hm:m<32):eL (o:Int) (m:Int) (bits:Int)=(((o/32*32+m)|||bits:Nat):Int):=by
 unfold eL
 rw[wQ,eT,eT]
 have:(o/32*32|||m)=o/32*32+m:=by
  rw[Nat.mul_comm,←Nat.two_pow_add_eq_or_of_lt (i:=5) hm]
 rw[this]
def exS (s:S) (m k bits vec:Int):S:=(((M.cN s (eL s.status m bits)).bP k s.status).aT 14 (Builtin.bitAnd (s.reg 15+4) 4294967295)).aT 15 vec
def cV (s:S) (fast:Bool):Option S:=cond fast (cond (decide (M.bit s.status 6=1)) none (some (exS s 17 0 192 28))) (cond (decide (M.bit s.status 7=1)) none (some (exS s 18 1 128 24)))
theorem aBa {s:S} (h:WF s):Builtin.bitAnd (s.reg 15+4) 4294967295=(((Ql28.reg (abs s) 15+4)%Ql28.L:Nat):Int):=by
 have c:((Ql28.reg (abs s) 15:Nat):Int)=s.reg 15:=qN h 15
 rw[←c,show ((Ql28.reg (abs s) 15:Nat):Int)+4=((Ql28.reg (abs s) 15+4:Nat):Int) from by omega,show (4294967295:Int)=((4294967295:Nat):Int) from rfl,dY]
 congr 1
 exact Nat.and_two_pow_sub_one_eq_mod _ 32
theorem uV {s:S} (h:WF s) {m k bits vec:Nat} (hm:m<32) (hk:Ql28.savedOf m=some k) (hb:bits%32=0) (he:∀c,fU c m=(c/32*32+m)|||bits) (hv:vec<4294967296) :
  abs (exS s (m:Int) (k:Int) (bits:Int) (vec:Int))=Ql28.exception (abs s) m vec (Ql28.reg (abs s) 15+4):=by
 have est:s.status=((N s.status:Nat):Int):=(gT h.wst.1).symm
 have e0:eL s.status (m:Int) (bits:Int)=(((N s.status/32*32+m)|||bits:Nat):Int):=by
  conv=>lhs;rw[est]
  exact aBh hm
 have e1:N (eL s.status (m:Int) (bits:Int))=(N s.status/32*32+m)|||bits:=by rw[e0];rfl
 unfold exS
 have hmod:N (eL s.status (m:Int) (bits:Int))%32=m:=by
  rw[e1,show (32:Nat)=2^5 from rfl,Nat.or_mod_two_pow,show (2:Nat)^5=32 from rfl,hb,Nat.or_zero]
  omega
 rw[aBa h,aAu h hk (by rw[e0];omega) hmod (by rw[e1,he]) vec hv _ ⟨by omega,by have:=Nat.mod_lt (Ql28.reg (abs s) 15+4) (show Ql28.L>0 by decide);have e:Ql28.L=4294967296:=rfl;omega⟩]
 exact yP _ _ _ _
theorem tY {s:S} (h:WF s) (k:Nat):decide (M.bit s.status (k:Int)=1)=Ql28.flag (abs s) k:=by
 have:=M.uW (N s.status) k
 rw[gT h.wst.1] at this
 exact this
theorem uP {s:S} (h:WF s) {m k bits vec:Int} (hm:fB m) (hk:fE m=bits) (hs:dAt cW m=k):M.fQ s m vec (Builtin.bitAnd (s.reg 15+4) 4294967295)=exS s m k bits vec:=by
 unfold M.fQ exS
 dsimp only
 rw[show Builtin.bitOr (Builtin.bitOr (Builtin.bitAnd s.status (Builtin.bitNot 31)) m) (cond (decide (m=17)) (Builtin.bitOr 128 64) 128)=eC s.status m from rfl,show eL s.status m bits=eC s.status m from by rw[←hk];rfl]
 unfold M.iP
 rw[vC,qT h.wst hm,hs]
theorem yF (n k:Nat):(!decide (Builtin.bitAnd (n:Int) ((2^k:Nat):Int)=0))=decide (M.bit (n:Int) (k:Int)=1):=by
 rw[dY,M.uW]
 show _=n.testBit k
 cases e:n.testBit k with
 | true=>
  have z:n&&&2^k≠0:=fun z=>by
   have q:(n&&&2^k).testBit k=true:=by rw[Nat.testBit_and,Nat.testBit_two_pow,e];simp
   rw[z,Nat.zero_testBit] at q;cases q
  generalize n&&&2^k=x at z ⊢
  rw[decide_eq_false (show ¬((x:Nat):Int)=0 by omega)];rfl
 | false=>
  have z:n&&&2^k=0:=by
   apply Nat.eq_of_testBit_eq
   intro j
   rw[Nat.testBit_and,Nat.testBit_two_pow,Nat.zero_testBit]
   by_cases g:k=j
   ·subst g;rw[e];rfl
   ·rw[decide_eq_false g,Bool.and_false]
  rw[z];rfl
theorem keeps {s:S} (h:WF s) (k:Nat):(!decide (Builtin.bitAnd s.status ((2^k:Nat):Int)=0))=decide (M.bit s.status (k:Int)=1):=by
 have:=yF (N s.status) k
 rw[gT h.wst.1] at this
 exact this
def iW (s:S) (b:Bool):S:=cond b (M.fQ s 17 28 (Builtin.bitAnd (s.reg 15+4) 4294967295)) (M.fQ s 18 24 (Builtin.bitAnd (s.reg 15+4) 4294967295))
theorem int_none {s:S} (h:WF s) {b:Bool} (e:(!decide (Builtin.bitAnd s.status (cond b 64 128)=0))=true):cV s b=none:=by
 cases b with
 | true=>
  have:=(keeps h 6).symm.trans e
  exact eJ this
 | false=>
  have:=(keeps h 7).symm.trans e
  exact eJ this
theorem wW {s:S} (h:WF s) {b:Bool} (e:(!decide (Builtin.bitAnd s.status (cond b 64 128)=0))=false):cV s b=some (iW s b):=by
 cases b with
 | true=>
  have:=(keeps h 6).symm.trans e
  refine (dG this).trans (congrArg some ?_)
  exact (uP h (.inl rfl) pJ rfl).symm
 | false=>
  have:=(keeps h 7).symm.trans e
  refine (dG this).trans (congrArg some ?_)
  exact (uP h (.inr (.inl rfl)) (uS (by decide)) rfl).symm
theorem aB1 {s:S} (h:WF s) (fast:Bool):Ql28.interrupt (abs s) fast=(cV s fast).map abs:=by
 unfold Ql28.interrupt cV
 cases fast with
 | true=>
  rw[show (6:Int)=((6:Nat):Int) from rfl,tY h 6]
  show (if Ql28.flag (abs s) 6=true then none else some (Ql28.exception (abs s) 17 28 _))=_
  cases Ql28.flag (abs s) 6 with
  | true=>rfl
  | false=>
   rw[if_neg (by decide),←uV h (m:=17) (k:=0) (bits:=192) (vec:=28) (by decide) rfl rfl aFt (by decide)]
   rfl
 | false=>
  rw[show (7:Int)=((7:Nat):Int) from rfl,tY h 7]
  show (if Ql28.flag (abs s) 7=true then none else some (Ql28.exception (abs s) 18 24 _))=_
  cases Ql28.flag (abs s) 7 with
  | true=>rfl
  | false=>
   rw[if_neg (by decide),←uV h (m:=18) (k:=1) (bits:=128) (vec:=24) (by decide) rfl rfl aAo (by decide)]
   rfl
end Arm
end

section
set_option maxRecDepth 100000
namespace Arm
open PySem PyProof.Rows
def M.arm_interrupt (fast:Int) (st pk lk:List Int):List Int:=cond (M.dI (bA st pk)) [-2] (match cV (bA st pk) (!decide (fast=0)) with | none=>[0] | some t=>M.answer 1 t lk)
theorem zJ {fast:Int} {st pk lk:List Int} (hwf:M.dI (bA st pk)=false→∀t,cV (bA st pk) (!decide (fast=0))=some t→WF t) (h:PyQl28.arm_interrupt_asked fast st pk lk=true):PyQl28.arm_interrupt fast st pk lk=M.arm_interrupt fast st pk lk:=by
 have h1:(Ql28Neutral.natural fast 32&&(Ql28Neutral.state st&&(Ql28Neutral.pokes 1048576 pk&&Ql28Neutral.looks 1048576 lk)))=true:=h
 rw[Bool.and_eq_true,Bool.and_eq_true,Bool.and_eq_true] at h1
 obtain ⟨_,hs,hp,hk⟩:=h1
 obtain ⟨hl,hw⟩:=pP hs
 have wf:WF (bA st pk):=(WF.cG hl hw).bT pk
 have ia:=aGo hl hw hp
 unfold M.arm_interrupt
 rw[rR hl hw]
 show (if Ql28.good (Ql28Neutral.stateOf (Ql28Neutral.nats st) (Ql28Neutral.memory pk))=false then [-2] else _)=_
 rw[←ia]
 have ef:(fast != 0)=!decide (fast=0):=rfl
 cases g:Ql28.good (abs (bA st pk)) with
 | false=>rw[if_pos rfl];rfl
 | true=>
  rw[if_neg (by decide),Bool.not_true,dG rfl]
  show (match Ql28.interrupt (abs (bA st pk)) (fast != 0) with | some t=>1::Ql28Neutral.told t lk | none=>[0])=_
  rw[ef,aB1 wf]
  cases e:cV (bA st pk) (!decide (fast=0)) with
  | none=>rfl
  | some t=>exact zK (hwf (by rw[rR hl hw,g];rfl) t e) hk
end Arm
end

section
set_option maxRecDepth 100000
namespace Arm
open PySem PySem.Spec PyProof.Rows L2
section
variable {P:Program} {w:World} {K:PySem.W.Frag} {mg:Str→Option Value} {base:Heap} {C:Addr}
def vP (C:Addr):Sp:=fun vs H Q _=>∃(p:Addr) (s:S) (b:Bool),vs=[.ref p,.bl b]∧aG C H p s∧(∀H',cV s b=none→aG C H' p s→Fr p H H'→Q (.bl false) H')∧(∀s' H',cV s b=some s'→aG C H' p s'→Fr p H H'→Q (.bl true) H')
abbrev rG (P:Program) (w:World) (K:PySem.W.Frag) (mg:Str→Option Value) (base:Heap) (C:Addr):Prop:=Fc P w K mg base "interrupt" ["core","is_fast"] 4 (vP C)
theorem aDs:Nm "keeps_out":=⟨by decide +kernel,by decide +kernel⟩
theorem aGe:Nm "is_fast":=⟨by decide +kernel,by decide +kernel⟩
theorem zY:aP ["core","is_fast","keeps_out","back"] ["core","is_fast"] (aI mZ):=⟨rfl,rfl,rfl,by decide +kernel,rfl,by decide +kernel,by decide +kernel⟩
theorem aC9 {f:Addr} {fd:FuncData} (F:Fun K "interrupt" "interrupt" mZ f fd) (T:Tx K mg C) (nI:uU P w K mg base C):aH P w K mg base CX0 4 f fd ["core","is_fast"] (vP C):=by
 refine bD F zY (fun vs H Q E h=>?_) (fun X B vs H Q E h=>?_)
 ·obtain ⟨_,_,_,rfl,_⟩:=h;rfl
 ·obtain ⟨p,s,b,rfl,hc,k0,k1⟩:=h
  have hw:=hc.wf
  have aD:Vr X 0 "core":=B.vr rfl rfl bK
  have qW:Vr X 1 "is_fast":=B.vr rfl rfl aGe
  have rV:Vr X 2 "keeps_out":=B.vr rfl rfl aDs
  have gR:Vr X 3 "back":=B.vr rfl rfl pQ
  have aCf:=B.gi T.lG rfl yY
  have lZ:=B.gi T.iK rfl qB
  have iT:=B.gi T.iC rfl qJ
  have fK:=B.gi T.gC rfl kJ
  have wK:=B.gi T.lK rfl yE
  have uD:=B.cl nI rfl aD3 (by decide)
  refine ⟨CP C p H s,⟨hc,Fr.refl p H⟩,?_⟩
  show Sts X [some (.ref p),some (.bl b),none,none] _ _ _
  refine pW (n:=2) (sN (oN (aA qW rfl) (fun _=>rfl)) (fun hq=>bF lZ) (fun hq=>bF iT)) ?_ B rV rfl
  refine uT (aD8 (bX (fF (B.ct T) (aA aD rfl) rfl) (aA rV rfl)) aN) (fun h1=>?_) (fun h1=>?_)
  ·exact eQ vD (fun H1 hP H2 s2=>k0 H2 (int_none hw h1) (hP.1.same s2) (hP.2.trans (Fr.same hP.1 s2)))
  ·have r2:=bW (s.reg 15+4) 4294967295
   refine pW (n:=3) (bX (gO (iB (B.ct T) (aA aD rfl) aN (by omega) rfl (fun _ _=>rfl)) aN) (bF aCf)) ?_ B gR rfl
   show Sts X [some (.ref p),some (.bl b),some (.int (cond b 64 128)),some (.int (Builtin.bitAnd (s.reg 15+4) 4294967295))] _ _ _
   refine iE [some (.ref p),some (.bl b),some (.int (cond b 64 128)),some (.int (Builtin.bitAnd (s.reg 15+4) 4294967295))] (CP C p H (iW s b)) (oN (aA qW rfl) (fun _=>rfl)) (fun h3=>?_) (fun h3=>?_) ?_
   ·refine cS uD (aF (aA aD rfl) (aF (bF fK) (aF aN (aF (aA gR rfl) aO)))) (sF ⟨.inl rfl,by decide,by decide,by omega,by omega⟩) ?_
    exact bE (fun _ hh=>⟨rfl,by unfold iW;rw[eJ h3];exact hh⟩)
   ·refine cS uD (aF (aA aD rfl) (aF (bF wK) (aF aN (aF (aA gR rfl) aO)))) (sF ⟨.inr (.inl rfl),by decide,by decide,by omega,by omega⟩) ?_
    exact bE (fun _ hh=>⟨rfl,by unfold iW;rw[dG h3];exact hh⟩)
   ·exact eQ vD (fun H1 hP H2 s2=>k1 _ H2 (wW hw h1) (hP.1.same s2) (hP.2.trans (Fr.same hP.1 s2)))
def iN (K:PySem.W.Frag):Sp:=fun vs H Q _=>∃(n:Int) (ls lp ll:Addr) (st pk lk:List Int),vs=[.int n,.ref ls,.ref lp,.ref ll]∧Rq K H ls lp ll st pk lk∧∀H' l,H' l=some (.lst ((M.arm_interrupt n st pk lk).map V.int))→(M.dI (bA st pk)=false→∀t,cV (bA st pk) (!decide (n=0))=some t→WF t)→Q (.ref l) H'
theorem xO:aP ["fast","state","pokes","looks","core"] ["fast","state","pokes","looks"] (aI hE):=⟨rfl,rfl,rfl,by decide +kernel,rfl,by decide +kernel,by decide +kernel⟩
theorem aB6 {f:Addr} {fd:FuncData} (F:Fun K "arm_interrupt" "arm_interrupt" hE f fd) (T:Tx K mg C) (M1:jR P w K mg base C) (mV:vE P w K mg base C) (lW:rG P w K mg base C) (mP:qE P w K mg base C):aH P w K mg base CX0 9 f fd ["fast","state","pokes","looks"] (iN K):=by
 refine bD F xO (fun vs H Q E h=>?_) (fun X B vs H Q E h=>?_)
 ·obtain ⟨_,_,_,_,_,_,_,rfl,_⟩:=h;rfl
 ·obtain ⟨n,ls,lp,ll,st,pk,lk,rfl,r,k⟩:=h
  have aCn:Vr X 0 "fast":=B.vr rfl rfl zP
  have eE:Vr X 1 "state":=B.vr rfl rfl tZ
  have gX:Vr X 2 "pokes":=B.vr rfl rfl sD
  have nW:Vr X 3 "looks":=B.vr rfl rfl uX
  have aD:Vr X 4 "core":=B.vr rfl rfl bK
  have k_S:=B.gi T.nF rfl aHa
  have k_K:=B.gi T.kO rfl yG
  have k_L:=B.gi T.lX rfl aCh
  have aDw:=B.cl mV rfl aGd (by decide)
  refine ⟨aB H,aB.refl H,?_⟩
  show Sts X [some (.int n),some (.ref ls),some (.ref lp),some (.ref ll),none] _ _ _
  refine aAc B M1 (by decide) (i:=4) r (B.g rfl) aD (aA eE rfl) (aA gX rfl) (fun x nx=>?_) rfl rfl rfl rfl
  show Sts X [some (.int n),some (.ref ls),some (.ref lp),some (.ref ll),some (.ref x)] _ _ _
  refine uT (oN (cY aDw (aF (aA aD rfl) aO) (aDd trivial)) (fun _=>rfl)) (fun h1=>?_) (fun h1=>?_)
  ·refine iQ (iF (aF (bF k_S) aO) (by show 1≤16777216;decide)).s (fun H1 hP H2 l s2 q=>k H2 l ?_ (fun z=>by rw[h1] at z;cases z))
   rw[q,show M.arm_interrupt n st pk lk=[-2] from eJ h1]
   rfl
  ·refine aZ (bC (oO (aFh (vJ (mO (B.fc lW) (B.room.mono (by decide)) (B.g rfl) aGp.d (bO (aA (P:=CPF C x H (bA st pk)) aD rfl).pe (bO (tE (P:=CPF C x H (bA st pk)) (aA aCn rfl) aN).pe dH))) (fun _=>rfl))) (Sts.pss _) jL) (Sts.pss _)) fun H1 h1'=>⟨rfl,h1',fun H2 s2=>⟨rfl,Stb.st s2 h1',fun H2' s2'=>?_⟩⟩
   have h2:=Stb.st (s2.trans s2') h1'
   refine ⟨x,bA st pk,_,rfl,h2.1,fun H3 e3 c3 f3=>⟨false,rfl,gD ⟨CPF C x H (bA st pk),h2.fr c3 f3,?_⟩⟩,fun t H3 e3 c3 f3=>⟨true,rfl,fW ⟨CPF C x H t,h2.fr c3 f3,?_⟩⟩⟩
   ·refine iQ (iF (aF (bF k_K) aO) (by show 1≤16777216;decide)).s (fun H4 hP H5 l s5 q=>k H5 l ?_ (fun _ t et=>by rw[e3] at et;cases et))
    rw[q,show M.arm_interrupt n st pk lk=_ from dG h1,e3]
    rfl
   ·have wt:=c3.wf
    refine aZ (bC (lH (mO (B.fc mP) (B.room.mono (by decide)) (B.g rfl) yV.d (bO (bF (P:=CPF C x H t) k_L).pe (bO (aA (P:=CPF C x H t) aD rfl).pe (bO (aA (P:=CPF C x H t) nW rfl).pe dH))))) lP) fun H4 h4=>⟨rfl,h4,fun H5 s5=>⟨rfl,Stb.st s5 h4,fun H5' s5'=>⟨rfl,Stb.st (s5.trans s5') h4,fun H6 s6=>?_⟩⟩⟩
    have h6:=Stb.st ((s5.trans s5').trans s6) h4
    refine ⟨x,ll,t,1,lk,rfl,h6.1,h6.seq (.inl nx) r.l,r.ll,fun H7 l s7 q=>k H7 l ?_ (fun _ t' et=>by rw[e3] at et;cases et;exact wt)⟩
    rw[q,show M.arm_interrupt n st pk lk=_ from dG h1,e3]
end
end Arm
end

section
set_option maxRecDepth 100000
namespace Arm
open PySem PySem.Spec PyProof.Rows L2
open PySem.W (Codec)
theorem aF9 {K:PySem.W.Frag} {H:Hp} {xs:List V} (a:Codec.denoteAll PySem.Challenge.rw_condwords_s03_arm_interrupt.args) (hwi:Codec.withinAll PySem.Challenge.rw_condwords_s03_arm_interrupt.args a=true) (hask:Codec.app PySem.Challenge.rw_condwords_s03_arm_interrupt.args PySem.Challenge.rw_condwords_s03_arm_interrupt.asked a=true)
  (hx:bZ K H xs (Codec.encAll PySem.Challenge.rw_condwords_s03_arm_interrupt.args a)):iN K xs H (fun v H'=>Dw K H' v (PySem.Challenge.rw_condwords_s03_arm_interrupt.ret.enc (Codec.app PySem.Challenge.rw_condwords_s03_arm_interrupt.args PySem.Challenge.rw_condwords_s03_arm_interrupt.f a))) fun _ _ _=>False:=by
 have q:(Codec.inInt 0 4294967295 a.1&&((Codec.inLen 39 39 a.2.1&&a.2.1.all (Codec.inInt 0 4294967295))&&((Codec.inLen 0 49000 a.2.2.1&&a.2.2.1.all (Codec.inInt 0 1048575))&&((Codec.inLen 0 49000 a.2.2.2.1&&a.2.2.2.1.all (Codec.inInt 0 1048575))&&true))))=true:=hwi
 rw[Bool.and_eq_true,Bool.and_eq_true,Bool.and_eq_true,Bool.and_eq_true,Bool.and_eq_true,Bool.and_eq_true,Bool.and_eq_true] at q
 have ask:PyQl28.arm_interrupt_asked a.1 a.2.1 a.2.2.1 a.2.2.2.1=true:=hask
 have h0:(Ql28Neutral.natural a.1 32&&(Ql28Neutral.state a.2.1&&(Ql28Neutral.pokes 1048576 a.2.2.1&&Ql28Neutral.looks 1048576 a.2.2.2.1)))=true:=ask
 rw[Bool.and_eq_true,Bool.and_eq_true,Bool.and_eq_true] at h0
 obtain ⟨sl,sw⟩:=pP h0.2.1
 cases hx with
 | cons h0' h7=>
  cases h0'
  cases h7 with
  | cons h1 h2=>
   cases h2 with
   | cons h3 h4=>
    cases h4 with
    | cons h5 h6=>
     cases h6
     cases h1 with
     | lst s1 d1=>
      cases h3 with
      | lst s2 d2=>
       cases h5 with
       | lst s3 d3=>
        have e1:=L2.iR a.2.1 _ d1
        have e2:=L2.iR a.2.2.1 _ d2
        have e3:=L2.iR a.2.2.2.1 _ d3
        subst e1 e2 e3
        refine ⟨a.1,_,_,_,a.2.1,a.2.2.1,a.2.2.2.1,rfl,⟨s1,s2,s3,sl,sw,vF _ h0.2.2.1,(Codec.inNat_iff.mp q.2.2.1.1).2,(Codec.inNat_iff.mp q.2.2.2.1.1).2⟩,fun H' l hl wf=>?_⟩
        rw[←zJ wf ask] at hl
        exact .lst (L2.SqL.of hl) (L2.uE _)
end Arm
end

section
set_option maxRecDepth 100000
namespace Arm
open PySem PySem.Spec PyProof.Rows L2
theorem aAf {P:Program} {w:World} {K:PySem.W.Frag} {mg:Str→Option Value} {fa:Addr} (hfa:mg "arm_interrupt" = some (.ref fa)) (A:qP K mg) (Gx:GlX K mg) (KC:oI K mg) (XM:FxM K mg "arm_interrupt" hE ["fast","state","pokes","looks"]) :
  ∃fd:FuncData,(∀(s:Shared) (us:List Value),us.length=(["fast","state","pokes","looks"]:List Str).length→BindsTo s fd ⟨us,[]⟩ ((["fast","state","pokes","looks"]:List Str).zip us))∧∀base:Heap,K.In base→base.Ns mainGlobals mg→aH P w K mg base CX0 9 fa fd ["fast","state","pokes","looks"] (iN K):=by
 obtain ⟨C,f1,f2,fd1,fd2,kc⟩:=KC
 have T:Tx K mg C:=⟨kc.ct,Gx.iU,Gx.tP,Gx.mY,Gx.lG,Gx.hZ,Gx.iG,Gx.gC,Gx.lK,Gx.jK,Gx.iC,Gx.iK,Gx.nF,Gx.kO,Gx.lX,Gx.eO,Gx.hC⟩
 obtain ⟨f,fd,F,m,b⟩:=XM
 have e:=hfa.symm.trans m
 cases e
 refine ⟨fd,fun s us hu=>.of_eq (b us hu),fun base _ _=>?_⟩
 have fL:nN P w K mg base C:=A.aFn.fc fun f fd F=>aDk F T
 have kP:vH P w K mg base C:=A.aGy.fc fun f fd F=>aG5 F T
 have kU:pC P w K mg base C:=A.aCv.fc fun f fd F=>yH F T fL kP
 have oF:rH P w K mg base C:=A.aGm.fc fun f fd F=>aBp F T kU
 have aBs:aH P w K mg base CX0 1 f2 fd2 ["self"] (oU C):=aEb kc.F2 T
 have dD:iO P w K mg base C:=A.yA.fc fun f fd F=>aF0 F T
 have kE:qY P w K mg base C:=A.aEo.fc fun f fd F=>aFy F T dD
 have mV:vE P w K mg base C:=A.zC.fc fun f fd F=>wB F T kE
 have mI:uF P w K mg base C:=A.aEz.fc fun f fd F=>aG4 F T dD
 have lE:rE P w K mg base C:=A.zB.fc fun f fd F=>aAi F T
 have nA:oZ P w K mg base C:=A.aEi.fc fun f fd F=>aEw F T
 have nY:pO P w K mg base C:=A.zW.fc fun f fd F=>aEy F T
 have mN:tH P w K mg base C:=A.aCw.fc fun f fd F=>aEe F T dD lE nA nY
 have nI:uU P w K mg base C:=A.zZ.fc fun f fd F=>aE5 F T mI mN
 have lW:rG P w K mg base C:=A.aGs.fc fun f fd F=>aC9 F T nI
 have oM:rL P w K mg base C:=A.aFr.fc fun f fd F=>zF F T fL
 have mP:qE P w K mg base C:=A.aCi.fc fun f fd F=>wG F T oM kc.m2 aBs kc.b2
 have M1:jR P w K mg base C:=⟨⟨f1,fd1,kc.mkC,aG2 kc.F1 T oF,kc.b1⟩,kc.mgC⟩
 exact aB6 F T M1 mV lW mP
end Arm
end

section
open PySem PySem.W PyProof.Rows
set_option maxRecDepth 100000 in
set_option maxHeartbeats 0 in
theorem PySem.Challenge.cw_condwords_s03_arm_interrupt_holds : PySem.Challenge.rw_condwords_s03_arm_interrupt.Holds := by
 refine hd ?_
 k_fillS
 refine L2.aGb (r:=PySem.Challenge.rw_condwords_s03_arm_interrupt) (k:=9) (CX:=L2.CX0) (ps:=["fast","state","pokes","looks"]) (sp:=Arm.iN) (by decide +kernel) rfl rfl ⟨rfl,by decide,by decide⟩ (fun w h Y=>PySem.W.kIn_of Y) ?F ?S (fun _ _ _ _ z=>z)
 case F=>
  intro w mg fa h Y KX G hmg
  have A:Arm.qP (L2.KOf KX) mg:=by
   dsimp only[L2.KOf];constructor<;>as_aux_lemma=>(refine' Arm.aDy KX G ?a ?l ?c ?k ?b;(case a=>k_is);(case l=>k_is);(case c=>k_is);(case k=>k_is);(case b=>first | exact (fun _ _ _ _ _ _ us hl=>match us,hl with | [_],_=>rfl) | exact (fun _ _ _ _ _ _ us hl=>match us,hl with | [_,_],_=>rfl) | exact (fun _ _ _ _ _ _ us hl=>match us,hl with | [_,_,_],_=>rfl) | exact (fun _ _ _ _ _ _ us hl=>match us,hl with | [_,_,_,_],_=>rfl) | exact (fun _ _ _ _ _ _ us hl=>match us,hl with | [_,_,_,_,_],_=>rfl)))
  have Gl:Arm.GlX (L2.KOf KX) mg:=by
   dsimp only[L2.KOf];constructor
   ·as_aux_lemma=>(refine' PySem.W.mg_none_of KX G ?a;(case a=>k_is))
   ·as_aux_lemma=>(refine' PySem.W.mg_none_of KX G ?a;(case a=>k_is))
   ·as_aux_lemma=>(refine' PySem.W.mg_none_of KX G ?a;(case a=>k_is))
   all_goals first
    | as_aux_lemma=>(refine' Arm.aDh KX G ?a;(case a=>k_is))
    | as_aux_lemma=>(refine' Arm.aEr KX G ?a ?l ?hs ?nd ?ok;(case a=>k_is);(case l=>k_is);(case hs=>rfl);(case nd=>decide);(case ok=>rfl))
    | as_aux_lemma=>(refine' Arm.tup_mk KX G ?a ?l ?s ?v;(case a=>k_is);(case l=>k_is);(case s=>decide);(case v=>rfl))
  have KC:Arm.oI (L2.KOf KX) mg:=by
   dsimp only[L2.KOf];as_aux_lemma=>
   refine' Arm.yM KX G ?aC ?a1 ?i1 ?l1 ?c1 ?k1 ?a2 ?i2 ?l2 ?c2 ?k2 ?pg ?hd ?po ?sa ?mk ?kc ?n1 ?n2 ?n3 ?n4 ?n5 ?n6
   (case aC=>k_is);(case a1=>k_is);(case i1=>k_is);(case l1=>k_is);(case c1=>k_is);(case k1=>k_is);(case a2=>k_is);(case i2=>k_is);(case l2=>k_is);(case c2=>k_is);(case k2=>k_is);(case pg=>k_is);(case hd=>k_is);(case po=>k_is);(case sa=>k_is);(case mk=>k_is);(case kc=>k_is);(case n1=>k_is);(case n2=>k_is);(case n3=>k_is);(case n4=>k_is);(case n5=>k_is);(case n6=>k_is)
  have XM:Arm.FxM (L2.KOf KX) mg "arm_interrupt" Arm.hE ["fast","state","pokes","looks"]:=by
   dsimp only[L2.KOf];as_aux_lemma=>(refine' Arm.aB2 KX G ?a ?l ?c ?k ?b;(case a=>k_is);(case l=>k_is);(case c=>k_is);(case k=>k_is);(case b=>first | exact (fun _ _ _ _ _ _ us hl=>match us,hl with | [_],_=>rfl) | exact (fun _ _ _ _ _ _ us hl=>match us,hl with | [_,_],_=>rfl) | exact (fun _ _ _ _ _ _ us hl=>match us,hl with | [_,_,_],_=>rfl) | exact (fun _ _ _ _ _ _ us hl=>match us,hl with | [_,_,_,_],_=>rfl) | exact (fun _ _ _ _ _ _ us hl=>match us,hl with | [_,_,_,_,_],_=>rfl)))
  exact Arm.aAf hmg A Gl KC XM
 case S=>
  intro K H xs a hO hwi hask hx
  exact Arm.aF9 a hwi hask hx
end
