import PyProof.Rows.All
import Wide.All
import OpenK.AllK
import Wide.FinOn
import PyProof.EqAt
import PyProof.EqKinds
import PyProof.TupleCall
import KE.BitLaws
import PySem.Challenge.RW_mendedimage_s01_answers
import Rc31Spec
import PyProof.Rows.SortShellAny
import PyProof.ListRange
import PyProof.Rows.TupAdd
import PyProof.LongRange
import PyRc31
import KE.OsGo
import Open.SpecLaws
import PyProof.ZipIter
import PyProof.AttrMissHeap
import KE.RegKTryMore
set_option Elab.async false
set_option linter.all false
set_option maxRecDepth 100000
set_option maxHeartbeats 4000000
namespace L2
open PySem PySem.Spec PyProof.Rows
abbrev Key:=Sum Int Str
def CF:Key→Value→Bool
 | .inl k,v=>Value.isInt k v
 | .inr x,v=>Value.isStrOf x v
def agt (w:World):Key→Int
 | .inl k=>hashInt k
 | .inr x=>hashStr w x
theorem fh:∀{k:Key} {v:Value},CF k v=true→(∃i t,k=Sum.inl i∧v=Value.int i t)∨(∃x t,k=Sum.inr x∧v=Value.str x t)
 | .inl i,v,h=>by
  obtain⟨t,e⟩:=Value.isInt_shape (k:=i) (v:=v) h
  exact .inl ⟨i,t,rfl,e⟩
 | .inr x,v,h=>by
  obtain⟨t,e⟩:=Value.isStrOf_shape (x:=x) (v:=v) h
  exact .inr ⟨x,t,rfl,e⟩
theorem RC (i:Int) (t:Tok):CF (.inl i) (.int i t)=true:=by simp[CF,Value.isInt]
theorem RD (x:Str) (t:Tok):CF (.inr x) (.str x t)=true:=by simp[CF,Value.isStrOf]
theorem Z7 (a b:Int):decide ((Sum.inl a:Key)=Sum.inl b)=(a==b):=by
 by_cases e:a=b
 ·subst e;simp
 ·have h:¬(Sum.inl a:Key)=Sum.inl b:=fun q=>e (Sum.inl.inj q)
  rw[decide_eq_false h]
  exact(beq_eq_false_iff_ne.mpr e).symm
theorem Z8 (a b:Str):decide ((Sum.inr a:Key)=Sum.inr b)=decide (a=b):=by
 by_cases e:a=b
 ·subst e;simp
 ·have h:¬(Sum.inr a:Key)=Sum.inr b:=fun q=>e (Sum.inr.inj q)
  rw[decide_eq_false h,decide_eq_false e]
theorem Z9 (a:Int) (b:Str):decide ((Sum.inl a:Key)=Sum.inr b)=false:=decide_eq_false (fun q=>nomatch q)
theorem aaa (a:Str) (b:Int):decide ((Sum.inr a:Key)=Sum.inl b)=false:=decide_eq_false (fun q=>nomatch q)
def cj (prog:Program) (w:World):PySem.KeyKind prog w Key where
 is:=CF
 hash:=agt w
 inj:=fun v a b ha hb=>by
  rcases fh ha with⟨i,t,rfl,rfl⟩|⟨x,t,rfl,rfl⟩
  ·rcases fh hb with⟨j,u,rfl,e⟩|⟨y,u,rfl,e⟩
   ·injection e with e1 _;rw[e1]
   ·exact nomatch e
  ·rcases fh hb with⟨j,u,rfl,e⟩|⟨y,u,rfl,e⟩
   ·exact nomatch e
   ·injection e with e1 _;rw[e1]
 byValue:=fun k v h=>by
  rcases fh h with⟨i,t,rfl,rfl⟩|⟨x,t,rfl,rfl⟩<;>rfl
 pyHash:=fun hv h=>by
  rcases fh hv with⟨i,t,rfl,rfl⟩|⟨x,t,rfl,rfl⟩
  ·exact wpAny_pyHash_int h
  ·exact wpAny_pyHash_str h
 eqBool:=fun hu hv h=>by
  rcases fh hu with⟨i,t,rfl,rfl⟩|⟨x,t,rfl,rfl⟩
  ·rcases fh hv with⟨j,u,rfl,rfl⟩|⟨y,u,rfl,rfl⟩
   ·rw[Z7]at h;exact wpAny_eqBool_int h
   ·rw[Z9]at h;exact SeqAt.EqAt.int_str i t y u _ _ _ _ h
  ·rcases fh hv with⟨j,u,rfl,rfl⟩|⟨y,u,rfl,rfl⟩
   ·rw[aaa]at h;exact SeqAt.EqAt.str_int x t j u _ _ _ _ h
   ·rw[Z8]at h;exact wpAny_eqBool_str h
 «strs»:=fun k x t v h=>by
  rcases fh h with⟨i,u,rfl,e⟩|⟨y,u,rfl,e⟩
  ·exact nomatch e
  ·injection e with e1 _
   subst e1
   cases v<;>rfl
theorem CG (prog:Program) (w:World) (i:Int) (t:Tok):(cj prog w).is (.inl i) (.int i t)=true:=RC i t
theorem L0 (prog:Program) (w:World) (x:Str) (t:Tok):(cj prog w).is (.inr x) (.str x t)=true:=RD x t
end L2
namespace L2
open PySem PySem.Spec PyProof.Rows
inductive V where
 |de|bl (b:Bool)|int (i:Int)|str (x:Str)|N5 (b:Array UInt8)|flt (b:UInt64)|ref (a:Addr)|ty (n:String)
 deriving DecidableEq
def RelV:V→Value→Prop
 | .de,u=>u=Value.none
 | .bl b,u=>u=Value.bool b
 | .int i,u=>∃t,u=Value.int i t
 | .str x,u=>∃t,u=Value.str x t
 | .N5 b,u=>∃t,u=Value.bytes b t
 | .flt b,u=>∃t,u=Value.float b t
 | .ref a,u=>u=Value.ref a
 | .ty n,u=>u=Value.type n
abbrev Vals:List V→List Value→Prop:=Paired RelV
theorem Vals.length {xs:List V} {us:List Value} (r:Vals xs us):xs.length=us.length:=Paired.length r
theorem Vals.get:∀{xs:List V} {us:List Value} {i:Nat} {x:V},Vals xs us→xs[i]?=some x→∃u,us[i]?=some u∧RelV x u
 |_,_,_,_,.nil,e=>by simp at e
 |_,_,0,_,.cons r _,e=>by simp at e;subst e;exact⟨_,rfl,r⟩
 |_,_,i+1,x,.cons _ t,e=>by
  obtain⟨u,h1,h2⟩:=Vals.get (i:=i) (x:=x) t (by simpa using e)
  exact⟨u,by simpa using h1,h2⟩
theorem Vals.set {x:V} {u:Value} (r:RelV x u):∀{xs:List V} {us:List Value} (i:Nat),Vals xs us→Vals (xs.set i x) (us.set i u)
 |_,_,_,.nil=>.nil
 |_,_,0,.cons _ t=>.cons r t
 |_,_,i+1,.cons q t=>.cons q (Vals.set r i t)
theorem Vals.append:∀{xs ys:List V} {us ws:List Value},Vals xs us→Vals ys ws→Vals (xs++ys) (us++ws)
 |_,_,_,_,.nil,s=>s
 |_,_,_,_,.cons r t,s=>.cons r (Vals.append t s)
theorem Vals.take:∀{xs:List V} {us:List Value} (n:Nat),Vals xs us→Vals (xs.take n) (us.take n)
 |_,_,0,_=>.nil
 |_,_,_+1,.nil=>.nil
 |_,_,n+1,.cons r t=>.cons r (Vals.take n t)
theorem Vals.drop:∀{xs:List V} {us:List Value} (n:Nat),Vals xs us→Vals (xs.drop n) (us.drop n)
 |_,_,0,r=>r
 |_,_,_+1,.nil=>.nil
 |_,_,n+1,.cons _ t=>Vals.drop n t
def t9:Option V→Option Value→Prop
 |some v,some u=>RelV v u
 |none,none=>True
 |_,_=>False
def KV {κ:Type}:List (κ×V)→List (κ×Value)→Prop:=Paired fun(p:κ×V) (q:κ×Value)=>p.1=q.1∧RelV p.2 q.2
def kV:Key→V
 | .inl i=>.int i
 | .inr x=>.str x
inductive HO where
 |lst (xs:List V)
 |tup (xs:List V)
 |dK (aZ:List (Key×V))|dT (aZ:List (List Key×V))
 |set (S:Int→Bool) (n:Nat)
 |ins (C dx:Addr) (fs:List (Str×V))
 |own (x:Addr)
 |xd (fs:List (Str×V))
 |met (f x:Addr)
 |rng (lo hi:Int)
 |TB (o:Obj) (u:HO)
 |Zc (ps:Array Value)
 |ext (φ:Heap→Prop)
abbrev Hp:=Addr→Option HO
def upd (H:Hp) (a:Addr) (o:HO):Hp:=fun b=>if b=a then some o else H b
theorem af {H:Hp} {a:Addr} {o:HO}:upd H a o a=some o:=by unfold upd;rw[if_pos rfl]
theorem aj {H:Hp} {a b:Addr} {o:HO} (h:b≠a):upd H a o b=H b:=by unfold upd;rw[if_neg h]
theorem bM {H:Hp} {a:Addr} {o u:HO}:upd (upd H a o) a u=upd H a u:=by
 funext b;unfold upd;split<;>rfl
theorem cQ {H:Hp} {a b:Addr} {o u:HO} (h:H a=some o) (h':H b=some u) (d:o≠u):a≠b:=by
 intro e;subst e;rw[h]at h';exact d (Option.some.inj h')
theorem ao {H:Hp} {a b:Addr} {o:HO} (h:H a=some o) (h':H b=none):a≠b:=by
 intro e;subst e;rw[h]at h';cases h'
section
variable (P:Program) (w:World)
def eX (H:Hp) (h:Heap) (a:Addr):HO→Prop
 | .lst xs=>xs.length≤sizeLine∧∃(bt:List Value) (n:Nat),Vals xs bt∧h.get? a=some {cls:=.type "list",data:=.seq bt.toArray n}
 | .tup xs=>xs.length≤sizeLine∧∃bt:List Value,Vals xs bt∧IsTup h a bt.toArray
 | .dK aZ=>aZ.length≤sizeLine∧(a==sysModules)=false∧∃vs,KV aZ vs∧h.DictOf (cj P w) a vs
 | .dT aZ=>aZ.length≤sizeLine∧(a==sysModules)=false∧∃xs:List (List Key×Addr×Value),
  Paired (fun(p:List Key×V) (q:List Key×Addr×Value)=>p.1=q.1∧H q.2.1=some (.tup (p.1.map kV))∧RelV p.2 q.2.2) aZ xs ∧
  ∃o es ep,h.get? a=some o∧o.ExactDict∧o.data = .dict es ep∧es.toList=xs.map (entryOfKey (tupleKind (cj P w)))∧(xs.map (·.1)).Nodup
 | .set S n=>h.SetOf (intKind P w) a S n
 | .ins C dx fs=>H dx=some (.own a)∧fs.length≤1000∧dx≠a∧h.get? a=some (PySem.W.instObj C dx) ∧
  ∃mA,h.Ns1 dx mA∧(∀f,t9 (fs.lookup f) (mA f))∧PySem.Within mA (fs.map (·.1))
 | .own _=>∃o,h.get? a=some o
 | .xd fs=>∃mA,h.Ns1 a mA∧∀f,t9 (fs.lookup f) (mA f)
 | .rng lo hi=>∃t u v,h.get? a=some {cls:=.type "range",data:=.fields #[.int lo t,.int hi u,.int 1 v]}
 | .TB o u=>h.get? a=some o∧eX H h a u
 | .Zc ps=>h.get? a=some {cls:=.none,data:=.fields ps}
 | .met f x=>h.get? a=some (PySem.W.methodObj (.ref f) (.ref x))
 | .ext φ=>φ h∧(∃o,h.get? a=some o)∧∀h1 h2:Heap,φ h1→(∀o,h1.get? a=some o→h2.get? a=some o)→φ h2
def t6 (H:Hp) (h:Heap):Prop:=∀a o,H a=some o→eX P w H h a o
end
section
variable {P:Program} {w:World} {H H':Hp} {h h':Heap} {a:Addr} {o:HO}
theorem eX.lt (x:eX P w H h a o):a<h.objs.size:=by
 cases o with
 |lst xs=>obtain⟨_,_,_,_,e⟩:=x;exact Heap.lt_size e
 |tup xs=>obtain⟨_,_,_,p⟩:=x;exact p.lt
 |dK aZ=>obtain⟨_,_,_,_,o,_,_,e,_⟩:=x;exact Heap.lt_size e
 |dT aZ=>obtain⟨_,_,_,_,o,_,_,e,_⟩:=x;exact Heap.lt_size e
 |set S n=>obtain⟨o,_,_,_,e,_⟩:=x;exact Heap.lt_size e
 |ins C dx fs=>obtain⟨_,_,_,e,_⟩:=x;exact Heap.lt_size e
 |own y=>obtain⟨_,e⟩:=x;exact Heap.lt_size e
 |xd fs=>obtain⟨_,⟨_,_,_,e,_⟩,_⟩:=x;exact Heap.lt_size e
 |rng lo hi=>obtain⟨_,_,_,e⟩:=x;exact Heap.lt_size e
 |TB ob u=>obtain⟨e,_⟩:=x;exact Heap.lt_size e
 |Zc ps=>exact Heap.lt_size (show h.get? a=some _ from x)
 |met f y=>exact Heap.lt_size (show h.get? a=some _ from x)
 |ext φ=>obtain⟨_,⟨_,e⟩,_⟩:=x;exact Heap.lt_size e
theorem Paired.ua {α β:Type} {F G:α→β→Prop}:∀{l₁:List α} {l₂:List β},Paired F l₁ l₂→(∀a b,F a b→G a b)→Paired G l₁ l₂
 |_,_,.nil,_=>.nil
 |_,_,.cons r t,f=>.cons (f _ _ r) (Paired.ua t f)
theorem eX.L1 (x:eX P w H h a o) (k:∀b u,(b=a∨H b=some (.own a))→h.get? b=some u→h'.get? b=some u)
 (ho:∀b,H b=some (.own a)→H' b=some (.own a)) (ht:∀b xs,H b=some (.tup xs)→H' b=some (.tup xs)):eX P w H' h' a o:=by
 induction o with
 |lst xs=>obtain⟨z,bt,n,r,e⟩:=x;exact⟨z,bt,n,r,k _ _ (.inl rfl) e⟩
 |tup xs=>obtain⟨z,bt,r,ob,e,c⟩:=x;exact⟨z,bt,r,ob,k _ _ (.inl rfl) e,c⟩
 |dK aZ=>obtain⟨z,y,vs,r,ob,es,ep,e,c⟩:=x;exact⟨z,y,vs,r,ob,es,ep,k _ _ (.inl rfl) e,c⟩
 |dT aZ =>
  obtain⟨z,y,xs,r,ob,es,ep,e,c⟩:=x
  exact⟨z,y,xs,Paired.ua r fun p q z=>⟨z.1,ht _ _ z.2.1,z.2.2⟩,ob,es,ep,k _ _ (.inl rfl) e,c⟩
 |set S n=>obtain⟨ob,es,ep,t,e,c⟩:=x;exact⟨ob,es,ep,t,k _ _ (.inl rfl) e,c⟩
 |ins C dx fs =>
  obtain⟨d,z,ne,e,mA,⟨od,es,ep,e2,c⟩,r⟩:=x
  exact⟨ho _ d,z,ne,k _ _ (.inl rfl) e,mA,⟨od,es,ep,k _ _ (.inr d) e2,c⟩,r⟩
 |own y=>obtain⟨ob,e⟩:=x;exact⟨ob,k _ _ (.inl rfl) e⟩
 |xd fs=>obtain⟨mA,⟨od,es,ep,e,c⟩,r⟩:=x;exact⟨mA,⟨od,es,ep,k _ _ (.inl rfl) e,c⟩,r⟩
 |rng lo hi=>obtain⟨t,u,v,e⟩:=x;exact⟨t,u,v,k _ _ (.inl rfl) e⟩
 |TB ob u ih=>obtain⟨e,q⟩:=x;exact⟨k _ _ (.inl rfl) e,ih q⟩
 |Zc ps =>
  have e:h.get? a=some {cls:=.none,data:=.fields ps}:=x
  show h'.get? a=some {cls:=.none,data:=.fields ps}
  exact k a _ (.inl rfl) e
 |met f y =>
  have e:h.get? a=some (PySem.W.methodObj (.ref f) (.ref y)):=x
  show h'.get? a=some (PySem.W.methodObj (.ref f) (.ref y))
  exact k a _ (.inl rfl) e
 |ext φ=>obtain⟨p,⟨o,e⟩,st⟩:=x;exact⟨st _ _ p fun o q=>k _ _ (.inl rfl) q,⟨o,k _ _ (.inl rfl) e⟩,st⟩
theorem t6.lt (x:t6 P w H h) (e:H a=some o):a<h.objs.size:=(x a o e).lt
theorem t6.fresh (x:t6 P w H h) (e:h.objs.size≤a):H a=none:=by
 cases q:H a with
 |none=>rfl
 |some u=>exact absurd (Nat.lt_of_lt_of_le (x.lt q) e) (Nat.lt_irrefl _)
theorem t6.kept (x:t6 P w H h) (k:∀b u,h.get? b=some u→h'.get? b=some u):t6 P w H h':=fun a o e =>
 (x a o e).L1 (fun b u _ q=>k b u q) (fun _ q=>q) fun _ _ q=>q
theorem t6.laid (x:t6 P w H h) (k:∀b u,h.get? b=some u→h'.get? b=some u) (hp:h.objs.size≤a) (new:eX P w (upd H a o) h' a o):t6 P w (upd H a o) h':=fun b u e=>by
 have hn:=x.fresh hp
 by_cases hb:b=a
 ·subst hb;rw[af]at e;cases e;exact new
 ·rw[aj hb]at e
  exact(x b u e).L1 (fun c v _ q=>k c v q) (fun c q=>by rw[aj (ao q hn)];exact q) fun c xs q=>by rw[aj (ao q hn)];exact q
end
def Rd (H:Hp) (a:Addr) (u:HO):Prop:=H a=some u∨∃o,H a=some (.TB o u)
theorem Rd.ok {P:Program} {w:World} {H:Hp} {h:Heap} {a:Addr} {u:HO} (r:Rd H a u) (x:t6 P w H h):eX P w H h a u:=by
 rcases r with r|⟨o,r⟩
 ·exact x a u r
 ·obtain⟨_,q⟩:=x a _ r
  exact q
def Mut:Option HO→Prop
 |some (.lst _)=>True
 |some (.dK _)=>True
 |some (.dT _)=>True
 |some (.set _ _)=>True
 |some (.ins _ _ _)=>True
 |some (.ext _)=>True
 |_=>False
section
variable {P:Program} {w:World} {H:Hp} {h h':Heap} {x e:Addr} {o':HO}
theorem t6.write (ok:t6 P w H h) (mu:Mut (H x)) (he:e=x∨H e=some (.own x)) (k:∀b u,b≠e→h.get? b=some u→h'.get? b=some u) (heo:∃u,h'.get? e=some u)
 (new:eX P w (upd H x o') h' x o'):t6 P w (upd H x o') h':=fun b u q=>by
 have ac5:∀c y,H c=some (.own y)→c≠x:=fun c y r z=>by subst z;rw[r]at mu;exact mu
 have agu:∀c xs,H c=some (.tup xs)→c≠x:=fun c xs r z=>by subst z;rw[r]at mu;exact mu
 by_cases hb:b=x
 ·subst hb;rw[af]at q;cases q;exact new
 ·rw[aj hb]at q
  by_cases hbe:b=e
  ·have q':H b=some (.own x):=by
    rcases he with z|z
    ·exact absurd (hbe.trans z) hb
    ·rw[hbe];exact z
   rw[q]at q';cases q'
   obtain⟨v,hv⟩:=heo
   exact⟨v,by rw[hbe];exact hv⟩
  ·refine(ok b u q).L1 (fun c v hc r=>k c v ?_ r) (fun c r=>by rw[aj (ac5 c b r)];exact r) fun c xs r=>by rw[aj (agu c xs r)];exact r
   rcases hc with rfl|hc
   ·exact hbe
   ·rintro rfl
    rcases he with z|z
    ·exact ac5 c b hc z
    ·rw[hc]at z;cases z;exact hb rfl
end
structure Un (fs ex:List Addr) (H H':Hp) (h h':Heap):Prop where
 keep:∀b o,h.get? b=some o→H b=none→b∉fs→b∉ex→h'.get? b=some o
 slot:∀b o,h.get? b=some o→H b=none→b∈fs→b∉ex→∃sl,h'.get? b=some {o with slots:=sl}
 free:∀b o,h.get? b=some o→H b=none→b∉ex→H' b=none
 there:∀b o,h.get? b=some o→b∉ex→∃o',h'.get? b=some o'
 Hh:∀b xs,H b=some (.tup xs)→H' b=some (.tup xs)
 EN:∀b o u,H b=some (.TB o u)→H' b=some (.TB o u)
 Hi:∀b ps,H b=some (.Zc ps)→∃more,H' b=some (.Zc (ps++more))
section
variable {fs fs' ex ex':List Addr} {H H1 H2:Hp} {h h1 h2 h':Heap} {a x e:Addr} {o:HO}
theorem Un.any (u:Un fs ex H H1 h h1) {b:Addr} {ob:Obj} (q:h.get? b=some ob) (n:H b=none) (hx:b∉ex):∃sl,h1.get? b=some {ob with slots:=sl}:=by
 by_cases hb:b∈fs
 ·exact u.slot b ob q n hb hx
 ·exact⟨ob.slots,u.keep b ob q n hb hx⟩
theorem Un.kept (k:∀b u,h.get? b=some u→h'.get? b=some u):Un fs ex H H h h' :=
 ⟨fun b ob q _ _ _=>k b ob q,fun b ob q _ _ _=>⟨ob.slots,k b ob q⟩,fun _ _ _ n _=>n,fun b ob q _=>⟨ob,k b ob q⟩,fun _ _ q=>q,fun _ _ _ q=>q,fun _ ps q=>⟨#[],by rw[q];simp⟩⟩
theorem Un.refl:Un fs ex H H h h:=Un.kept fun _ _ q=>q
theorem Un.laid (k:∀b u,h.get? b=some u→h'.get? b=some u) (hp:h.objs.size≤a) (hn:H a=none):Un fs ex H (upd H a o) h h' where
 keep:=fun b u q _ _ _=>k b u q
 slot:=fun b u q _ _ _=>⟨u.slots,k b u q⟩
 free:=fun b u q n _=>by rw[aj (Nat.ne_of_lt (Nat.lt_of_lt_of_le (Heap.lt_size q) hp))];exact n
 there:=fun b u q _=>⟨u,k b u q⟩
 Hh:=fun b xs q=>by rw[aj (ao q hn)];exact q
 EN:=fun b u xs q=>by rw[aj (ao q hn)];exact q
 Hi:=fun b ps q=>⟨#[],by rw[aj (ao q hn),q];simp⟩
theorem Un.write (mu:Mut (H x)) (he:e=x∨H e=some (.own x)) (k:∀b u,b≠e→h.get? b=some u→h'.get? b=some u) (heo:∃u,h'.get? e=some u):Un fs ex H (upd H x o) h h':=by
 have hx:∀b,H b=none→b≠x:=fun b n z=>by subst z;rw[n]at mu;exact mu
 have hb:∀b,H b=none→b≠e:=fun b n z=>by
  subst z
  rcases he with r|r
  ·exact hx b n r
  ·rw[n]at r;cases r
 have hm:∀b u,H b=some u→¬Mut (some u)→b≠x:=fun b u q nm z=>by subst z;rw[q]at mu;exact nm mu
 refine⟨fun b u q n _ _=>k b u (hb b n) q,fun b u q n _ _=>⟨u.slots,k b u (hb b n) q⟩,fun b u q n _=>by rw[aj (hx b n)];exact n,fun b u q _=>?_,
  fun b xs q=>by rw[aj (hm b _ q fun z=>z)];exact q,fun b u xs q=>by rw[aj (hm b _ q fun z=>z)];exact q,fun b ps q=>⟨#[],by rw[aj (hm b _ q fun z=>z),q];simp⟩⟩
 by_cases hbe:b=e
 ·subst hbe;exact heo
 ·exact⟨u,k b u hbe q⟩
end
def trk (h:Heap) (H:Hp):List Addr:=(List.range h.objs.size).filter fun a=>(H a).isSome
def JT (h:Heap) (H:Hp):Heap:=PySem.W.hideAll h (trk h H)
theorem RE (h:Heap) (H:Hp):(JT h H).objs.size=h.objs.size:=PySem.W.hideAll_size _ _
theorem TC {h:Heap} {H:Hp} {b:Addr} {o:Obj} (e:h.get? b=some o) (n:H b=none):(JT h H).get? b=some o :=
 PySem.W.hideAll_get _ e fun hm=>by
  have q:(H b).isSome=true:=(List.mem_filter.mp hm).2
  rw[n]at q;simp at q
theorem WK {h:Heap} {H:Hp} {b:Addr} {o:Obj} (e:(JT h H).get? b=some o):h.get? b=some o∧H b=none:=by
 have e':h.get? b=some o:=PySem.W.of_hideAll (trk h H) e
 refine⟨e',?_⟩
 cases q:H b with
 |none=>rfl
 |some x =>
  have hm:b∈trk h H:=List.mem_filter.mpr ⟨List.mem_range.mpr (Heap.lt_size e'),by simp[q]⟩
  have z:(JT h H).get? b=none:=PySem.W.hideAll_none (trk h H) hm
  rw[z]at e;cases e
end L2
namespace L2
open PySem PySem.Spec PyProof.Rows
structure Mod (K:PySem.W.Frag) (mg:Str→Option Value) (base:Heap):Prop where
 RF:K.In base
 glob:base.Ns mainGlobals mg
 blt:∃mb,base.Ns builtinsNs mb∧∀x:Str,x ≠ "__name__"→mb x=bootBuiltins x
 nolimit:base.NoLimit
structure Cx where
 prog:Program
 w:World
 K:PySem.W.Frag
 mg:Str→Option Value
 base:Heap
 A:Around
 N:List Str
 s₀:Shared
 H₀:Hp
 env:Env
 outer:List Env
 stack:List Env
 ex:List Addr
 fn:Str→Bool
 calm:Bool
 pn:List (Addr×Obj)
 xe:Value→Shared→Prop
def wq (l:List Env):List Addr:=l.filterMap (·.frame)
abbrev Cx.fs (X:Cx):List Addr:=wq X.outer
def Vis (sc:Scope) (x:Str):Prop:=sc.names.lookup x=some .local∨sc.names.lookup x=some .cell∨sc.names.lookup x=some .free
def Loc (sc:Scope) (x:Str):Prop:=sc.names.lookup x=some .local∨sc.names.lookup x=some .cell
def Look (env:Env) (h:Heap) (m:Str→Option Value) (x:Str) (u:Value):Prop :=
 (env.kindOf x=some .local∧m x=some u)∨((env.kindOf x=some .cell∨env.kindOf x=some .free)∧∃c,env.cells.lookup x=some c∧h.IsCell c (some u))
structure Cx.Ok (X:Cx):Prop where
 mod:Mod X.K X.mg X.base
 kind:X.env.scope.kind = .function
 glob:X.env.globals=mainGlobals
 blt:X.env.builtins=builtinsNs
 above:X.s₀.heap.objs.size≤X.env.locals
 inj:∀x y c,X.env.cells.lookup x=some c→X.env.cells.lookup y=some c→x=y
 has:∀x,(X.env.kindOf x=some .cell∨X.env.kindOf x=some .free)→∃c,X.env.cells.lookup x=some c
 cab:∀x c,X.fn x=true→X.env.cells.lookup x=some c→X.s₀.heap.objs.size≤c
 hd:X.calm=true→X.A.handled=none
 frames:X.A.frames=some X.stack
 stk:X.stack=X.outer∨(X.stack=X.env::X.outer∧X.env.frame=some X.env.locals)
 exf:∀b∈X.ex,b≠X.env.locals∧∀x c,X.env.cells.lookup x=some c→c≠b
 bs:∀b o,X.base.get? b=some o→X.s₀.heap.get? b=some o∧X.H₀ b=none
 Wt:X.base.objs.size≤X.s₀.heap.objs.size
 RG:∀b o,X.base.get? b=some o→b∉X.ex
 N6:∀b∈X.ex,b∉X.fs
 yn:X.s₀.heap.FunFrames X.base X.outer
 Zd:∀b∈X.fs,X.H₀ b=none
structure Inv (X:Cx) (pins:List (Addr×Obj)) (σ:List (Option V)) (H:Hp) (s:Shared):Prop where
 ok:X.Ok
 os:s.os=X.s₀.os
 bare:AllBare s.gens
 base:Un X.fs X.ex X.H₀ H X.s₀.heap s.heap
 loc:∃m,s.heap.Ns X.env.locals m∧∀(i:Nat) (x:Str) (v:V),X.N[i]?=some x→σ[i]?=some (some v)→Vis X.env.scope x→∃u,RelV v u∧Look X.env s.heap m x u
 cell:∀x c,X.env.cells.lookup x=some c→∃v,s.heap.IsCell c v
 free:H X.env.locals=none
 oP:∀x c,X.env.cells.lookup x=some c→H c=none
 pin:∀p∈X.pn++pins,s.heap.get? p.1=some p.2∧H p.1=none∧p.1≠X.env.locals∧p.1∉X.fs∧∀v,p.2.data≠.cell v
 cD:t6 X.prog X.w H s.heap
 len:σ.length=X.N.length
section
variable {X:Cx} {pins:List (Addr×Obj)} {σ:List (Option V)} {H H':Hp} {s:Shared} {h':Heap}
theorem Cx.Ok.N7 (ok:X.Ok) {b:Addr} {o:Obj} (e:X.base.get? b=some o):b∉X.fs:=fun hb=>by
 have:=(ok.yn.mem hb).1
 rw[e]at this;cases this
theorem Inv.bs (I:Inv X pins σ H s):∀b o,X.base.get? b=some o→s.heap.get? b=some o∧H b=none:=fun b o e =>
 ⟨I.base.keep b o (I.ok.bs b o e).1 (I.ok.bs b o e).2 (I.ok.N7 e) (I.ok.RG b o e),I.base.free b o (I.ok.bs b o e).1 (I.ok.bs b o e).2 (I.ok.RG b o e)⟩
theorem Inv.bk (I:Inv X pins σ H s):∀b o,X.base.get? b=some o→s.heap.get? b=some o:=fun b o e=>(I.bs b o e).1
theorem Inv.mod (I:Inv X pins σ H s):Mod X.K X.mg X.base:=I.ok.mod
theorem Inv.EO (I:Inv X pins σ H s):X.K.In s.heap:=I.ok.mod.RF.keeps I.bk
theorem Inv.lt (I:Inv X pins σ H s):X.env.locals<s.heap.objs.size:=let⟨_,hn,_⟩:=I.loc;hn.lt
theorem Inv.sz (I:Inv X pins σ H s):X.s₀.heap.objs.size≤s.heap.objs.size:=Nat.le_trans I.ok.above (Nat.le_of_lt I.lt)
theorem Inv.aad (I:Inv X pins σ H s) {a:Addr} (h:s.heap.objs.size≤a):a∉X.fs:=fun hb=>by
 obtain⟨_,o,ho,_⟩:=I.ok.yn.mem hb
 exact absurd (Nat.lt_of_lt_of_le (Heap.lt_size ho) (Nat.le_trans I.sz h)) (Nat.lt_irrefl _)
theorem Inv.cne (I:Inv X pins σ H s):∀x c,X.env.cells.lookup x=some c→c≠X.env.locals:=fun x c e z=>by
 obtain⟨v,o,ho,hd⟩:=I.cell x c e
 obtain⟨m,⟨o',es,ep,Qw,TF,_⟩,_⟩:=I.loc
 rw[z,Qw]at ho;cases ho;rw[TF]at hd;cases hd
theorem Inv.yn (I:Inv X pins σ H s):s.heap.FunFrames X.base X.outer:=by
 have all:∀(l:List Env),(∀b∈wq l,b∈X.fs)→X.s₀.heap.FunFrames X.base l→s.heap.FunFrames X.base l:=by
  intro l
  induction l with
  |nil=>intro _ _;trivial
  |cons env r ih =>
   intro hs hl
   obtain⟨hk,⟨L,o,hf,hn,ho,hd⟩,hr⟩:=hl
   have hL:L∈X.fs:=hs L (by unfold wq;rw[List.filterMap_cons,hf];exact List.mem_cons_self)
   obtain⟨sl,e⟩:=I.base.slot L o ho (I.ok.Zd L hL) hL fun z=>I.ok.N6 L z hL
   exact⟨hk,⟨L,_,hf,hn,e,hd⟩,ih (fun b hb=>hs b (by unfold wq;rw[List.filterMap_cons,hf];exact List.mem_cons_of_mem _ hb)) hr⟩
 exact all X.outer (fun _ hb=>hb) I.ok.yn
theorem Inv.stack (I:Inv X pins σ H s):s.heap.FunFrames X.base X.stack:=by
 rcases I.ok.stk with e|⟨e,hf⟩
 ·rw[e];exact I.yn
 ·rw[e]
  obtain⟨m,hn,_⟩:=I.loc
  refine .cons (by rw[I.ok.kind];decide) hf hn ?_ I.yn
  exact Heap.get?_none_of_le (Nat.le_trans I.ok.Wt I.ok.above)
theorem Inv.rm (I:Inv X pins σ H s):∀b∈wq X.stack,b∈X.env.locals::X.fs:=fun b hb=>by
 rcases I.ok.stk with e|⟨e,hf⟩
 ·rw[e]at hb;exact List.mem_cons_of_mem _ hb
 ·rw[e]at hb
  unfold wq at hb
  rw[List.filterMap_cons,hf]at hb
  exact hb
theorem Inv.JU (I:Inv X pins σ H s):∀b∈wq X.stack,H b=none:=fun b hb=>by
 rcases List.mem_cons.mp (I.rm b hb) with e|hb
 ·rw[e];exact I.free
 ·obtain⟨_,o,ho,_⟩:=I.ok.yn.mem hb
  exact I.base.free b o ho (I.ok.Zd b hb) fun z=>I.ok.N6 b z hb
theorem Inv.step {g':Array GenState} {t':Nat} {d':Drawn} {ch:List Addr} (I:Inv X pins σ H s)
 (Wu:∀b∈ch,(b∈X.ex∨X.s₀.heap.objs.size≤b)∧b≠X.env.locals∧(∀x c,X.env.cells.lookup x=some c→c≠b)∧∀p∈X.pn++pins,p.1≠b)
 (keep:∀b o,b≠X.env.locals→b∉X.fs→b∉ch→s.heap.get? b=some o→H b=none→h'.get? b=some o)
 (slot:∀b o,b≠X.env.locals→b∈X.fs→b∉ch→s.heap.get? b=some o→H b=none→∃sl,h'.get? b=some {o with slots:=sl}) (free:∀b o,b∉ch→s.heap.get? b=some o→H b=none→H' b=none)
 (there:∀b o,b∉ch→s.heap.get? b=some o→∃o',h'.get? b=some o')
 (Hh:∀b xs,H b=some (.tup xs)→H' b=some (.tup xs)) (EN:∀b o u,H b=some (.TB o u)→H' b=some (.TB o u)) (Hi:∀b ps,H b=some (.Zc ps)→∃more,H' b=some (.Zc (ps++more)))
 (ns:∀m,s.heap.Ns X.env.locals m→h'.Ns X.env.locals m) (cD:t6 X.prog X.w H' h') (hg:AllBare g') :
 Inv X pins σ H' {s with heap:=h',gens:=g',drawn:=d',toks:=t'}:=by
 have neL:∀b o,X.s₀.heap.get? b=some o→b≠X.env.locals:=fun b o e=>Nat.ne_of_lt (Nat.lt_of_lt_of_le (Heap.lt_size e) I.ok.above)
 have neC:∀b o,X.s₀.heap.get? b=some o→b∉X.ex→b∉ch:=fun b o e hx hb=>by
  rcases(Wu b hb).1 with z|z
  ·exact hx z
  ·exact absurd (Nat.lt_of_lt_of_le (Heap.lt_size e) z) (Nat.lt_irrefl _)
 have cellK:∀x c,X.env.cells.lookup x=some c→∀v,s.heap.IsCell c v→h'.IsCell c v:=fun x c e v ⟨o,ho,hd⟩=>by
  have nch:c∉ch:=fun z=>(Wu c z).2.2.1 x c e rfl
  by_cases hc:c∈X.fs
  ·obtain⟨sl,q⟩:=slot c o (I.cne x c e) hc nch ho (I.oP x c e)
   exact⟨_,q,hd⟩
  ·exact⟨o,keep c o (I.cne x c e) hc nch ho (I.oP x c e),hd⟩
 refine⟨I.ok,I.os,hg,⟨fun b o e n hb hx=>?_,fun b o e n hb hx=>?_,fun b o e n hx=>?_,fun b o e hx=>?_,fun b xs e=>Hh b xs (I.base.Hh b xs e),fun b o xs e=>EN b o xs (I.base.EN b o xs e),fun b ps e=>?_⟩,?_,fun x c e=>?_,?_,fun x c e=>?_,fun p hp=>?_,cD,I.len⟩
 ·exact keep b o (neL b o e) hb (neC b o e hx) (I.base.keep b o e n hb hx) (I.base.free b o e n hx)
 ·obtain⟨sl,e1⟩:=I.base.slot b o e n hb hx
  obtain⟨sl',e2⟩:=slot b _ (neL b o e) hb (neC b o e hx) e1 (I.base.free b o e n hx)
  exact⟨sl',e2⟩
 ·obtain⟨o',e1⟩:=I.base.there b o e hx
  exact free b o' (neC b o e hx) e1 (I.base.free b o e n hx)
 ·obtain⟨o',e1⟩:=I.base.there b o e hx
  exact there b o' (neC b o e hx) e1
 ·obtain⟨m1,e1⟩:=I.base.Hi b ps e
  obtain⟨m2,e2⟩:=Hi b _ e1
  exact⟨m1++m2,by rw[e2,Array.append_assoc]⟩
 ·obtain⟨m,hn,hl⟩:=I.loc
  refine⟨m,ns m hn,fun i x v e1 e2 e3=>?_⟩
  obtain⟨u,r,l⟩:=hl i x v e1 e2 e3
  refine⟨u,r,?_⟩
  rcases l with l|⟨k,c,e,z⟩
  ·exact .inl l
  ·exact .inr ⟨k,c,e,cellK x c e _ z⟩
 ·obtain⟨v,z⟩:=I.cell x c e
  exact⟨v,cellK x c e v z⟩
 ·obtain⟨m,⟨o,_,_,ho,_⟩,_⟩:=I.loc
  exact free _ o (fun z=>(Wu _ z).2.1 rfl) ho I.free
 ·obtain⟨v,o,ho,hd⟩:=I.cell x c e
  exact free c o (fun z=>(Wu c z).2.2.1 x c e rfl) ho (I.oP x c e)
 ·obtain⟨e,n,ne,nf,d⟩:=I.pin p hp
  have nch:p.1∉ch:=fun z=>(Wu p.1 z).2.2.2 p hp rfl
  exact⟨keep p.1 p.2 ne nf nch e n,free p.1 p.2 nch e n,ne,nf,d⟩
theorem Inv.un {t':Nat} (I:Inv X pins σ H s) (u:Un X.fs [] H H' s.heap h') (cD:t6 X.prog X.w H' h'):Inv X pins σ H' {s with heap:=h',toks:=t'}:=by
 obtain⟨m,⟨o,es,ep,ho,r⟩,_⟩:=id I.loc
 obtain⟨sl,hL⟩:=u.any ho I.free (by simp)
 exact I.step (g':=s.gens) (d':=s.drawn) (ch:=[]) (fun _ z=>nomatch z) (fun b o _ hb _ e n=>u.keep b o e n hb (by simp)) (fun b o _ hb _ e n=>u.slot b o e n hb (by simp)) (fun b o _ e n=>u.free b o e n (by simp)) (fun b o _ e=>u.there b o e (by simp)) u.Hh u.EN u.Hi (fun m' hm=>by
  obtain⟨o',es',ep',Qw,r'⟩:=hm
  rw[ho]at Qw;cases Qw
  exact⟨_,es',ep',hL,r'⟩) cD I.bare
theorem Inv.call {g':Array GenState} {t':Nat} {d':Drawn} {ch:List Addr} (I:Inv X pins σ H s) (u:Un (wq X.stack) ch H H' s.heap h') (cD:t6 X.prog X.w H' h') (hg:AllBare g')
 (Wu:∀b∈ch,(b∈X.ex∨X.s₀.heap.objs.size≤b)∧b≠X.env.locals∧(∀x c,X.env.cells.lookup x=some c→c≠b)∧∀p∈X.pn++pins,p.1≠b) :
 Inv X pins σ H' {s with heap:=h',gens:=g',drawn:=d',toks:=t'}:=by
 obtain⟨m,⟨o,es,ep,ho,r⟩,_⟩:=id I.loc
 obtain⟨sl,hL⟩:=u.any ho I.free fun z=>(Wu _ z).2.1 rfl
 exact I.step (ch:=ch) Wu (fun b o hL hb hc e n=>u.keep b o e n (fun z=>(List.mem_cons.mp (I.rm b z)).elim hL hb) hc) (fun b o _ _ hc e n=>u.any e n hc) (fun b o hc e n=>u.free b o e n hc) (fun b o hc e=>u.there b o e hc) u.Hh u.EN u.Hi (fun m' hm=>by
  obtain⟨o',es',ep',Qw,r'⟩:=hm
  rw[ho]at Qw;cases Qw
  exact⟨_,es',ep',hL,r'⟩) cD hg
theorem Inv.turned {t':Nat} {it:Addr} (I:Inv X pins σ H s) (k:∀b o,b≠it→s.heap.get? b=some o→h'.get? b=some o) (hn:H it=none) (hL:it≠X.env.locals)
 (h1:it∈X.ex∨X.s₀.heap.objs.size≤it) (h2:∀x c,X.env.cells.lookup x=some c→c≠it) (h3:∀p∈X.pn++pins,p.1≠it):Inv X pins σ H {s with heap:=h',toks:=t'}:=by
 have Ze:∀b u,H b=some u→b≠it:=fun b u e z=>by rw[z,hn]at e;cases e
 refine I.step (g':=s.gens) (d':=s.drawn) (ch:=[it]) (fun b hb=>?_) (fun b o _ _ hc e _=>k b o (fun z=>hc (by simp[z])) e) (fun b o _ _ hc e _=>⟨o.slots,k b o (fun z=>hc (by simp[z])) e⟩) (fun _ _ _ _ n=>n)
  (fun b o hc e=>⟨o,k b o (fun z=>hc (by simp[z])) e⟩) (fun _ _ e=>e) (fun _ _ _ e=>e) (fun b ps e=>⟨#[],by rw[e];simp⟩) (fun m hm=>?_) (fun b u e=>?_) I.bare
 ·have e:b=it:=by simpa using hb
  subst e
  exact⟨h1,hL,h2,h3⟩
 ·obtain⟨o,es,ep,ho,r⟩:=hm
  exact⟨o,es,ep,k _ o (Ne.symm hL) ho,r⟩
 ·refine(I.cD b u e).L1 (fun c v hc q=>k c v ?_ q) (fun _ q=>q) fun _ _ q=>q
  rcases hc with z|z
  ·rw[z];exact Ze b u e
  ·exact Ze c _ z
theorem Inv.tok (I:Inv X pins σ H s) (t:Nat):Inv X pins σ H {s with toks:=t}:=I.un (h':=s.heap) (t':=t) Un.refl I.cD
theorem Inv.kept {t':Nat} (I:Inv X pins σ H s) (k:∀b u,s.heap.get? b=some u→h'.get? b=some u):Inv X pins σ H {s with heap:=h',toks:=t'}:=I.un (Un.kept k) (I.cD.kept k)
theorem Inv.laid {a:Addr} {o:HO} {t':Nat} (I:Inv X pins σ H s) (k:∀b u,s.heap.get? b=some u→h'.get? b=some u) (hp:s.heap.objs.size≤a) (new:eX X.prog X.w (upd H a o) h' a o) :
 Inv X pins σ (upd H a o) {s with heap:=h',toks:=t'}:=I.un (Un.laid k hp (I.cD.fresh hp)) (I.cD.laid k hp new)
theorem Inv.write {x e:Addr} {o:HO} {t':Nat} (I:Inv X pins σ H s) (mu:Mut (H x)) (he:e=x∨H e=some (.own x)) (k:∀b u,b≠e→s.heap.get? b=some u→h'.get? b=some u) (heo:∃u,h'.get? e=some u)
 (new:eX X.prog X.w (upd H x o) h' x o):Inv X pins σ (upd H x o) {s with heap:=h',toks:=t'}:=I.un (Un.write mu he k heo) (I.cD.write mu he k heo new)
theorem Inv.weak {σ':List (Option V)} (I:Inv X pins σ H s) (hl:σ'.length=σ.length) (w:∀(i:Nat) v,σ'[i]?=some (some v)→σ[i]?=some (some v)):Inv X pins σ' H s :=
 ⟨I.ok,I.os,I.bare,I.base,let⟨m,hn,hl'⟩:=I.loc;⟨m,hn,fun i x v e1 e2 e3=>hl' i x v e1 (w i v e2) e3⟩,I.cell,I.free,I.oP,I.pin,I.cD,hl.trans I.len⟩
theorem Inv.Qx {ER:List (Addr×Obj)} (I:Inv X pins σ H s) (h:∀p∈ER,s.heap.get? p.1=some p.2∧H p.1=none∧p.1≠X.env.locals∧p.1∉X.fs∧∀v,p.2.data≠.cell v):Inv X ER σ H s :=
 ⟨I.ok,I.os,I.bare,I.base,I.loc,I.cell,I.free,I.oP,fun p hp=>(List.mem_append.mp hp).elim (fun z=>I.pin p (List.mem_append_left _ z)) (h p),I.cD,I.len⟩
theorem ES {N:List Str} (hN:N.Nodup) {i j:Nat} {x:Str} (a:N[i]?=some x) (b:N[j]?=some x):i=j:=by
 obtain⟨h1,e1⟩:=List.getElem?_eq_some_iff.mp a
 obtain⟨h2,e2⟩:=List.getElem?_eq_some_iff.mp b
 exact(List.getElem_inj hN).mp (e1.trans e2.symm)
theorem IP {M:Model} {A:Around} {E:Value→Shared→Prop} {i:Nat} {x:Str} {v:V} {u:Value} {Q:Unit→Shared→Prop} (I:Inv X pins σ H s) (hN:X.N.Nodup) (hi:X.N[i]?=some x) (hx:Loc X.env.scope x) (r:RelV v u)
 (h:∀s',Inv X pins (σ.set i (some v)) H s'→(∃a,Heap.SameBut a s.heap s'.heap∧(a=X.env.locals∨X.env.cells.lookup x=some a))→Q () s') (hf:X.fn x=true∨X.env.scope.names.lookup x=some .local:=by first|exact .inl rfl|exact .inr rfl|assumption):wpAny M A (storeName X.env x u) Q E s:=by
 obtain⟨m,hn,hl⟩:=id I.loc
 have L3:(X.env.scope.kind == .class ||(X.env.scope.kind == .module&&X.env.locals != X.env.globals))=false:=by rw[I.ok.kind];rfl
 have hiσ:i<σ.length:=by rw[I.len];exact(List.getElem?_eq_some_iff.mp hi).1
 have cne:=I.cne
 have tracked:∀{a:Addr} {h':Heap},(∃o,s.heap.get? a=some o∧H a=none)→Heap.SameBut a s.heap h'→t6 X.prog X.w H h':=fun{a h'} ha hs b ob e=>by
  obtain⟨_,_,CH⟩:=ha
  refine(I.cD b ob e).L1 (fun c w' hc q=>(hs.2 c ?_).trans q) (fun _ q=>q) fun _ _ q=>q
  rintro rfl
  rcases hc with rfl|hc
  ·rw[CH]at e;cases e
  ·rw[CH]at hc;cases hc
 rcases hx with hk|hk
 ·refine wpAny_storeName_local hk hn (fun h' WL hs=>?_) L3
  obtain⟨oL,_,_,hoL,_⟩:=id hn
  refine h _ ⟨I.ok,I.os,I.bare,⟨fun b o e n hb hx=>?_,fun b o e n hb hx=>?_,I.base.free,fun b o e hx=>?_,I.base.Hh,I.base.EN,I.base.Hi⟩,⟨_,WL,fun j y v' e1 e2 e3=>?_⟩,fun y c e=>?_,I.free,I.oP,fun p hp=>?_,tracked ⟨oL,hoL,I.free⟩ hs,by simpa using I.len⟩ ⟨_,hs,.inl rfl⟩
  ·exact(hs.2 b (Nat.ne_of_lt (Nat.lt_of_lt_of_le (Heap.lt_size e) I.ok.above))).trans (I.base.keep b o e n hb hx)
  ·obtain⟨sl,e1⟩:=I.base.slot b o e n hb hx
   exact⟨sl,(hs.2 b (Nat.ne_of_lt (Nat.lt_of_lt_of_le (Heap.lt_size e) I.ok.above))).trans e1⟩
  ·obtain⟨o',e1⟩:=I.base.there b o e hx
   exact⟨o',(hs.2 b (Nat.ne_of_lt (Nat.lt_of_lt_of_le (Heap.lt_size e) I.ok.above))).trans e1⟩
  ·by_cases hj:j=i
   ·subst hj
    rw[hi]at e1;cases e1
    rw[List.getElem?_set_self hiσ]at e2
    cases e2
    exact⟨u,r,.inl ⟨hk,by simp⟩⟩
   ·rw[List.getElem?_set_ne (Ne.symm hj)]at e2
    obtain⟨u',r',q⟩:=hl j y v' e1 e2 e3
    refine⟨u',r',?_⟩
    rcases q with⟨k,e⟩|⟨k,c,e,z⟩
    ·refine .inl ⟨k,?_⟩
     have:y≠x:=fun e=>hj (ES hN e1 (e ▸ hi))
     simp[this,e]
    ·exact .inr ⟨k,c,e,z.sameBut hs (cne y c e)⟩
  ·obtain⟨w',z⟩:=I.cell y c e
   exact⟨w',z.sameBut hs (cne y c e)⟩
  ·obtain⟨e,n,ne,nf,d⟩:=I.pin p hp
   exact⟨(hs.2 p.1 ne).trans e,n,ne,nf,d⟩
 ·have hfn:X.fn x=true:=by
   rcases hf with z|z
   ·exact z
   ·rw[z]at hk;cases hk
  obtain⟨c,hc⟩:=I.ok.has x (.inl hk)
  obtain⟨w',z⟩:=I.cell x c hc
  refine wpAny_storeName_cell I.ok.kind hk hc z (fun h' hc' hs=>?_)
  obtain⟨oc,hoc,agy⟩:=id z
  refine h {s with heap:=h'} ⟨I.ok,I.os,I.bare,⟨fun b o e n hb hx=>?_,fun b o e n hb hx=>?_,I.base.free,fun b o e hx=>?_,I.base.Hh,I.base.EN,I.base.Hi⟩,⟨m,hn.sameBut hs (Ne.symm (cne x c hc)),fun j y v' e1 e2 e3=>?_⟩,fun y c' e=>?_,I.free,I.oP,fun p hp=>?_,tracked ⟨oc,hoc,I.oP x c hc⟩ hs,by simpa using I.len⟩ ⟨c,hs,.inr hc⟩
  ·exact(hs.2 b (Nat.ne_of_lt (Nat.lt_of_lt_of_le (Heap.lt_size e) (I.ok.cab x c hfn hc)))).trans (I.base.keep b o e n hb hx)
  ·obtain⟨sl,e1⟩:=I.base.slot b o e n hb hx
   exact⟨sl,(hs.2 b (Nat.ne_of_lt (Nat.lt_of_lt_of_le (Heap.lt_size e) (I.ok.cab x c hfn hc)))).trans e1⟩
  ·obtain⟨o',e1⟩:=I.base.there b o e hx
   exact⟨o',(hs.2 b (Nat.ne_of_lt (Nat.lt_of_lt_of_le (Heap.lt_size e) (I.ok.cab x c hfn hc)))).trans e1⟩
  ·by_cases hj:j=i
   ·subst hj
    rw[hi]at e1;cases e1
    rw[List.getElem?_set_self hiσ]at e2
    cases e2
    exact⟨u,r,.inr ⟨.inl hk,c,hc,hc'⟩⟩
   ·rw[List.getElem?_set_ne (Ne.symm hj)]at e2
    obtain⟨u',r',q⟩:=hl j y v' e1 e2 e3
    refine⟨u',r',?_⟩
    rcases q with q|⟨k,c',e,z'⟩
    ·exact .inl q
    ·refine .inr ⟨k,c',e,z'.sameBut hs ?_⟩
     rintro rfl
     exact hj (ES hN e1 (I.ok.inj _ _ _ e hc ▸ hi))
  ·by_cases hcc:c'=c
   ·subst hcc;exact⟨_,hc'⟩
   ·obtain⟨w2,z2⟩:=I.cell y c' e
    exact⟨w2,z2.sameBut hs hcc⟩
  ·obtain⟨e,n,ne,nf,d⟩:=I.pin p hp
   refine⟨(hs.2 p.1 ?_).trans e,n,ne,nf,d⟩
   intro q
   rw[q,hoc]at e
   have q':oc=p.2:=Option.some.inj e
   exact d w' (by rw[←q'];exact agy)
theorem ET {M:Model} {A:Around} {E:Value→Shared→Prop} {i:Nat} {x:Str} {v:V} {u:Value} {Q:Unit→Shared→Prop} (I:Inv X pins σ H s) (hN:X.N.Nodup) (hi:X.N[i]?=some x) (hx:Loc X.env.scope x) (r:RelV v u)
 (h:∀s',Inv X pins (σ.set i (some v)) H s'→Q () s') (hf:X.fn x=true∨X.env.scope.names.lookup x=some .local:=by first|exact .inl rfl|exact .inr rfl|assumption):wpAny M A (storeName X.env x u) Q E s :=
 IP I hN hi hx r (fun s' I' _=>h s' I') hf
theorem Inv.IQ {s':Shared} {ch:List Addr} (I:Inv X pins σ H s) (ho:s'.os=s.os) (u:Un (wq X.stack) ch H H' s.heap s'.heap) (cD:t6 X.prog X.w H' s'.heap) (hg:AllBare s'.gens)
 (Wu:∀b∈ch,(b∈X.ex∨X.s₀.heap.objs.size≤b)∧b≠X.env.locals∧(∀x c,X.env.cells.lookup x=some c→c≠b)∧∀p∈X.pn++pins,p.1≠b):Inv X pins σ H' s':=by
 obtain⟨h',g',d',t',o'⟩:=s'
 have e:o'=s.os:=ho
 subst e
 exact I.call (g':=g') (t':=t') (d':=d') u cD hg Wu
end
abbrev XK:=Value→Option Addr→Hp→Prop
abbrev St:=List (Option V)
abbrev VK:=V→Hp→Prop
abbrev TE:=St→Hp→VK→Prop
abbrev TT:=St→Hp→(Bool→Hp→Prop)→Prop
abbrev TA:=St→Hp→(List V→Hp→Prop)→Prop
structure Ends where
 nx:St→Hp→Prop
 rt:VK
 bk:St→Hp→Prop:=fun _ _=>False
 ct:St→Hp→Prop:=fun _ _=>False
abbrev TS:=Ends→St→Hp→Prop
def EP (X:Cx) (pins:List (Addr×Obj)) (σ:St) (Q:VK) (u:Value) (s':Shared):Prop:=∃v H',Inv X pins σ H' s'∧RelV v u∧Q v H'
def TP (X:Cx) (pins:List (Addr×Obj)) (σ:St) (Q:Bool→Hp→Prop) (b:Bool) (s':Shared):Prop:=∃H',Inv X pins σ H' s'∧Q b H'
def AP (X:Cx) (pins:List (Addr×Obj)) (σ:St) (Q:List V→Hp→Prop) (us:List Value) (s':Shared):Prop:=∃vs H',Inv X pins σ H' s'∧Vals vs us∧Q vs H'
def SP (X:Cx) (pins:List (Addr×Obj)) (D:Ends) (f:Flow) (s':Shared):Prop :=
 match f with
 | .next=>∃σ' H',Inv X pins σ' H' s'∧D.nx σ' H'
 | .brk=>∃σ' H',Inv X pins σ' H' s'∧D.bk σ' H'
 | .cont=>∃σ' H',Inv X pins σ' H' s'∧D.ct σ' H'
 | .ret u=>∃v σ' H',Inv X pins σ' H' s'∧RelV v u∧D.rt v H'
def PE (X:Cx) (e:Expr) (t:TE):Prop :=
 ∀(pins:List (Addr×Obj)) (s:Shared) (σ:St) (H:Hp) (Q:VK),Inv X pins σ H s→t σ H Q→wpAny (model X.prog X.w) X.A (eval e X.env) (EP X pins σ Q) X.xe s
def PT (X:Cx) (e:Expr) (t:TT):Prop :=
 ∀(pins:List (Addr×Obj)) (s:Shared) (σ:St) (H:Hp) (Q:Bool→Hp→Prop),Inv X pins σ H s→t σ H Q→wpAny (model X.prog X.w) X.A (isTrue e X.env (eval e X.env)) (TP X pins σ Q) X.xe s
def PW (X:Cx) (e:Expr) (t:TT):Prop :=
 ∀(whole:Sem Value) (pins:List (Addr×Obj)) (s:Shared) (σ:St) (H:Hp) (Q:Bool→Hp→Prop),Inv X pins σ H s→t σ H Q→wpAny (model X.prog X.w) X.A (isTrue e X.env whole) (TP X pins σ Q) X.xe s
theorem PW.pt {X:Cx} {e:Expr} {t:TT} (h:PW X e t):PT X e t:=h _
def PA (X:Cx) (es:List Expr) (t:TA):Prop :=
 ∀(pos:Pos) (pins:List (Addr×Obj)) (s:Shared) (σ:St) (H:Hp) (Q:List V→Hp→Prop),Inv X pins σ H s→t σ H Q→wpAny (model X.prog X.w) X.A (spliced (backTo pos (starEach es X.env))) (AP X pins σ Q) X.xe s
def PS (X:Cx) (st:Stmt) (t:TS):Prop :=
 ∀(pins:List (Addr×Obj)) (s:Shared) (σ:St) (H:Hp) (D:Ends),Inv X pins σ H s→t D σ H→wpAny (model X.prog X.w) X.A (exec st X.env) (SP X pins D) X.xe s
def RH (X:Cx) (st:List Stmt) (t:TS):Prop :=
 ∀(pins:List (Addr×Obj)) (s:Shared) (σ:St) (H:Hp) (D:Ends),Inv X pins σ H s→t D σ H→wpAny (model X.prog X.w) X.A (execs st X.env) (SP X pins D) X.xe s
theorem dj {α:Type} {t:Sem α} {Q Q':α→Shared→Prop} {M:Model} {A:Around} {E:Value→Shared→Prop} {s:Shared} (h:wpAny M A t Q E s) (hQ:∀a s,Q a s→Q' a s):wpAny M A t Q' E s:=wpAny_mono h hQ fun _ _ x=>x
end L2
namespace L2
open PySem PySem.Spec PyProof.Rows
section
variable {X:Cx}
def zK (i:Nat):TE:=fun σ H Q=>∃v,σ[i]?=some (some v)∧Q v H
def tC (v:V):TE:=fun _ H Q=>Q v H
theorem aaf {i:Nat} {x:Str} {pos:Pos} (hN:X.N[i]?=some x) (hv:Vis X.env.scope x) (hd:(x==("__debug__" : Str))=false:=by decide) (Wv:(x==("__classdict__" : Str))=false:=by decide):PE X (.Name x pos) (zK i):=by
 intro pins s σ H Q I h
 obtain⟨v,e,h⟩:=h
 obtain⟨m,hn,hl⟩:=I.loc
 obtain⟨u,r,l⟩:=hl i x v hN e hv
 have fin:EP X pins σ Q u s:=⟨v,H,I,r,h⟩
 rcases l with⟨hk,hm⟩|⟨hk,c,hc,Qy⟩
 ·exact wpAny_Name (wpAny_loadName_local I.ok.kind hk hn hm fin) hd
 ·rcases hk with hk|hk
  ·exact wpAny_Name (wpAny_loadName_cell I.ok.kind hk hc Qy fin) hd
  ·exact wpAny_Name (wpAny_loadName_free I.ok.kind hk hc Qy fin Wv) hd
theorem ak {i j pos}:PE X (.Constant (.int i) j pos) (tC (.int i)):=fun _ _ _ H _ I h=>wpAny_Constant_int ⟨.int i,H,I.tok _,⟨_,rfl⟩,h⟩
theorem EU {b j pos}:PE X (.Constant (.bool b) j pos) (tC (.bl b)):=fun _ _ _ H _ I h=>Constant_bool ⟨.bl b,H,I,rfl,h⟩
theorem JV {j pos}:PE X (.Constant .none j pos) (tC .de):=fun _ _ _ H _ I h=>Constant_none ⟨.de,H,I,rfl,h⟩
def Gl (X:Cx) (x:Str):Prop:=X.env.kindOf x=some .globalImplicit
theorem rn {E:Value→Shared→Prop} {pins:List (Addr×Obj)} {s:Shared} {σ:St} {H:Hp} {x:Str} {u:Value} {pos:Pos} {Q:Value→Shared→Prop} (I:Inv X pins σ H s) (hg:Gl X x) (hm:X.mg x=some u) (h:Q u s)
 (hd:(x==("__debug__" : Str))=false:=by decide):wpAny (model X.prog X.w) X.A (eval (.Name x pos) X.env) Q E s :=
 Calls.Name_function_global I.ok.kind hg (Calls.loadGlobal_global (by rw[I.ok.glob];exact I.mod.glob.keeps I.bk) hm h) hd
theorem rp {E:Value→Shared→Prop} {pins:List (Addr×Obj)} {s:Shared} {σ:St} {H:Hp} {x:Str} {u:Value} {pos:Pos} {Q:Value→Shared→Prop} (I:Inv X pins σ H s) (hg:Gl X x) (hm:X.mg x=none) (hv:bootBuiltins x=some u) (h:Q u s)
 (hn:x ≠ "__name__":=by decide) (hd:(x==("__debug__" : Str))=false:=by decide):wpAny (model X.prog X.w) X.A (eval (.Name x pos) X.env) Q E s:=by
 obtain⟨mb,h1,h2⟩:=I.mod.blt
 exact Calls.Name_function_global I.ok.kind hg (Calls.loadGlobal_builtin (by rw[I.ok.glob];exact I.mod.glob.keeps I.bk) hm (by rw[I.ok.blt];exact h1.keeps I.bk) ((h2 x hn).trans hv) h) hd
theorem Qz {x:Str} {v:V} {u:Value} {pos:Pos} (hg:Gl X x) (hm:X.mg x=some u) (r:RelV v u) (hd:(x==("__debug__" : Str))=false:=by decide):PE X (.Name x pos) (tC v) :=
 fun _ _ _ H _ I h=>rn I hg hm ⟨v,H,I,r,h⟩ hd
variable {a b:Expr} {ta tb:TE} {pos:Pos}
def PC (X:Cx) (op:CmpOp) (a b:Expr) (t:TE):Prop :=
 ∀(pins:List (Addr×Obj)) (s:Shared) (σ:St) (H:Hp) (Q:VK),Inv X pins σ H s→t σ H Q →
  wpAny (model X.prog X.w) X.A (eval a X.env) (fun v s₁=>wpAny (model X.prog X.w) X.A (eval b X.env) (fun u s₂=>wpAny (model X.prog X.w) X.A (compareOp op v u) (EP X pins σ Q) X.xe s₂) X.xe s₁) X.xe s
theorem L4 (b:Expr) {op:CmpOp} (h:op≠.In) (h2:op≠.NotIn):behindInMarks op b=false:=by
 have e1:(op==CmpOp.In)=false:=by cases op<;>first|rfl|exact absurd rfl h
 have e2:(op==CmpOp.NotIn)=false:=by cases op<;>first|rfl|exact absurd rfl h2
 cases b<;>simp[behindInMarks,e1,e2]
def agA (ta:TE):TE:=fun σ H Q=>ta σ H fun x H1=>Q (.bl (decide (x = .de))) H1
theorem RelV.TH {x:V} {v:Value} (r:RelV x v):(v==Value.none)=decide (x = .de):=by
 cases x with
 |de=>cases r;rfl
 |bl _=>cases r;rfl
 |int _=>obtain⟨t,rfl⟩:=r;rfl
 |str _=>obtain⟨t,rfl⟩:=r;rfl
 |N5 _=>obtain⟨t,rfl⟩:=r;rfl
 |flt _=>obtain⟨t,rfl⟩:=r;rfl
 |ref _=>cases r;rfl
 |ty _=>cases r;rfl
theorem By {j pos'} (ha:PE X a ta):PC X .Is a (.Constant .none j pos') (agA ta):=by
 intro pins s σ H Q I h
 refine dj (ha pins s σ H _ I h) fun v s1 ⟨x,H1,I1,r1,q1⟩=>?_
 exact Constant_none (is_none_gen ⟨.bl _,H1,I1,by rw[r1.TH];rfl,q1⟩)
def tB (t:TE):TT:=fun σ H Q=>t σ H fun x H1=>∃c,x = .bl c∧Q c H1
theorem EV {op:CmpOp} {t:TE} (h:PC X op a b t) (h1:behindInMarks op b=false:=by first|exact L4 _ (by decide) (by decide)|rfl):PE X (.Compare a [op] [b] pos) t:=fun pins s σ H Q I hw=>wpAny_Compare1 (h pins s σ H Q I hw) h1
theorem Bz {op:CmpOp} {t:TE} (h:PC X op a b t) (h1:behindInMarks op b=false:=by first|exact L4 _ (by decide) (by decide)|rfl):PT X (.Compare a [op] [b] pos) (tB t):=by
 intro pins s σ H Q I hw
 refine wpAny_isTrue_Compare1 (dj (h pins s σ H _ I hw) fun v s1 h1=>dj h1 fun u s2 h2=>dj h2 fun c s3 ⟨x,H1,I1,r1,q1⟩=>?_) h1
 obtain⟨d,rfl,q⟩:=q1
 cases r1
 exact wpAny_truthy_bool ⟨H1,I1,q⟩
variable {tA tB':TT} {rest:List Expr}
def agB (t u:TT):TT:=fun σ H Q=>t σ H fun c H1=>if c=true then u σ H1 Q else Q false H1
def tOr (t u:TT):TT:=fun σ H Q=>t σ H fun c H1=>if c=true then Q true H1 else u σ H1 Q
def agC (t:TT):TT:=fun σ H Q=>t σ H fun c H1=>Q (!c) H1
theorem WM (ha:PT X a tA):PW X (.BoolOp .And [a] pos) tA:=by
 intro wh pins s σ H Q I h
 refine isTrue_and (dj (ha pins s σ H Q I h) fun c s1 e=>?_)
 cases c with
 |true=>exact isTrue_and_nil e
 |false=>exact e
theorem aag (ha:PT X a tA):PW X (.BoolOp .Or [a] pos) tA:=by
 intro wh pins s σ H Q I h
 refine isTrue_or (dj (ha pins s σ H Q I h) fun c s1 e=>?_)
 cases c with
 |false=>exact isTrue_or_nil e
 |true=>exact e
theorem aah (ha:PT X a tA) (hb:PW X (.BoolOp .And (b::rest) pos) tB'):PW X (.BoolOp .And (a::b::rest) pos) (agB tA tB'):=by
 intro wh pins s σ H Q I h
 refine isTrue_and (dj (ha pins s σ H _ I h) fun c s1 ⟨H1,I1,q1⟩=>?_)
 cases c with
 |true=>exact hb wh pins s1 σ H1 Q I1 q1
 |false=>exact⟨H1,I1,q1⟩
theorem ac9 (ha:PT X a tA) (hb:PW X (.BoolOp .Or (b::rest) pos) tB'):PW X (.BoolOp .Or (a::b::rest) pos) (tOr tA tB'):=by
 intro wh pins s σ H Q I h
 refine isTrue_or (dj (ha pins s σ H _ I h) fun c s1 ⟨H1,I1,q1⟩=>?_)
 cases c with
 |true=>exact⟨H1,I1,q1⟩
 |false=>exact hb wh pins s1 σ H1 Q I1 q1
theorem JW (ha:PT X a tA):PT X (.UnaryOp .Not a pos) (agC tA):=by
 intro pins s σ H Q I h
 exact isTrue_not (ha pins s σ H (fun c H1=>Q (!c) H1) I h)
def ada (ta tb:TE):TE:=fun σ H Q=>ta σ H fun x H1=>∃c,x = .bl c∧if c=true then tb σ H1 Q else Q (.bl false) H1
def agD (ta tb:TE):TE:=fun σ H Q=>ta σ H fun x H1=>∃c,x = .bl c∧if c=true then Q (.bl true) H1 else tb σ H1 Q
def adb (ta:TE):TE:=fun σ H Q=>ta σ H fun x H1=>∃c,x = .bl c∧Q (.bl (!c)) H1
theorem ub {op} {t:TE} (h:PE X a t):PE X (.BoolOp op [a] pos) t:=fun pins s σ H Q I hw=>BoolOp_one (h pins s σ H Q I hw)
theorem JX (ha:PE X a ta) (hb:PE X (.BoolOp .And (b::rest) pos) tb):PE X (.BoolOp .And (a::b::rest) pos) (ada ta tb):=by
 intro pins s σ H Q I h
 refine BoolOp_and (dj (ha pins s σ H _ I h) fun v s1 ⟨x,H1,I1,r1,q1⟩=>?_)
 obtain⟨c,rfl,q1⟩:=q1
 cases r1
 refine wpAny_truthy_bool ?_
 cases c with
 |true=>exact hb pins s1 σ H1 Q I1 q1
 |false=>exact⟨.bl false,H1,I1,rfl,q1⟩
theorem QA (ha:PE X a ta) (hb:PE X (.BoolOp .Or (b::rest) pos) tb):PE X (.BoolOp .Or (a::b::rest) pos) (agD ta tb):=by
 intro pins s σ H Q I h
 refine BoolOp_or (dj (ha pins s σ H _ I h) fun v s1 ⟨x,H1,I1,r1,q1⟩=>?_)
 obtain⟨c,rfl,q1⟩:=q1
 cases r1
 refine wpAny_truthy_bool ?_
 cases c with
 |false=>exact hb pins s1 σ H1 Q I1 q1
 |true=>exact⟨.bl true,H1,I1,rfl,q1⟩
theorem TJ (ha:PE X a ta):PE X (.UnaryOp .Not a pos) (adb ta):=by
 intro pins s σ H Q I h
 refine UnaryOp_ (dj (ha pins s σ H _ I h) fun v s1 ⟨x,H1,I1,r1,q1⟩=>?_)
 obtain⟨c,rfl,q1⟩:=q1
 cases r1
 exact not_of (wpAny_truthy_bool ⟨.bl (!c),H1,I1,rfl,q1⟩)
def tIf (t:TT) (ta tb:TE):TE:=fun σ H Q=>t σ H fun c H1=>if c=true then ta σ H1 Q else tb σ H1 Q
theorem EW {c:Expr} (hc:PT X c tA) (ha:PE X a ta) (hb:PE X b tb):PE X (.IfExp c a b pos) (tIf tA ta tb):=by
 intro pins s σ H Q I h
 refine wpAny_IfExp (dj (hc pins s σ H _ I h) fun d s1 ⟨H1,I1,q1⟩=>?_)
 cases d with
 |true=>exact ha pins s1 σ H1 Q I1 q1
 |false=>exact hb pins s1 σ H1 Q I1 q1
end
end L2
namespace L2
open PySem PySem.Spec PyProof.Rows
def bO (K:PySem.W.Frag) (H:Hp) (a:Addr) (xs:List V):Prop :=
 Rd H a (.lst xs) ∨
  ∃(o:Obj) (bt:Array Value) (n:Nat),K.lookup a=some o∧o.cls = .type "list"∧o.dict=none∧o.data = .seq bt n∧bt.size≤sizeLine∧Vals xs bt.toList
def tS (K:PySem.W.Frag) (H:Hp) (a:Addr) (xs:List V):Prop :=
 Rd H a (.tup xs) ∨
  ∃(o:Obj) (bt:Array Value) (n:Nat),K.lookup a=some o∧o.cls = .type "tuple"∧o.data = .seq bt n∧bt.size≤sizeLine∧Vals xs bt.toList
def agE:Value→Option V
 | .none=>some .de
 | .bool b=>some (.bl b)
 | .int i _=>some (.int i)
 | .str x _=>some (.str x)
 | .bytes b _=>some (.N5 b)
 | .float b _=>some (.flt b)
 | .ref a=>some (.ref a)
 | .type n=>some (.ty n)
 |_=>none
theorem RelV.abs {x:V} {u:Value} (r:RelV x u):agE u=some x:=by
 cases x with
 |de=>cases r;rfl
 |bl _=>cases r;rfl
 |int _=>obtain⟨t,rfl⟩:=r;rfl
 |str _=>obtain⟨t,rfl⟩:=r;rfl
 |N5 _=>obtain⟨t,rfl⟩:=r;rfl
 |flt _=>obtain⟨t,rfl⟩:=r;rfl
 |ref _=>cases r;rfl
 |ty _=>cases r;rfl
theorem RelV.inj {x y:V} {u:Value} (r:RelV x u) (q:RelV y u):x=y:=Option.some.inj (r.abs.symm.trans q.abs)
theorem Vals.inj:∀{xs ys:List V} {us:List Value},Vals xs us→Vals ys us→xs=ys
 |_,_,_,.nil,.nil=>rfl
 |_,_,_,.cons r t,.cons r' t'=>by rw[r.inj r',Vals.inj t t']
section
variable {X:Cx} {pins:List (Addr×Obj)} {σ:St} {H:Hp} {s:Shared} {a:Addr} {xs ys:List V}
theorem bO.of {K:PySem.W.Frag} (h:H a=some (.lst xs)):bO K H a xs:=.inl (.inl h)
theorem tS.of {K:PySem.W.Frag} (h:H a=some (.tup xs)):tS K H a xs:=.inl (.inl h)
theorem Inv.list (I:Inv X pins σ H s) (h:bO X.K H a xs):∃bt:List Value,Vals xs bt∧PlainL s.heap a bt.toArray∧xs.length≤sizeLine:=by
 rcases h with h|⟨o,bt,n,hk,hc,hd,hs,hz,r⟩
 ·obtain⟨z,bt,n,r,e⟩:=h.ok I.cD
  exact⟨bt,r,⟨_,n,e,rfl,rfl,rfl⟩,z⟩
 ·refine⟨bt.toList,r,⟨o,n,I.EO a o hk,hc,hd,by simpa using hs⟩,?_⟩
  have e:=r.length
  simp only[Array.length_toList]at e
  omega
theorem Inv.tuple (I:Inv X pins σ H s) (h:tS X.K H a xs):∃bt:List Value,Vals xs bt∧IsTup s.heap a bt.toArray∧xs.length≤sizeLine:=by
 rcases h with h|⟨o,bt,n,hk,hc,hs,hz,r⟩
 ·obtain⟨z,bt,r,p⟩:=h.ok I.cD
  exact⟨bt,r,p,z⟩
 ·refine⟨bt.toList,r,⟨o,I.EO a o hk,hc,n,by simpa using hs⟩,?_⟩
  have e:=r.length
  simp only[Array.length_toList]at e
  omega
theorem Inv.zL (I:Inv X pins σ H s) (h:bO X.K H a xs) (h':bO X.K H a ys):xs=ys:=by
 obtain⟨bt,r,⟨o,n,e,_,_,d⟩,_⟩:=I.list h
 obtain⟨its',r',⟨o',n',e',_,_,d'⟩,_⟩:=I.list h'
 rw[e]at e';cases e'
 rw[d]at d'
 injection d' with d1 _
 have:bt=its':=by simpa using congrArg Array.toList d1
 subst this
 exact r.inj r'
theorem Inv.RI (I:Inv X pins σ H s) (h:tS X.K H a xs) (h':tS X.K H a ys):xs=ys:=by
 obtain⟨bt,r,⟨o,e,_,n,d⟩,_⟩:=I.tuple h
 obtain⟨its',r',⟨o',e',_,n',d'⟩,_⟩:=I.tuple h'
 rw[e]at e';cases e'
 rw[d]at d'
 injection d' with d1 _
 have:bt=its':=by simpa using congrArg Array.toList d1
 subst this
 exact r.inj r'
end
abbrev Cx.DH (X:Cx) (E:Value→Shared→Prop):Cx:={X with xe:=E}
theorem Cx.Ok.DH {X:Cx} (ok:X.Ok) (E:Value→Shared→Prop):(X.DH E).Ok :=
 ⟨ok.mod,ok.kind,ok.glob,ok.blt,ok.above,ok.inj,ok.has,ok.cab,ok.hd,ok.frames,ok.stk,ok.exf,ok.bs,ok.Wt,ok.RG,ok.N6,ok.yn,ok.Zd⟩
section
variable {X:Cx} {pins:List (Addr×Obj)} {σ:St} {H:Hp} {s:Shared} {E:Value→Shared→Prop}
theorem Inv.DH (I:Inv X pins σ H s) (E:Value→Shared→Prop):Inv (X.DH E) pins σ H s:=⟨I.ok.DH E,I.os,I.bare,I.base,I.loc,I.cell,I.free,I.oP,I.pin,I.cD,I.len⟩
end
section
variable {X:Cx} {st:Stmt} {rest:List Stmt} {t u:TS} {e:Expr} {te:TE} {pos:Pos}
def ade:TS:=fun D σ H=>D.nx σ H
def adf (t u:TS):TS:=fun D σ H=>t {D with nx:=u D} σ H
theorem gw:RH X [] ade:=fun _ _ σ H _ I h=>wpAny_execs_nil ⟨σ,H,I,h⟩
theorem ae (h1:PS X st t) (h2:RH X rest u):RH X (st::rest) (adf t u):=by
 intro pins s σ H D I h
 refine wpAny_execs_cons (dj (h1 pins s σ H {D with nx:=u D} I h) fun f s1 q=>?_)
 cases f with
 |next =>
  obtain⟨σ',H',I',q⟩:=q
  exact h2 pins s1 σ' H' D I' q
 |ret v=>exact q
 |brk=>exact q
 |cont=>exact q
theorem ag (h1:PS X st t):RH X [st] t:=by
 intro pins s σ H D I h
 refine wpAny_execs_cons (dj (h1 pins s σ H D I h) fun f s1 q=>?_)
 cases f with
 |next=>exact wpAny_execs_nil q
 |ret v=>exact q
 |brk=>exact q
 |cont=>exact q
theorem Inv.quiet {pins:List (Addr×Obj)} {σ:St} {H:Hp} {s:Shared} (I:Inv X pins σ H s):interactive X.env=false:=by simp[interactive,I.ok.kind]
def TK (te:TE):TS:=fun D σ H=>te σ H fun _ H1=>D.nx σ H1
theorem aR (he:PE X e te) (hs:swapsWith e none pos.line X.env=pure false:=by rfl):PS X (.Expr e pos) (TK te):=by
 intro pins s σ H D I h
 exact wpAny_Expr_any (dj (he pins s σ H _ I h) fun v s1 ⟨x,H1,I1,r1,q1⟩=>⟨σ,H1,I1,q1⟩) I.quiet hs
def aai (te:TE):TS:=fun D σ H=>te σ H D.rt
theorem aS (he:PE X e te):PS X (.Return (some e) pos) (aai te):=by
 intro pins s σ H D I h
 exact wpAny_Return_some (dj (he pins s σ H _ I h) fun v s1 ⟨x,H1,I1,r1,q1⟩=>⟨x,σ,H1,I1,r1,q1⟩)
def adg:TS:=fun D _ H=>D.rt .de H
theorem WN:PS X (.Return none pos) adg:=fun _ _ σ H _ I h=>wpAny_Return_none ⟨.de,σ,H,I,rfl,h⟩
def agF (c:TT) (t u:TS):TS:=fun D σ H=>c σ H fun b H1=>if b=true then t D σ H1 else u D σ H1
theorem dk {c:Expr} {a b:List Stmt} {tc:TT} (hc:PT X c tc) (ha:RH X a t) (hb:RH X b u):PS X (.If c a b pos) (agF tc t u):=by
 intro pins s σ H D I h
 refine wpAny_If (dj (hc pins s σ H _ I h) fun d s1 ⟨H1,I1,q1⟩=>?_)
 cases d with
 |true=>exact ha pins s1 σ H1 D I1 q1
 |false=>exact hb pins s1 σ H1 D I1 q1
end
abbrev TG:=V→St→Hp→(St→Hp→Prop)→Prop
abbrev TGs:=List V→St→Hp→(St→Hp→Prop)→Prop
def PG (X:Cx) (target:Expr) (t:TG):Prop :=
 ∀(pins:List (Addr×Obj)) (s:Shared) (σ:St) (H:Hp) (v:V) (u:Value) (Q:St→Hp→Prop),Inv X pins σ H s→RelV v u→t v σ H Q →
  wpAny (model X.prog X.w) X.A (assign target X.env u) (fun _ s'=>∃σ' H',Inv X pins σ' H' s'∧Q σ' H') X.xe s
def PGs (X:Cx) (ts:List Expr) (t:TGs):Prop :=
 ∀(pins:List (Addr×Obj)) (s:Shared) (σ:St) (H:Hp) (vs:List V) (us:List Value) (Q:St→Hp→Prop),Inv X pins σ H s→Vals vs us→t vs σ H Q →
  wpAny (model X.prog X.w) X.A (assignInOrder ((assignEach ts X.env).map (·.2)) us) (fun _ s'=>∃σ' H',Inv X pins σ' H' s'∧Q σ' H') X.xe s
abbrev aak:=V→V→V→Hp→(Hp→Prop)→Prop
def adh (X:Cx) (t:aak):Prop :=
 ∀(pins:List (Addr×Obj)) (s:Shared) (σ:St) (H:Hp) (o i v:V) (ov iv u:Value) (Q:Hp→Prop),Inv X pins σ H s→RelV o ov→RelV i iv→RelV v u→t o i v H Q →
  wpAny (model X.prog X.w) X.A (setItem ov iv u) (fun _ s'=>∃H',Inv X pins σ H' s'∧Q H') X.xe s
abbrev TIp:=V→V→Hp→VK→Prop
def PIp (X:Cx) (op:Operator) (t:TIp):Prop :=
 ∀(pins:List (Addr×Obj)) (s:Shared) (σ:St) (H:Hp) (x y:V) (v u:Value) (Q:VK),Inv X pins σ H s→RelV x v→RelV y u→t x y H Q →
  wpAny (model X.prog X.w) X.A (inplaceOp op v u) (EP X pins σ Q) X.xe s
section
variable {X:Cx} {pos:Pos}
def IS (i:Nat):TG:=fun v σ H Q=>Q (σ.set i (some v)) H
theorem dH {i:Nat} {x:Str} (hN:X.N.Nodup) (hi:X.N[i]?=some x) (hx:Loc X.env.scope x) (hf:X.fn x=true∨X.env.scope.names.lookup x=some .local:=by first|exact .inl rfl|exact .inr rfl|assumption):PG X (.Name x pos) (IS i):=by
 intro pins s σ H v u Q I r h
 exact wpAny_assign_Name (ET I hN hi hx r (fun s' I'=>⟨_,H,I',h⟩) hf)
def adi:TGs:=fun vs σ H Q=>vs=[]∧Q σ H
def TM (t:TG) (u:TGs):TGs:=fun vs σ H Q=>∃v r,vs=v::r∧t v σ H fun σ' H'=>u r σ' H' Q
theorem WO:PGs X [] adi:=by
 intro pins s σ H vs us Q I r h
 obtain⟨e,h⟩:=h
 subst e
 cases r
 exact assignInOrder_nil ⟨σ,H,I,h⟩
theorem L5 {e:Expr} {es:List Expr} {t:TG} {u:TGs} (h1:PG X e t) (h2:PGs X es u)
 (hs:(assignEach (e::es) X.env).map (·.2)=assign e X.env::(assignEach es X.env).map (·.2):=by rfl):PGs X (e::es) (TM t u):=by
 intro pins s σ H vs us Q I r h
 obtain⟨v,vr,e1,h⟩:=h
 subst e1
 cases r with
 |cons r rr =>
  rw[hs]
  refine assignInOrder_cons (dj (h1 pins s σ H _ _ _ I r h) fun _ s1 ⟨σ1,H1,I1,q1⟩=>?_)
  exact h2 pins s1 σ1 H1 _ _ Q I1 rr q1
def adj (K:PySem.W.Frag) (n:Nat) (t:TGs):TG:=fun v σ H Q=>∃a xs,v = .ref a∧tS K H a xs∧xs.length=n∧t xs σ H Q
theorem aal {es:List Expr} {k:Nat} {t:TGs} {n:Nat} (hc:X.calm=true) (h:PGs X es t)
 (hn:(assignEach es X.env).length=n:=by rfl) (jf:(assignEach es X.env).findIdx? (·.1)=none:=by rfl):PG X (.Tuple es k pos) (adj X.K n t):=by
 intro pins s σ H v u Q I r hw
 obtain⟨a,xs,e1,hq,hl,hw⟩:=hw
 subst e1
 cases r
 obtain⟨bt,rv,ht,hz⟩:=I.tuple hq
 refine assign_Tuple_tuple (I.ok.hd hc) ht (by simp[hn,←hl,rv.length]) jf fun h' hx=>?_
 have I1:Inv X pins σ H {s with heap:=h'}:=I.kept (t':=s.toks) fun b o e=>hx b o (Nat.ne_of_lt (Heap.lt_size e)) e
 exact h pins _ σ H xs _ Q I1 (by simpa using rv) hw
def agH (to ti:TE) (t:aak):TG:=fun v σ H Q=>to σ H fun o H1=>ti σ H1 fun i H2=>t o i v H2 fun H3=>Q σ H3
theorem TN {o i:Expr} {to ti:TE} {t:aak} (ho:PE X o to) (hi:PE X i ti) (hs:adh X t)
 (ha:∀v,assign (.Subscript o i pos) X.env v=(do
  let ov ←holding [v] (eval o X.env)
  let iv ←holding [v,ov] (eval i X.env)
  standAt pos
  holding [v,ov,iv] (setItem ov iv v)
  release [v,ov,iv] []):=by intro _;rfl):PG X (.Subscript o i pos) (agH to ti t):=by
 intro pins s σ H v u Q I r h
 rw[ha]
 refine wpAny_bind (wpAny_holding (dj (ho pins s σ H _ I h) fun ov s1 ⟨x,H1,I1,r1,q1⟩=>?_))
 refine wpAny_bind (wpAny_holding (dj (hi pins s1 σ H1 _ I1 q1) fun iv s2 ⟨y,H2,I2,r2,q2⟩=>?_))
 refine wpAny_bind (wpAny_standAt (wpAny_bind (wpAny_holding (dj (hs pins s2 σ H2 x y v ov iv u _ I2 r1 r2 r q2) fun _ s3 ⟨H3,I3,q3⟩=>?_))))
 exact wpAny_release ⟨σ,H3,I3,q3⟩
def aam (te:TE) (g:TG):TS:=fun D σ H=>te σ H fun x H1=>g x σ H1 D.nx
theorem TQ {tg e:Expr} {te:TE} {g:TG} (he:PE X e te) (hg:PG X tg g) (hs:swapsWithSole [tg] e pos.line X.env=pure false:=by rfl) (hw:swappedStores [tg] e X.env=pure none:=by rfl)
 (h1:(assignEach [tg] X.env).map (·.2)=[assign tg X.env]:=by rfl):PS X (.Assign [tg] e pos) (aam te g):=by
 intro pins s σ H D I h
 refine wpAny_Assign_stores (dj (he pins s σ H _ I h) fun v s1 ⟨x,H1,I1,r1,q1⟩=>?_) hs hw
 rw[h1]
 exact dj (hg pins s1 σ H1 x v _ I1 r1 q1) fun _ s2 q=>q
theorem aI {i:Nat} {x:Str} {e:Expr} {te:TE} {pos':Pos} (hN:X.N.Nodup) (hi:X.N[i]?=some x) (hx:Loc X.env.scope x) (he:PE X e te) (hs:swapsWith e (some (.Name x pos')) pos.line X.env=pure false:=by rfl) (hf:X.fn x=true∨X.env.scope.names.lookup x=some .local:=by first|exact .inl rfl|exact .inr rfl|assumption) :
 PS X (.Assign [.Name x pos'] e pos) (aam te (IS i)):=by
 intro pins s σ H D I h
 refine wpAny_Assign_Name (dj (he pins s σ H _ I h) fun v s1 ⟨y,H1,I1,r1,q1⟩=>?_) hs
 exact ET I1 hN hi hx r1 (fun s2 I2=>⟨_,H1,I2,q1⟩) hf
def agI (i:Nat) (te:TE) (ti:TIp):TS:=fun D σ H=>∃x,σ[i]?=some (some x)∧te σ H fun y H1=>ti x y H1 fun z H2=>D.nx (σ.set i (some z)) H2
theorem N8 {i:Nat} {x:Str} {e:Expr} {te:TE} {op:Operator} {ti:TIp} {pos':Pos} (hN:X.N.Nodup) (hi:X.N[i]?=some x) (hx:Loc X.env.scope x) (he:PE X e te) (ho:PIp X op ti) (hf:X.fn x=true∨X.env.scope.names.lookup x=some .local:=by first|exact .inl rfl|exact .inr rfl|assumption) :
 PS X (.AugAssign (.Name x pos') op e pos) (agI i te ti):=by
 intro pins s σ H D I h
 obtain⟨v,e1,h⟩:=h
 obtain⟨m,hn,hl⟩:=I.loc
 have vis:Vis X.env.scope x:=by rcases hx with k|k;exact .inl k;exact .inr (.inl k)
 obtain⟨u,r,l⟩:=hl i x v hi e1 vis
 refine wpAny_AugAssign_Name ?_
 have go:wpAny (model X.prog X.w) X.A (eval e X.env) (fun w s₂=>wpAny (model X.prog X.w) X.A (inplaceOp op u w) (fun r s₃=>wpAny (model X.prog X.w) X.A (storeName X.env x r) (fun _=>SP X pins D .next) X.xe s₃) X.xe s₂) X.xe s:=by
  refine dj (he pins s σ H _ I h) fun w s1 ⟨y,H1,I1,r1,q1⟩=>?_
  refine dj (ho pins s1 σ H1 v y u w _ I1 r r1 q1) fun z s2 ⟨zv,H2,I2,r2,q2⟩=>?_
  exact ET I2 hN hi hx r2 (fun s3 I3=>⟨_,H2,I3,q2⟩) hf
 rcases l with⟨hk,hm⟩|⟨hk,c,hc,Qy⟩
 ·exact wpAny_loadName_local I.ok.kind hk hn hm go
 ·rcases hk with hk|hk
  ·exact wpAny_loadName_cell I.ok.kind hk hc Qy go
  ·rcases hx with k|k
   ·have:X.env.scope.names.lookup x=some .free:=hk
    rw[k]at this;cases this
   ·have:X.env.scope.names.lookup x=some .free:=hk
    rw[k]at this;cases this
def ipI (f:Int→Int→Int):TIp:=fun x y H Q=>∃i j,x = .int i∧y = .int j∧Q (.int (f i j)) H
theorem aan:PIp X .Add (ipI fun i j=>i+j):=by
 intro pins s σ H x y v u Q I r1 r2 h
 obtain⟨i,j,e1,e2,q⟩:=h
 subst e1;subst e2
 obtain⟨t,rfl⟩:=r1
 obtain⟨t',rfl⟩:=r2
 exact iadd_int ⟨.int _,H,I.tok _,⟨_,rfl⟩,q⟩
theorem aao:PIp X .Sub (ipI fun i j=>i-j):=by
 intro pins s σ H x y v u Q I r1 r2 h
 obtain⟨i,j,e1,e2,q⟩:=h
 subst e1;subst e2
 obtain⟨t,rfl⟩:=r1
 obtain⟨t',rfl⟩:=r2
 exact isub_int ⟨.int _,H,I.tok _,⟨_,rfl⟩,q⟩
end
section
variable {X:Cx} {pos:Pos}
def aap (c:TT) (tb:TS):TS:=fun D σ H=>∃W:Nat→St→Hp→Prop,(∃m,W m σ H)∧∀m σ H,W m σ H →
 c σ H fun b H1=>if b=true then ∃N:St→Hp→Prop,(∀σ' H',N σ' H'→∃m',m'<m∧W m' σ' H')∧tb {D with nx:=N,ct:=N,bk:=D.nx} σ H1 else D.nx σ H1
theorem qt {c:Expr} {body:List Stmt} {tc:TT} {tb:TS} (hp:PassesOwn (model X.prog X.w) X.A X.env X.xe) (hc:PT X c tc) (hb:RH X body tb):PS X (.While c body [] pos) (aap tc tb):=by
 intro pins s σ H D I h
 obtain⟨W,⟨m0,w0⟩,turn⟩:=h
 refine wpAny_While (codeAny_whileLoop (fun n s'=>∃σ' H',Inv X pins σ' H' s'∧W n σ' H') ?_ m0 ⟨σ,H,I,w0⟩)
 rintro n s1 ⟨σ1,H1,I1,w1⟩
 refine wpAny_passesOwn hp (dj (hc pins s1 σ1 H1 _ I1 (turn n σ1 H1 w1)) fun b s2 ⟨H2,I2,q2⟩=>?_)
 cases b with
 |true =>
  obtain⟨N,hN,q2⟩:=q2
  rw[if_pos rfl]
  refine wpAny_passesOwn hp (dj (hb pins s2 σ1 H2 _ I2 q2) fun f s3 q3=>?_)
  cases f with
  |next =>
   obtain⟨σ3,H3,I3,n3⟩:=q3
   obtain⟨m',hm,w3⟩:=hN σ3 H3 n3
   exact⟨m',hm,σ3,H3,I3,w3⟩
  |cont =>
   obtain⟨σ3,H3,I3,n3⟩:=q3
   obtain⟨m',hm,w3⟩:=hN σ3 H3 n3
   exact⟨m',hm,σ3,H3,I3,w3⟩
  |brk=>exact q3
  |ret v=>exact q3
 |false =>
  rw[if_neg Bool.false_ne_true]
  exact wpAny_execs_nil ⟨σ1,H2,I2,q2⟩
end
structure It where
 go:Nat→Hp→Prop
 WQ:Nat→Hp→V→Hp→Prop
 stop:Nat→Hp→Prop
def yo (X:Cx) (pins:List (Addr×Obj)) (H:Hp) (b:Addr):Prop :=
 H b=none∧b≠X.env.locals∧b∉X.fs∧(b∈X.ex∨X.s₀.heap.objs.size≤b)∧(∀x c,X.env.cells.lookup x=some c→c≠b)∧∀p∈X.pn++pins,p.1≠b
theorem Inv.L6 {X:Cx} {pins:List (Addr×Obj)} {σ:St} {H H':Hp} {s:Shared} {b:Addr} (I:Inv X pins σ H s) (hb:s.heap.objs.size≤b) (hn:H' b=none):yo X pins H' b:=by
 refine⟨hn,Nat.ne_of_gt (Nat.lt_of_lt_of_le I.lt hb),I.aad hb,.inr (Nat.le_trans I.sz hb),fun x c e z=>?_,fun p hp z=>?_⟩
 ·obtain⟨v,q⟩:=I.cell x c e
  exact absurd (Nat.lt_of_lt_of_le q.lt (by rw[z];exact hb)) (Nat.lt_irrefl _)
 ·exact absurd (Nat.lt_of_lt_of_le (Heap.lt_size (I.pin p hp).1) (by rw[z];exact hb)) (Nat.lt_irrefl _)
structure Turn (P:Program) (w:World) (K:PySem.W.Frag) (tg:Expr) (J:It) (fp:List Addr) (it:Addr) (tn:Nat→Heap→Prop):Prop where
 mem:it∈fp
 obj:∀i h,tn i h→∀b∈fp,∃o,h.get? b=some o∧∀v,o.data≠.cell v
 keep:∀i h h',tn i h→(∀b∈fp,∀o,h.get? b=some o→h'.get? b=some o)→tn i h'
 item:∀(X:Cx),X.prog=P→X.w=w→X.K=K→X.calm=true→∀(i:Nat) (pins:List (Addr×Obj)) (s:Shared) (σ:St) (H:Hp) (E:Value→Shared→Prop),Inv X pins σ H s→(∀b∈fp,yo X pins H b)→tn i s.heap→J.go i H →
  wpAny (model P w) X.A (pyNext (.ref it)) (fun r s1=>∃u,r=some u ∧
   wpAny (model P w) X.A (letOwnedTupleGo tg (.ref it) u) (fun _ s2=>∃x H',Inv X pins σ H' s2∧RelV x u∧J.WQ i H x H'∧tn (i+1) s2.heap∧∀b∈fp,H' b=none) E s1) E s
 done:∀(X:Cx),X.prog=P→X.w=w→X.K=K→X.calm=true→∀(i:Nat) (pins:List (Addr×Obj)) (s:Shared) (σ:St) (H:Hp) (E:Value→Shared→Prop),Inv X pins σ H s→(∀b∈fp,yo X pins H b)→tn i s.heap→J.stop i H →
  wpAny (model P w) X.A (pyNext (.ref it)) (fun r s1=>r=none∧Inv X pins σ H s1) E s
 self:∀(A:Around) (i:Nat) (s:Shared) (Q:Value→Shared→Prop) (E:Value→Shared→Prop),tn i s.heap→Q (.ref it) s→wpAny (model P w) A (pyIter (.ref it)) Q E s
abbrev TI:=St→Hp→(It→Hp→Prop)→Prop
def PIE (X:Cx) (pins:List (Addr×Obj)) (σ:St) (tg:Expr) (R:It→Hp→Prop) (itv:Value) (s2:Shared):Prop :=
 ∃(it:Addr) (fp:List Addr) (tn:Nat→Heap→Prop) (J:It) (H':Hp),itv = .ref it∧Inv X pins σ H' s2∧Turn X.prog X.w X.K tg J fp it tn∧tn 0 s2.heap∧(∀b∈fp,yo X pins H' b)∧R J H'
def PI (X:Cx) (tg iter:Expr) (wi:TI):Prop :=
 ∀(pins:List (Addr×Obj)) (s:Shared) (σ:St) (H:Hp) (R:It→Hp→Prop),Inv X pins σ H s→wi σ H R →
  wpAny (model X.prog X.w) X.A (eval iter X.env) (fun v s1=>wpAny (model X.prog X.w) X.A (pyIter v) (PIE X pins σ tg R) X.xe s1) X.xe s
theorem QB {M:Model} {A:Around} {E:Value→Shared→Prop} {s:Shared} {tg:Expr} {it:Addr} {u:Value} {o:Obj} {n:String} {vs:Array Value} {Q:Unit→Shared→Prop} (ho:s.heap.get? it=some o) (hc:o.cls = .type n) (hd:o.data = .fields vs)
 (hn:["enumerate","zip","dict_itemiterator","dict_reverseitemiterator","odict_iterator","itertools.zip_longest","itertools.pairwise"].contains n=false) (hQ:Q () s):wpAny M A (letOwnedTupleGo tg (.ref it) u) Q E s:=by
 unfold letOwnedTupleGo
 cases tg<;>first
  |exact wpAny_pure hQ
  |(cases u<;>first
     |exact wpAny_pure hQ
     |(refine wpAny_bind (wpAny_load ho ?_)
       rw[hc,hd]
       show wpAny M A (if (["enumerate","zip","dict_itemiterator","dict_reverseitemiterator","odict_iterator","itertools.zip_longest","itertools.pairwise"].contains n&&vs[0]?==some (rawInt _))=true then _ else _) Q E s
       rw[if_neg (by intro h;rw[hn,Bool.false_and]at h;cases h)]
       exact wpAny_pure hQ))
def Zf (K:PySem.W.Frag) (a:Addr):It :=
 ⟨fun i H=>∃xs x,bO K H a xs∧xs[i]?=some x,fun i H x H'=>H'=H∧∀xs,bO K H a xs→xs[i]?=some x,fun i H=>∃xs,bO K H a xs∧xs.length≤i⟩
def Itt (K:PySem.W.Frag) (a:Addr):It :=
 ⟨fun i H=>∃xs x,tS K H a xs∧xs[i]?=some x,fun i H x H'=>H'=H∧∀xs,tS K H a xs→xs[i]?=some x,fun i H=>∃xs,tS K H a xs∧xs.length≤i⟩
def Itr (lo:Int) (n:Nat):It:=⟨fun i _=>i<n,fun i H x H'=>H'=H∧x = .int (lo+i),fun i _=>n≤i⟩
theorem RJ {P:Program} {w:World} {K:PySem.W.Frag} {tg:Expr} (a it:Addr):Turn P w K tg (Zf K a) [it] it (fun i h=>h.IsListIter it a i) where
 mem:=by simp
 obj:=fun i h st b hb=>by
  have e:b=it:=by simpa using hb
  subst e
  obtain⟨o,e,c,d⟩:=st
  exact⟨o,e,fun v z=>by rw[d]at z;cases z⟩
 keep:=fun i h h' st k=>st.at fun o e=>k it (by simp) o e
 item:=by
  intro X hP hw hK hc i pins s σ H E I hf st hg
  subst hP hw hK
  obtain⟨xs,x,hq,hx⟩:=hg
  obtain⟨bt,rv,p,hz⟩:=I.list hq
  obtain⟨u,hu,ru⟩:=rv.get hx
  obtain⟨f0,f1,f2,f3,f4,f5⟩:=hf it (by simp)
  refine wpAny_pyNext_list_item st p.isList (x:=u) (by simpa using hu) fun h' JY sb=>?_
  have I1:Inv X pins σ H {s with heap:=h'}:=I.turned (t':=s.toks) (fun b o hb e=>(sb.2 b hb).trans e) f0 f1 f3 f4 f5
  obtain⟨o,e,c,d⟩:=id JY
  exact⟨u,rfl,QB (s:={s with heap:=h'}) e c d (by decide) ⟨x,H,I1,ru,⟨rfl,fun ys hy=>by rw[I.zL hy hq];exact hx⟩,JY,fun b hb=>(hf b hb).1⟩⟩
 done:=by
  intro X hP hw hK hc i pins s σ H E I hf st hg
  subst hP hw hK
  obtain⟨xs,hq,hx⟩:=hg
  obtain⟨bt,rv,p,hz⟩:=I.list hq
  obtain⟨f0,f1,f2,f3,f4,f5⟩:=hf it (by simp)
  have hl:=rv.length
  exact wpAny_pyNext_list_end (I.ok.hd hc) st p.isList (by simp;omega) fun h' eb=>⟨rfl,I.turned (t':=s.toks) (fun b o hb e=>eb b o hb e) f0 f1 f3 f4 f5⟩
 self:=fun _ _ _ _ _ st h=>wpAny_pyIter_listiter st h
theorem N9 {P:Program} {w:World} {K:PySem.W.Frag} {tg:Expr} (a it:Addr):Turn P w K tg (Itt K a) [it] it (fun i h=>h.IsTupleIter it a i) where
 mem:=by simp
 obj:=fun i h st b hb=>by
  have e:b=it:=by simpa using hb
  subst e
  obtain⟨o,e,c,d⟩:=st
  exact⟨o,e,fun v z=>by rw[d]at z;cases z⟩
 keep:=fun i h h' st k=>st.at fun o e=>k it (by simp) o e
 item:=by
  intro X hP hw hK hc i pins s σ H E I hf st hg
  subst hP hw hK
  obtain⟨xs,x,hq,hx⟩:=hg
  obtain⟨bt,rv,p,hz⟩:=I.tuple hq
  obtain⟨u,hu,ru⟩:=rv.get hx
  obtain⟨f0,f1,f2,f3,f4,f5⟩:=hf it (by simp)
  refine wpAny_pyNext_tuple_item st (show s.heap.IsTuple a bt.toArray from p) (x:=u) (by simpa using hu) fun h' JY sb=>?_
  have I1:Inv X pins σ H {s with heap:=h'}:=I.turned (t':=s.toks) (fun b o hb e=>(sb.2 b hb).trans e) f0 f1 f3 f4 f5
  obtain⟨o,e,c,d⟩:=id JY
  exact⟨u,rfl,QB (s:={s with heap:=h'}) e c d (by decide) ⟨x,H,I1,ru,⟨rfl,fun ys hy=>by rw[I.RI hy hq];exact hx⟩,JY,fun b hb=>(hf b hb).1⟩⟩
 done:=by
  intro X hP hw hK hc i pins s σ H E I hf st hg
  subst hP hw hK
  obtain⟨xs,hq,hx⟩:=hg
  obtain⟨bt,rv,p,hz⟩:=I.tuple hq
  obtain⟨f0,f1,f2,f3,f4,f5⟩:=hf it (by simp)
  have hl:=rv.length
  exact wpAny_pyNext_tuple_end (I.ok.hd hc) st (show s.heap.IsTuple a bt.toArray from p) (by simp;omega) fun h' eb=>⟨rfl,I.turned (t':=s.toks) (fun b o hb e=>eb b o hb e) f0 f1 f3 f4 f5⟩
 self:=fun _ _ _ _ _ st h=>wpAny_pyIter_tupleiter st h
theorem Oa {P:Program} {w:World} {K:PySem.W.Frag} {tg:Expr} (it:Addr) (lo:Int) (n:Nat):Turn P w K tg (Itr lo n) [it] it (fun i h=>IsRangeIter h it (lo+(i:Nat)*1) ((n:Int)-(i:Nat)) 1) where
 mem:=by simp
 obj:=fun i h st b hb=>by
  have e:b=it:=by simpa using hb
  subst e
  exact⟨_,st,fun v z=>by
   have z':Data.fields _=Data.cell v:=z
   cases z'⟩
 keep:=fun i h h' st k=>k it (by simp) _ st
 item:=by
  intro X hP hw hK hc i pins s σ H E I hf st hg
  subst hP hw hK
  obtain⟨f0,f1,f2,f3,f4,f5⟩:=hf it (by simp)
  have W:=Walks.range (prog:=X.prog) (w:=X.w) (I.ok.hd hc) it lo 1 n
  refine W.item i s _ _ hg st fun v h' tk hv JY kk=>?_
  obtain⟨t,rfl⟩:=hv
  have I1:Inv X pins σ H {s with heap:=h',toks:=tk}:=I.turned (fun b o hb e=>kk b o (by simpa using hb) e) f0 f1 f3 f4 f5
  refine⟨_,rfl,QB (s:={s with heap:=h',toks:=tk}) (n := "range_iterator") JY rfl rfl (by decide) ⟨.int (lo+i),H,I1,⟨t,?_⟩,⟨rfl,rfl⟩,JY,fun b hb=>(hf b hb).1⟩⟩
  rw[Int.mul_one]
 done:=by
  intro X hP hw hK hc i pins s σ H E I hf st hg
  subst hP hw hK
  obtain⟨f0,f1,f2,f3,f4,f5⟩:=hf it (by simp)
  exact wpAny_pyNext_range_end (I.ok.hd hc) st (by have:n≤i:=hg;omega) fun h' eb=>⟨rfl,I.turned (t':=s.toks) (fun b o hb e=>eb b o hb e) f0 f1 f3 f4 f5⟩
 self:=fun _ _ _ _ _ st h=>wpAny_pyIter_rangeiter st h
end L2
namespace L2
open PySem PySem.Spec PyProof.Rows
section
variable {X:Cx} {tg:Expr}
def adl (K:PySem.W.Frag) (tl:TE):TI:=fun σ H R=>tl σ H fun x H1=>∃a,x = .ref a∧(∃xs,bO K H1 a xs)∧R (Zf K a) H1
def agK (K:PySem.W.Frag) (tl:TE):TI:=fun σ H R=>tl σ H fun x H1=>∃a,x = .ref a∧(∃xs,tS K H1 a xs)∧R (Itt K a) H1
theorem lh {l:Expr} {tl:TE} (hl:PE X l tl):PI X tg l (adl X.K tl):=by
 intro pins s σ H R I h
 refine dj (hl pins s σ H _ I h) fun v s1 ⟨x,H1,I1,r1,q1⟩=>?_
 obtain⟨a,e,⟨xs,hq⟩,q⟩:=q1
 subst e
 cases r1
 obtain⟨bt,rv,p,hz⟩:=I1.list hq
 refine wpAny_pyIter_list p.isList ?_
 refine⟨s1.heap.objs.size,[s1.heap.objs.size],_,_,H1,rfl,I1.kept (t':=s1.toks) fun b o e=>Heap.get?_push_of_some _ e,RJ a _,⟨_,Heap.get?_push_size _ rfl,rfl,rfl⟩,fun b hb=>?_,q⟩
 have e:b=s1.heap.objs.size:=by simpa using hb
 subst e
 exact I1.L6 (Nat.le_refl _) (I1.cD.fresh (Nat.le_refl _))
theorem aar {l:Expr} {tl:TE} (hl:PE X l tl):PI X tg l (agK X.K tl):=by
 intro pins s σ H R I h
 refine dj (hl pins s σ H _ I h) fun v s1 ⟨x,H1,I1,r1,q1⟩=>?_
 obtain⟨a,e,⟨xs,hq⟩,q⟩:=q1
 subst e
 cases r1
 obtain⟨bt,rv,p,hz⟩:=I1.tuple hq
 refine wpAny_pyIter_tuple (show s1.heap.IsTuple a bt.toArray from p) ?_
 refine⟨s1.heap.objs.size,[s1.heap.objs.size],_,_,H1,rfl,I1.kept (t':=s1.toks) fun b o e=>Heap.get?_push_of_some _ e,N9 a _,⟨_,Heap.get?_push_size _ rfl,rfl,rfl⟩,fun b hb=>?_,q⟩
 have e:b=s1.heap.objs.size:=by simpa using hb
 subst e
 exact I1.L6 (Nat.le_refl _) (I1.cD.fresh (Nat.le_refl _))
theorem L7 {pins:List (Addr×Obj)} {σ:St} {H:Hp} {s:Shared} {R:It→Hp→Prop} {E:Value→Shared→Prop} {lo hi:Int} {t u v:Tok} {tk:Nat} (I:Inv X pins σ H s) (h1:-(2^62)≤lo) (h2:lo<2^62) (h3:-(2^62)≤hi) (h4:hi<2^62)
 (q:R (Itr lo (hi-lo).toNat) H):wpAny (model X.prog X.w) X.A (pyIter (.ref s.heap.objs.size)) (PIE X pins σ tg R) E {s with heap:=s.heap.push {cls:=.type "range",data:=.fields #[.int lo t,.int hi u,.int 1 v]},toks:=tk}:=by
 refine wpAny_pyIter_range (IsRange.new ..) (small_one h1 h2 h3 h4) ?_
 have I1:Inv X pins σ H {s with heap:=s.heap.push {cls:=.type "range",data:=.fields #[.int lo t,.int hi u,.int 1 v]},toks:=tk}:=I.kept fun b o e=>Heap.get?_push_of_some _ e
 refine⟨(s.heap.push {cls:=.type "range",data:=.fields #[.int lo t,.int hi u,.int 1 v]}).objs.size,[(s.heap.push {cls:=.type "range",data:=.fields #[.int lo t,.int hi u,.int 1 v]}).objs.size],_,_,H,rfl,
  I1.kept (t':=tk) fun b o e=>Heap.get?_push_of_some _ e,Oa _ lo (hi-lo).toNat,?_,fun b hb=>?_,q⟩
 ·have e1:lo+((0:Nat):Int)*1=lo:=by simp
  have e2:(((hi-lo).toNat:Nat):Int)-((0:Nat):Int)=Builtin.Range.rangeSize lo hi 1:=by rw[rangeSize_one];split<;>omega
  show IsRangeIter _ _ (lo+((0:Nat):Int)*1) ((((hi-lo).toNat:Nat):Int)-((0:Nat):Int)) 1
  rw[e1,e2]
  exact Heap.get?_push_size _ rfl
 ·have e:b=(s.heap.push {cls:=.type "range",data:=.fields #[.int lo t,.int hi u,.int 1 v]}).objs.size:=by simpa using hb
  subst e
  exact I1.L6 (Nat.le_refl _) (I1.cD.fresh (Nat.le_refl _))
def adm (ta:TA):TI:=fun σ H R=>ta σ H fun vs H1=>∃j:Int,vs=[.int j]∧-(2^62)≤j∧j<2^62∧R (Itr 0 j.toNat) H1
def adn (ta:TA):TI:=fun σ H R=>ta σ H fun vs H1=>∃i j:Int,vs=[.int i,.int j]∧(-(2^62)≤i∧i<2^62∧-(2^62)≤j∧j<2^62)∧R (Itr i (j-i).toNat) H1
theorem BA {a:Expr} {ta:TA} {p pos:Pos} (hg:Gl X "range") (hm:X.mg "range" = none) (ha:PA X [a] ta) (hs:starEach [a] X.env=[(false,eval a X.env)]:=by rfl):PI X tg (.Call (.Name "range" p) [a] [] pos) (adm ta):=by
 intro pins s σ H R I h
 refine Call_ (rp I hg hm boot_range (PyProof.Rows.callWith_type1 (dj (ha pos pins s σ H _ I h) fun us s1 ⟨vs,H1,I1,r1,q1⟩=>?_) hs rfl))
 obtain⟨j,e,q1,q2,q⟩:=q1
 subst e
 cases r1 with
 |cons r rr =>
  cases rr
  obtain⟨t,rfl⟩:=r
  exact call_range_1 (L7 I1 (by omega) (by omega) q1 q2 (by simpa using q))
theorem IT {a b:Expr} {ta:TA} {p pos:Pos} (hg:Gl X "range") (hm:X.mg "range" = none) (ha:PA X [a,b] ta) (hs:starEach [a,b] X.env=[(false,eval a X.env),(false,eval b X.env)]:=by rfl) (Zg:starEach [b] X.env=[(false,eval b X.env)]:=by rfl) :
 PI X tg (.Call (.Name "range" p) [a,b] [] pos) (adn ta):=by
 intro pins s σ H R I h
 refine Call_ (rp I hg hm boot_range (PyProof.Rows.callWith_type1 (dj (ha pos pins s σ H _ I h) fun us s1 ⟨vs,H1,I1,r1,q1⟩=>?_) (by rw[hs,Zg]) (by rw[Zg];rfl)))
 obtain⟨i,j,e,⟨q1,q2,q3,q4⟩,q⟩:=q1
 subst e
 cases r1 with
 |cons r rr =>
  cases rr with
  |cons r' rr =>
   cases rr
   obtain⟨t,rfl⟩:=r
   obtain⟨t',rfl⟩:=r'
   exact call_range_2 (L7 I1 q1 q2 q3 q4 q)
def agL (wi:TI) (g:TG) (tb:TS):TS:=fun D σ H=>wi σ H fun J H1=>∃W:Nat→Nat→St→Hp→Prop,(∃m,W 0 m σ H1)∧∀i m σ H,W i m σ H →
 (J.stop i H∧D.nx σ H)∨(J.go i H∧∃N:St→Hp→Prop,(∀σ' H',N σ' H'→∃m',m'<m∧W (i+1) m' σ' H')∧∀x H',J.WQ i H x H'→g x σ H' fun σ2 H2=>tb {D with nx:=N,ct:=N,bk:=D.nx} σ2 H2)
def BB (fp:List Addr) (h:Heap):List (Addr×Obj):=fp.filterMap fun b=>(h.get? b).map fun o=>(b,o)
theorem rq {fp:List Addr} {h:Heap} {b:Addr} {o:Obj} (hb:b∈fp) (e:h.get? b=some o):(b,o)∈BB fp h:=List.mem_filterMap.mpr ⟨b,hb,by rw[e];rfl⟩
theorem RK {fp:List Addr} {h:Heap} {p:Addr×Obj} (hp:p∈BB fp h):p.1∈fp∧h.get? p.1=some p.2:=by
 obtain⟨b,hb,e⟩:=List.mem_filterMap.mp hp
 cases q:h.get? b with
 |none=>rw[q]at e;cases e
 |some o =>
  rw[q]at e
  have e':(b,o)=p:=Option.some.inj e
  subst e'
  exact⟨hb,q⟩
theorem Inv.pinned {pins:List (Addr×Obj)} {σ:St} {H:Hp} {s:Shared} {fp:List Addr} (I:Inv X pins σ H s) (hf:∀b∈fp,yo X pins H b) (ho:∀b∈fp,∃o,s.heap.get? b=some o∧∀v,o.data≠.cell v):Inv X (pins++BB fp s.heap) σ H s :=
 I.Qx fun p hp=>(List.mem_append.mp hp).elim (fun z=>I.pin p (List.mem_append_right _ z)) fun z=>by
  obtain⟨hb,e⟩:=RK z
  obtain⟨f0,f1,f2,_⟩:=hf p.1 hb
  obtain⟨o,e',d⟩:=ho p.1 hb
  rw[e]at e';cases e'
  exact⟨e,f0,f1,f2,d⟩
theorem Inv.uc {pins pl:List (Addr×Obj)} {σ:St} {H:Hp} {s:Shared} (I:Inv X (pins++pl) σ H s):Inv X pins σ H s:=I.Qx fun p hp=>I.pin p (List.mem_append_right _ (List.mem_append_left _ hp))
theorem l7 {iter:Expr} {body:List Stmt} {wi:TI} {g:TG} {tb:TS} {pos:Pos} (hp:PassesOwn (model X.prog X.w) X.A X.env X.xe) (hc:X.calm=true) (hi:PI X tg iter wi) (hg:PG X tg g) (hb:RH X body tb)
 (hs:∀x,foldedSetIterable iter X.env x=pure x:=by intro _;rfl):PS X (.For tg iter body [] pos) (agL wi g tb):=by
 intro pins s σ H D I h
 refine wpAny_For (dj (hi pins s σ H _ I h) fun v s1 h1=>dj h1 fun itv s2 h2=>?_) hs
 obtain⟨it,fp,tn,J,H2,e,I2,T,st2,f2,W,⟨m0,w0⟩,turn⟩:=h2
 subst e
 have EX:∀{H':Hp},(∀b∈fp,H' b=none)→∀b∈fp,yo X pins H' b:=fun hn b hb=>⟨hn b hb,(f2 b hb).2⟩
 refine codeAny_forLoop_any (fun n s'=>∃i σ' H',Inv X pins σ' H' s'∧tn i s'.heap∧(∀b∈fp,H' b=none)∧W i n σ' H') ?_ m0 ⟨0,σ,H2,I2,st2,fun b hb=>(f2 b hb).1,w0⟩
 rintro n s3 ⟨i,σ3,H3,I3,st3,fr3,w3⟩
 rcases turn i n σ3 H3 w3 with⟨stop,qn⟩|⟨go,N,hN,step⟩
 ·refine wpAny_passesOwn hp (dj (T.done X rfl rfl rfl hc i pins s3 σ3 H3 X.xe I3 (EX fr3) st3 stop) fun r s4 ⟨hr,I4⟩=>?_)
  subst hr
  exact wpAny_execs_nil ⟨σ3,H3,I4,qn⟩
 ·refine wpAny_passesOwn hp (dj (T.item X rfl rfl rfl hc i pins s3 σ3 H3 X.xe I3 (EX fr3) st3 go) fun r s4 ⟨u,hr,h4⟩=>?_)
  subst hr
  refine wpAny_passesOwn hp (dj h4 fun _ s5 ⟨x,H5,I5,r5,y5,WR,fr5⟩=>?_)
  have I5':=I5.pinned (EX fr5) (T.obj _ _ WR)
  refine wpAny_passesOwn hp (dj (hg _ s5 σ3 H5 x u _ I5' r5 (step x H5 y5)) fun _ s6 ⟨σ6,H6,I6,q6⟩=>?_)
  refine wpAny_passesOwn hp (dj (hb _ s6 σ6 H6 _ I6 q6) fun f s7 q7=>?_)
  have again:∀{σ7:St} {H7:Hp},Inv X (pins++BB fp s5.heap) σ7 H7 s7→N σ7 H7→∃m,m<n∧∃i σ' H',Inv X pins σ' H' s7∧tn i s7.heap∧(∀b∈fp,H' b=none)∧W i m σ' H':=fun{σ7 H7} I7 n7=>by
   obtain⟨m',hm,w7⟩:=hN σ7 H7 n7
   refine⟨m',hm,i+1,σ7,H7,I7.uc,T.keep _ _ _ WR fun b hb o e=>(I7.pin (b,o) (List.mem_append_right _ (List.mem_append_right _ (rq hb e)))).1,fun b hb=>?_,w7⟩
   obtain⟨o,e,d⟩:=T.obj _ _ WR b hb
   exact(I7.pin (b,o) (List.mem_append_right _ (List.mem_append_right _ (rq hb e)))).2.1
  cases f with
  |next=>obtain⟨σ7,H7,I7,n7⟩:=q7;exact again I7 n7
  |cont=>obtain⟨σ7,H7,I7,n7⟩:=q7;exact again I7 n7
  |brk=>obtain⟨σ7,H7,I7,q7⟩:=q7;exact⟨σ7,H7,I7.uc,q7⟩
  |ret v=>obtain⟨x7,σ7,H7,I7,r7,q7⟩:=q7;exact⟨x7,σ7,H7,I7.uc,r7,q7⟩
end
theorem ud {K:PySem.W.Frag} {a:Addr} {xs:List V} {g:TG} {tb:TS} {D:Ends} {σ:St} {H:Hp} (Pv:Nat→St→Hp→Prop) (h0:Pv 0 σ H) (hl:∀i σ H,i≤xs.length→Pv i σ H→bO K H a xs)
 (hs:∀i x σ H,xs[i]?=some x→Pv i σ H→g x σ H fun σ2 H2=>tb {D with nx:=Pv (i+1),ct:=Pv (i+1),bk:=D.nx} σ2 H2) (hd:∀σ H,Pv xs.length σ H→D.nx σ H) :
 ∃W:Nat→Nat→St→Hp→Prop,(∃m,W 0 m σ H)∧∀i m σ H,W i m σ H →
  ((Zf K a).stop i H∧D.nx σ H)∨((Zf K a).go i H∧∃N:St→Hp→Prop,(∀σ' H',N σ' H'→∃m',m'<m∧W (i+1) m' σ' H')∧∀x H',(Zf K a).WQ i H x H'→g x σ H' fun σ2 H2=>tb {D with nx:=N,ct:=N,bk:=D.nx} σ2 H2):=by
 refine⟨fun i m σ H=>m=xs.length-i∧i≤xs.length∧Pv i σ H,⟨xs.length,by simp,Nat.zero_le _,h0⟩,?_⟩
 rintro i m σ H ⟨rfl,hi,p⟩
 have q:=hl i σ H hi p
 by_cases oQ:i<xs.length
 ·refine .inr ⟨⟨xs,xs[i],q,by simp[oQ]⟩,Pv (i+1),fun σ' H' p'=>⟨xs.length-(i+1),by omega,rfl,oQ,p'⟩,fun x H' y=>?_⟩
  obtain⟨e,y⟩:=y
  subst e
  exact hs i x σ _ (y xs q) p
 ·have e:i=xs.length:=by omega
  subst e
  exact .inl ⟨⟨xs,q,Nat.le_refl _⟩,hd σ H p⟩
theorem qu {lo:Int} {n:Nat} {g:TG} {tb:TS} {D:Ends} {σ:St} {H:Hp} (Pv:Nat→St→Hp→Prop) (h0:Pv 0 σ H)
 (hs:∀i σ H,i<n→Pv i σ H→g (.int (lo+i)) σ H fun σ2 H2=>tb {D with nx:=Pv (i+1),ct:=Pv (i+1),bk:=D.nx} σ2 H2) (hd:∀σ H,Pv n σ H→D.nx σ H) :
 ∃W:Nat→Nat→St→Hp→Prop,(∃m,W 0 m σ H)∧∀i m σ H,W i m σ H →
  ((Itr lo n).stop i H∧D.nx σ H)∨((Itr lo n).go i H∧∃N:St→Hp→Prop,(∀σ' H',N σ' H'→∃m',m'<m∧W (i+1) m' σ' H')∧∀x H',(Itr lo n).WQ i H x H'→g x σ H' fun σ2 H2=>tb {D with nx:=N,ct:=N,bk:=D.nx} σ2 H2):=by
 refine⟨fun i m σ H=>m=n-i∧i≤n∧Pv i σ H,⟨n,by simp,Nat.zero_le _,h0⟩,?_⟩
 rintro i m σ H ⟨rfl,hi,p⟩
 by_cases oQ:i<n
 ·refine .inr ⟨oQ,Pv (i+1),fun σ' H' p'=>⟨n-(i+1),by omega,rfl,oQ,p'⟩,fun x H' y=>?_⟩
  obtain⟨e,y⟩:=y
  subst e y
  exact hs i σ _ oQ p
 ·have e:i=n:=by omega
  subst e
  exact .inl ⟨Nat.le_refl _,hd σ H p⟩
end L2
namespace L2
open PySem PySem.Spec PyProof.Rows
abbrev R2:=V→V→Hp→VK→Prop
def zH (X:Cx) (f:Value→Value→Sem Value) (r:R2):Prop :=
 ∀(pins:List (Addr×Obj)) (s:Shared) (σ:St) (H:Hp) (x y:V) (v u:Value) (Q:VK),Inv X pins σ H s→RelV x v→RelV y u→r x y H Q →
  wpAny (model X.prog X.w) X.A (f v u) (EP X pins σ Q) X.xe s
def UnR (X:Cx) (f:Value→Sem Value) (r:V→Hp→VK→Prop):Prop :=
 ∀(pins:List (Addr×Obj)) (s:Shared) (σ:St) (H:Hp) (x:V) (v:Value) (Q:VK),Inv X pins σ H s→RelV x v→r x H Q →
  wpAny (model X.prog X.w) X.A (f v) (EP X pins σ Q) X.xe s
def oR (X:Cx) (f:Value) (r:List V→Hp→VK→Prop):Prop :=
 ∀(pins:List (Addr×Obj)) (s:Shared) (σ:St) (H:Hp) (xs:List V) (us:List Value) (Q:VK),Inv X pins σ H s→Vals xs us→r xs H Q →
  wpAny (model X.prog X.w) X.A (call f us) (EP X pins σ Q) X.xe s
def agN (X:Cx) (r:V→Hp→(Bool→Hp→Prop)→Prop):Prop :=
 ∀(pins:List (Addr×Obj)) (s:Shared) (σ:St) (H:Hp) (x:V) (v:Value) (Q:Bool→Hp→Prop),Inv X pins σ H s→RelV x v→r x H Q →
  wpAny (model X.prog X.w) X.A (truthy v) (TP X pins σ Q) X.xe s
def Zh (r:R2) (ta tb:TE):TE:=fun σ H Q=>ta σ H fun x H1=>tb σ H1 fun y H2=>r x y H2 Q
def tUn (r:V→Hp→VK→Prop) (ta:TE):TE:=fun σ H Q=>ta σ H fun x H1=>r x H1 Q
def rI (C:Int→Int→Prop) (g:Int→Int→V):R2:=fun x y H Q=>∃i j,x = .int i∧y = .int j∧C i j∧Q (g i j) H
def TR (g:Int→Int→V):R2:=fun x y H Q=>∃i j,x = .int i∧y = .int j∧Q (g i j) H
def rU (g:Int→V):V→Hp→VK→Prop:=fun x H Q=>∃i,x = .int i∧Q (g i) H
section
variable {X:Cx} {a b c:Expr} {ta tb tc:TE} {pos:Pos}
theorem aat (ha:PE X a ta) (hb:PE X b tb) {pins:List (Addr×Obj)} {s:Shared} {σ:St} {H:Hp} {R:V→V→Hp→Prop} (I:Inv X pins σ H s)
 (h:ta σ H fun x H1=>tb σ H1 fun y H2=>R x y H2) {Q:Value→Shared→Prop} {f:Value→Value→Sem Value}
 (hf:∀v u s2 x y H2,Inv X pins σ H2 s2→RelV x v→RelV y u→R x y H2→wpAny (model X.prog X.w) X.A (f v u) Q X.xe s2) :
 wpAny (model X.prog X.w) X.A (eval a X.env) (fun v s₁=>wpAny (model X.prog X.w) X.A (eval b X.env) (fun u s₂=>wpAny (model X.prog X.w) X.A (f v u) Q X.xe s₂) X.xe s₁) X.xe s:=by
 refine dj (ha pins s σ H _ I h) fun v s1 ⟨x,H1,I1,r1,q1⟩=>?_
 refine dj (hb pins s1 σ H1 _ I1 q1) fun u s2 ⟨y,H2,I2,r2,q2⟩=>?_
 exact hf v u s2 x y H2 I2 r1 r2 q2
theorem aO {op:Operator} {r:R2} (ho:zH X (binaryOp op) r) (ha:PE X a ta) (hb:PE X b tb):PE X (.BinOp a op b pos) (Zh r ta tb):=by
 intro pins s σ H Q I h
 exact wpAny_BinOp (aat ha hb I h fun v u s2 x y H2 I2 rx ry q=>ho pins s2 σ H2 x y v u Q I2 rx ry q)
theorem zM {op:UnaryOp} {r:V→Hp→VK→Prop} (ho:UnR X (unaryOp op) r) (ha:PE X a ta):PE X (.UnaryOp op a pos) (tUn r ta):=by
 intro pins s σ H Q I h
 exact UnaryOp_ (dj (ha pins s σ H _ I h) fun v s1 ⟨x,H1,I1,r1,q1⟩=>ho pins s1 σ H1 x v Q I1 r1 q1)
theorem opI {f:Value→Value→Sem Value} {C:Int→Int→Prop} {g:Int→Int→Int}
 (rule:∀(i j:Int) (t u:Tok) (s:Shared) (Q:Value→Shared→Prop) (E:Value→Shared→Prop),C i j→Q (.int (g i j) s.toks) {s with toks:=s.toks+1}→wpAny (model X.prog X.w) X.A (f (.int i t) (.int j u)) Q E s) :
 zH X f (rI C fun i j=>.int (g i j)):=by
 intro pins s σ H x y v u Q I rx ry h
 obtain⟨i,j,rfl,rfl,hc,q⟩:=h
 obtain⟨t,rfl⟩:=rx
 obtain⟨t',rfl⟩:=ry
 exact rule i j t t' s _ _ hc ⟨.int (g i j),H,I.tok _,⟨_,rfl⟩,q⟩
theorem aau {f:Value→Value→Sem Value} {g:Int→Int→Int}
 (rule:∀(i j:Int) (t u:Tok) (s:Shared) (Q:Value→Shared→Prop) (E:Value→Shared→Prop),Q (.int (g i j) s.toks) {s with toks:=s.toks+1}→wpAny (model X.prog X.w) X.A (f (.int i t) (.int j u)) Q E s) :
 zH X f (TR fun i j=>.int (g i j)):=by
 intro pins s σ H x y v u Q I rx ry h
 obtain⟨i,j,rfl,rfl,q⟩:=h
 obtain⟨t,rfl⟩:=rx
 obtain⟨t',rfl⟩:=ry
 exact rule i j t t' s _ _ ⟨.int (g i j),H,I.tok _,⟨_,rfl⟩,q⟩
theorem WS {f:Value→Value→Sem Value} {g:Int→Int→Bool}
 (rule:∀(i j:Int) (t u:Tok) (s:Shared) (Q:Value→Shared→Prop) (E:Value→Shared→Prop),Q (.bool (g i j)) s→wpAny (model X.prog X.w) X.A (f (.int i t) (.int j u)) Q E s) :
 zH X f (TR fun i j=>.bl (g i j)):=by
 intro pins s σ H x y v u Q I rx ry h
 obtain⟨i,j,rfl,rfl,q⟩:=h
 obtain⟨t,rfl⟩:=rx
 obtain⟨t',rfl⟩:=ry
 exact rule i j t t' s _ _ ⟨.bl (g i j),H,I,rfl,q⟩
def adp (i j:Int):Prop:=0<j∧j<1073741824
def aav (i j:Int):Prop:=(-(2^64)<i∧i<2^64)∨(-(2^64)<j∧j<2^64)
theorem aav.ok {i j:Int} (h:aav i j):IntMulOk i j:=by
 rcases h with⟨h1,h2⟩|⟨h1,h2⟩
 ·exact .of_left (intBits_le_64 h1 h2)
 ·exact .of_right (intBits_le_64 h1 h2)
theorem ck:zH X (binaryOp .Add) (TR fun i j=>.int (i+j)):=aau fun _ _ _ _ _ _ _ q=>add_int q
theorem gx:zH X (binaryOp .Sub) (TR fun i j=>.int (i-j)):=aau fun _ _ _ _ _ _ _ q=>sub_int q
theorem yp:zH X (binaryOp .Mult) (rI aav fun i j=>.int (i*j)):=opI fun _ _ _ _ _ _ _ hc q=>mul_int q hc.ok
theorem JZ:zH X (binaryOp .FloorDiv) (rI adp fun i j=>.int (i/j)):=opI fun i j _ _ _ _ _ hc q=>by
 have h1:(0:Int)<j:=hc.1
 have h2:j<1073741824:=hc.2
 exact floordiv_int (by omega) (by rw[Int.fdiv_eq_ediv_of_nonneg i (by omega)];exact q) (.inl (PyProof.noPylong_small (by omega)))
theorem jF:zH X (binaryOp .Mod) (rI (fun _ j=>0<j) fun i j=>.int (i%j)):=opI fun i j _ _ _ _ _ hc q=>by
 have h1:(0:Int)<j:=hc
 exact mod_int' (by omega) (by rw[Int.fmod_eq_emod_of_nonneg i (by omega)];exact q)
theorem aaw:zH X (binaryOp .BitAnd) (TR fun i j=>.int (Builtin.bitAnd i j)):=aau fun _ _ _ _ _ _ _ q=>and_int q
theorem TU:zH X (inplaceOp .FloorDiv) (rI adp fun i j=>.int (i/j)):=opI fun i j _ _ _ _ _ hc q=>by
 have h1:(0:Int)<j:=hc.1
 have h2:j<1073741824:=hc.2
 exact ifloordiv_int (by omega) (by rw[Int.fdiv_eq_ediv_of_nonneg i (by omega)];exact q) (.inl (PyProof.noPylong_small (by omega)))
theorem unI {f:Value→Sem Value} {g:Int→Int}
 (rule:∀(i:Int) (t:Tok) (s:Shared) (Q:Value→Shared→Prop) (E:Value→Shared→Prop),Q (.int (g i) s.toks) {s with toks:=s.toks+1}→wpAny (model X.prog X.w) X.A (f (.int i t)) Q E s) :
 UnR X f (rU fun i=>.int (g i)):=by
 intro pins s σ H x v Q I rx h
 obtain⟨i,rfl,q⟩:=h
 obtain⟨t,rfl⟩:=rx
 exact rule i t s _ _ ⟨.int (g i),H,I.tok _,⟨_,rfl⟩,q⟩
theorem rA:UnR X (unaryOp .USub) (rU fun i=>.int (-i)):=unI fun _ _ _ _ _ q=>neg_int q
end
def adq:V→V→Bool
 | .de,.de=>true | .de,.int _=>true | .int _,.de=>true | .de,.bl _=>true | .bl _,.de=>true | .de,.str _=>true | .str _,.de=>true
 | .int _,.int _=>true | .bl _,.bl _=>true | .str _,.str _=>true | .N5 _,.N5 _=>true
 | .int _,.str _=>true | .str _,.int _=>true | .bl _,.str _=>true | .str _,.bl _=>true
 |_,_=>false
def rEq:R2:=fun x y H Q=>adq x y=true∧Q (.bl (decide (x=y))) H
def rNe:R2:=fun x y H Q=>adq x y=true∧Q (.bl (!decide (x=y))) H
theorem QC {i j:Int}:decide (V.int i=V.int j)=(i==j):=by
 rw[Bool.eq_iff_iff]
 simp
theorem TV {i j:Bool}:decide (V.bl i=V.bl j)=(i==j):=by
 rw[Bool.eq_iff_iff]
 simp
theorem QD {i j:Str}:decide (V.str i=V.str j)=(i==j):=by
 rw[Bool.eq_iff_iff]
 simp
theorem QE {i j:Array UInt8}:decide (V.N5 i=V.N5 j)=(i.toList==j.toList):=by
 rw[Bool.eq_iff_iff]
 cases i
 cases j
 simp
section
variable {X:Cx} {a b c:Expr} {ta tb tc:TE} {pos:Pos}
theorem cW {pins:List (Addr×Obj)} {σ:St} {H:Hp} {s:Shared} {Q:VK} {k k':Bool} (I:Inv X pins σ H s) (q:Q (.bl k) H) (e:k=k'):EP X pins σ Q (.bool k') s:=by
 subst e
 exact⟨.bl k,H,I,rfl,q⟩
theorem bZ:zH X (compareOp .Eq) rEq:=by
 intro pins s σ H x y v u Q I rx ry h
 obtain⟨hs,q⟩:=h
 cases x with
 |de =>
  cases rx
  cases y with
  |de=>cases ry;exact PySem.EqNone.eq_none_none (cW I q (by simp))
  |bl j=>cases ry;exact PySem.EqNone.eq_none_bool (cW I q (by simp))
  |int j=>obtain⟨t',rfl⟩:=ry;exact PySem.EqNone.eq_none_int (cW I q (by simp))
  |str j=>obtain⟨t',rfl⟩:=ry;exact PySem.EqNone.eq_none_str (cW I q (by simp))
  |_=>exact absurd (show false=true from hs) Bool.false_ne_true
 |bl i =>
  cases rx
  cases y with
  |de=>cases ry;exact PySem.EqNone.eq_bool_none (cW I q (by simp))
  |bl j=>cases ry;exact eq_bool (cW I q TV)
  |str j=>obtain⟨t',rfl⟩:=ry;exact PySem.EqMixed.eq_bool_str (cW I q (by simp))
  |_=>exact absurd (show false=true from hs) Bool.false_ne_true
 |int i =>
  obtain⟨t,rfl⟩:=rx
  cases y with
  |de=>cases ry;exact PySem.EqNone.eq_int_none (cW I q (by simp))
  |int j=>obtain⟨t',rfl⟩:=ry;exact eq_int (cW I q QC)
  |str j=>obtain⟨t',rfl⟩:=ry;exact PySem.EqMixed.eq_int_str (cW I q (by simp))
  |_=>exact absurd (show false=true from hs) Bool.false_ne_true
 |str i =>
  obtain⟨t,rfl⟩:=rx
  cases y with
  |de=>cases ry;exact PySem.EqNone.eq_str_none (cW I q (by simp))
  |bl j=>cases ry;exact PySem.EqMixed.eq_str_bool (cW I q (by simp))
  |int j=>obtain⟨t',rfl⟩:=ry;exact PySem.EqMixed.eq_str_int (cW I q (by simp))
  |str j=>obtain⟨t',rfl⟩:=ry;exact eq_str (cW I q QD)
  |_=>exact absurd (show false=true from hs) Bool.false_ne_true
 |N5 i =>
  obtain⟨t,rfl⟩:=rx
  cases y with
  |N5 j=>obtain⟨t',rfl⟩:=ry;exact PySem.W.eq_bytes (cW I q QE)
  |_=>exact absurd (show false=true from hs) Bool.false_ne_true
 |_=>cases y<;>exact absurd (show false=true from hs) Bool.false_ne_true
theorem TY:zH X (compareOp .NotEq) rNe:=by
 intro pins s σ H x y v u Q I rx ry h
 obtain⟨hs,q⟩:=h
 cases x with
 |de =>
  cases rx
  cases y with
  |de=>cases ry;exact PySem.EqNone.ne_none_none (cW I q (by simp))
  |bl j=>cases ry;exact PySem.EqNone.ne_none_bool (cW I q (by simp))
  |int j=>obtain⟨t',rfl⟩:=ry;exact PySem.EqNone.ne_none_int (cW I q (by simp))
  |str j=>obtain⟨t',rfl⟩:=ry;exact PySem.EqNone.ne_none_str (cW I q (by simp))
  |_=>exact absurd (show false=true from hs) Bool.false_ne_true
 |bl i =>
  cases rx
  cases y with
  |de=>cases ry;exact PySem.EqNone.ne_bool_none (cW I q (by simp))
  |bl j=>cases ry;exact ne_bool (cW I q (congrArg not TV))
  |str j=>obtain⟨t',rfl⟩:=ry;exact PySem.EqMixed.ne_bool_str (cW I q (by simp))
  |_=>exact absurd (show false=true from hs) Bool.false_ne_true
 |int i =>
  obtain⟨t,rfl⟩:=rx
  cases y with
  |de=>cases ry;exact PySem.EqNone.ne_int_none (cW I q (by simp))
  |int j=>obtain⟨t',rfl⟩:=ry;exact ne_int (cW I q (congrArg not QC))
  |str j=>obtain⟨t',rfl⟩:=ry;exact PySem.EqMixed.ne_int_str (cW I q (by simp))
  |_=>exact absurd (show false=true from hs) Bool.false_ne_true
 |str i =>
  obtain⟨t,rfl⟩:=rx
  cases y with
  |de=>cases ry;exact PySem.EqNone.ne_str_none (cW I q (by simp))
  |bl j=>cases ry;exact PySem.EqMixed.ne_str_bool (cW I q (by simp))
  |int j=>obtain⟨t',rfl⟩:=ry;exact PySem.EqMixed.ne_str_int (cW I q (by simp))
  |str j=>obtain⟨t',rfl⟩:=ry;exact ne_str (cW I q (congrArg not QD))
  |_=>exact absurd (show false=true from hs) Bool.false_ne_true
 |N5 i =>
  obtain⟨t,rfl⟩:=rx
  cases y with
  |N5 j=>obtain⟨t',rfl⟩:=ry;exact PySem.W.ne_bytes (cW I q (congrArg not QE))
  |_=>exact absurd (show false=true from hs) Bool.false_ne_true
 |_=>cases y<;>exact absurd (show false=true from hs) Bool.false_ne_true
theorem nE:zH X (compareOp .Lt) (TR fun i j=>.bl (decide (i<j))):=WS fun _ _ _ _ _ _ _ q=>lt_int q
theorem iK:zH X (compareOp .LtE) (TR fun i j=>.bl (decide (i≤j))):=WS fun _ _ _ _ _ _ _ q=>le_int q
theorem IU:zH X (compareOp .Gt) (TR fun i j=>.bl (decide (j<i))):=WS fun _ _ _ _ _ _ _ q=>gt_int q
theorem zN:zH X (compareOp .GtE) (TR fun i j=>.bl (decide (j≤i))):=WS fun _ _ _ _ _ _ _ q=>ge_int q
theorem aC (b:Expr) {op:CmpOp} (h:op≠.In:=by decide) (h2:op≠.NotIn:=by decide):behindInMarks op b=false:=by
 have e1:(op==CmpOp.In)=false:=by cases op<;>first|rfl|exact absurd rfl h
 have e2:(op==CmpOp.NotIn)=false:=by cases op<;>first|rfl|exact absurd rfl h2
 cases b<;>simp[behindInMarks,e1,e2]
theorem aH {op:CmpOp} {r:R2} (ho:zH X (compareOp op) r) (ha:PE X a ta) (hb:PE X b tb) (hm:behindInMarks op b=false):PE X (.Compare a [op] [b] pos) (Zh r ta tb):=by
 intro pins s σ H Q I h
 exact wpAny_Compare1 (aat ha hb I h fun v u s2 x y H2 I2 rx ry q=>ho pins s2 σ H2 x y v u Q I2 rx ry q) hm
def Zi (t:TE):TT:=fun σ H Q=>t σ H fun x H'=>∃k,x = .bl k∧Q k H'
theorem bG {op:CmpOp} {r:R2} (ho:zH X (compareOp op) r) (ha:PE X a ta) (hb:PE X b tb) (hm:behindInMarks op b=false):PT X (.Compare a [op] [b] pos) (Zi (Zh r ta tb)):=by
 intro pins s σ H Q I h
 refine wpAny_isTrue_Compare1 (dj (ha pins s σ H _ I h) fun v s1 ⟨x,H1,I1,r1,q1⟩=>dj (hb pins s1 σ H1 _ I1 q1) fun u s2 ⟨y,H2,I2,r2,q2⟩ =>
  dj (ho pins s2 σ H2 x y v u _ I2 r1 r2 q2) fun c s3 ⟨z,H3,I3,r3,k,e,q3⟩=>?_) hm
 subst e
 cases r3
 exact wpAny_truthy_bool ⟨H3,I3,q3⟩
def TZ (r r':R2) (ta tb tc:TE):TE:=fun σ H Q=>ta σ H fun x H1=>tb σ H1 fun y H2=>r x y H2 fun z H3=>∃k,z = .bl k ∧
 (if k=true then tc σ H3 fun w' H4=>r' y w' H4 Q else Q (.bl false) H3)
theorem zO {op op':CmpOp} {r r':R2} (ho:zH X (compareOp op) r) (Qw:zH X (compareOp op') r') (ha:PE X a ta) (hb:PE X b tb) (hc:PE X c tc)
 (hm:lastMarks [op,op'] [b,c]=false:=by with_unfolding_all rfl):PE X (.Compare a [op,op'] [b,c] pos) (TZ r r' ta tb tc):=by
 intro pins s σ H Q I h
 refine Compare_chain (dj (ha pins s σ H _ I h) fun v s1 ⟨x,H1,I1,r1,q1⟩=>chain_link (dj (hb pins s1 σ H1 _ I1 q1) fun u s2 ⟨y,H2,I2,r2,q2⟩ =>
  dj (ho pins s2 σ H2 x y v u _ I2 r1 r2 q2) fun d s3 ⟨z,H3,I3,r3,k,e,q3⟩=>?_)) hm
 subst e
 cases r3
 refine wpAny_truthy_bool ?_
 cases k with
 |false=>exact ite_ff ⟨.bl false,H3,I3,rfl,q3⟩
 |true=>exact ite_tt (chain_last (dj (hc pins s3 σ H3 _ I3 q3) fun w' s4 ⟨z',H4,I4,r4,q4⟩=>Qw pins s4 σ H4 y z' u w' Q I4 r2 r4 q4))
theorem EY {op op':CmpOp} {r r':R2} (ho:zH X (compareOp op) r) (Qw:zH X (compareOp op') r') (ha:PE X a ta) (hb:PE X b tb) (hc:PE X c tc)
 (hm:lastMarks [op,op'] [b,c]=false:=by with_unfolding_all rfl):PT X (.Compare a [op,op'] [b,c] pos) (Zi (TZ r r' ta tb tc)):=by
 intro pins s σ H Q I h
 refine isTrue_chain (dj (ha pins s σ H _ I h) fun v s1 ⟨x,H1,I1,r1,q1⟩=>test_link (dj (hb pins s1 σ H1 _ I1 q1) fun u s2 ⟨y,H2,I2,r2,q2⟩ =>
  dj (ho pins s2 σ H2 x y v u _ I2 r1 r2 q2) fun d s3 ⟨z,H3,I3,r3,k,e,q3⟩=>?_)) hm
 subst e
 cases r3
 refine wpAny_truthy_bool ?_
 cases k with
 |false =>
  obtain⟨k',e',q'⟩:=q3
  cases e'
  exact ite_ff ⟨H3,I3,q'⟩
 |true =>
  refine ite_tt (test_last (dj (hc pins s3 σ H3 _ I3 q3) fun w' s4 ⟨z',H4,I4,r4,q4⟩=>dj (Qw pins s4 σ H4 y z' u w' _ I4 r2 r4 q4) fun d' s5 ⟨z2,H5,I5,r5,k2,e2,q5⟩=>?_))
  subst e2
  cases r5
  exact wpAny_truthy_bool ⟨H5,I5,q5⟩
def WT (K:PySem.W.Frag) (x:V) (H:Hp) (k:Bool):Prop :=
 match x with
 | .de=>k=false
 | .bl b=>k=b
 | .int i=>k=(i != 0)
 | .str y=>y.length≤sizeLine∧k=((y.length:Int) != 0)
 | .N5 y=>y.size≤sizeLine∧k=((y.size:Int) != 0)
 | .ref p=>(∃xs,bO K H p xs∧k = !xs.isEmpty)∨(∃xs,tS K H p xs∧k = !xs.isEmpty)∨∃aZ,H p=some (.dK aZ)∧k = !aZ.isEmpty
 |_=>False
theorem Ob {κ:Type} {aZ:List (κ×V)} {vs:List (κ×Value)} (r:KV aZ vs):(!vs.isEmpty) = !aZ.isEmpty:=by
 cases r<;>rfl
theorem EZ {xs:List V} {bt:List Value} (r:Vals xs bt):(!bt.toArray.isEmpty) = !xs.isEmpty:=by
 cases r<;>simp
theorem E0:(sizeLine:Nat)<2^63:=by rw[sizeLine_eq];decide
theorem T1:agN X (fun x H Q=>∃k,WT X.K x H k∧Q k H):=by
 intro pins s σ H x v Q I rx h
 obtain⟨k,e,q⟩:=h
 have hl:=E0
 have hs:sizeLine=16777216:=sizeLine_eq
 cases x with
 |de =>
  cases rx
  have e':k=false:=e
  subst e'
  exact truthy_none ⟨H,I,q⟩
 |bl b =>
  cases rx
  have e':k=b:=e
  subst e'
  exact wpAny_truthy_bool ⟨H,I,q⟩
 |int i =>
  obtain⟨t,rfl⟩:=rx
  have e':k=(i != 0):=e
  subst e'
  exact PySem.P.truthy_int ⟨H,I,q⟩
 |str y =>
  obtain⟨t,rfl⟩:=rx
  obtain⟨hy,e'⟩:y.length≤sizeLine∧k=((y.length:Int) != 0):=e
  subst e'
  exact PySem.P.truthy_str (by omega) ⟨H,I.tok _,q⟩
 |N5 y =>
  obtain⟨t,rfl⟩:=rx
  obtain⟨hy,e'⟩:y.size≤sizeLine∧k=((y.size:Int) != 0):=e
  subst e'
  exact PySem.W.truthy_bytes (by omega) ⟨H,I.tok _,q⟩
 |ref p =>
  cases rx
  have e':(∃xs,bO X.K H p xs∧k = !xs.isEmpty)∨(∃xs,tS X.K H p xs∧k = !xs.isEmpty)∨∃aZ,H p=some (.dK aZ)∧k = !aZ.isEmpty:=e
  rcases e' with⟨xs,hx,e'⟩|⟨xs,hx,e'⟩|⟨aZ,hx,e'⟩
  ·subst e'
   obtain⟨bt,r,pl,hz⟩:=I.list hx
   have hlen:=r.length
   exact wpAny_truthy_list pl.isList (by simp only[List.size_toArray];omega) ⟨H,I.tok _,by rw[EZ r];exact q⟩
  ·subst e'
   obtain⟨bt,r,pl,hz⟩:=I.tuple hx
   have hlen:=r.length
   exact truthy_tuple pl (by simp only[List.size_toArray];omega) ⟨H,I.tok _,by rw[EZ r];exact q⟩
  ·subst e'
   obtain⟨hz,hS,vs,r,m⟩:aZ.length≤sizeLine∧(p==sysModules)=false∧∃vs,KV aZ vs∧s.heap.DictOf (cj X.prog X.w) p vs:=I.cD p _ hx
   have hlen:aZ.length=vs.length:=Paired.length r
   exact wpAny_truthy_dict hS m (by omega) ⟨H,I.tok _,by rw[Ob r];exact q⟩
 |_=>exact(show False from e).elim
theorem jG (ha:PE X a ta) (he:∀whole,isTrue a X.env whole=(do let v ←whole;standAt a.pos;holding [v] (truthy v))) :
 PT X a (fun σ H Q=>ta σ H fun x H'=>∃k,WT X.K x H' k∧Q k H'):=by
 intro pins s σ H Q I h
 exact isTrue_plain (dj (ha pins s σ H _ I h) fun v s1 ⟨x,H1,I1,r1,q1⟩=>T1 pins s1 σ H1 x v Q I1 r1 q1) (he _)
theorem vals1 {x:V} {us:List Value} (r:Vals [x] us):∃u,us=[u]∧RelV x u:=by
 cases r with
 |cons r1 r2=>cases r2;exact⟨_,rfl,r1⟩
theorem vals2 {x y:V} {us:List Value} (r:Vals [x,y] us):∃u w',us=[u,w']∧RelV x u∧RelV y w':=by
 cases r with
 |cons r1 r2 =>
  cases r2 with
  |cons r3 r4=>cases r4;exact⟨_,_,rfl,r1,r3⟩
theorem L8:oR X (.builtin "abs") (fun xs H Q=>∃i,xs=[.int i]∧Q (.int (if i<0 then -i else i)) H):=by
 intro pins s σ H xs us Q I r h
 obtain⟨i,rfl,q⟩:=h
 obtain⟨u,rfl,t,rfl⟩:=vals1 r
 exact call_abs_int fun u tk=>⟨.int (if i<0 then -i else i),H,I.tok _,⟨_,rfl⟩,q⟩
theorem RL (hc:X.calm=true):oR X (.builtin "max") (fun xs H Q=>∃i j,xs=[.int i,.int j]∧Q (.int (if j>i then j else i)) H):=by
 intro pins s σ H xs us Q I r h
 obtain⟨i,j,rfl,q⟩:=h
 obtain⟨u,w',rfl,⟨t,rfl⟩,⟨t',rfl⟩⟩:=vals2 r
 refine max_two_ints (I.ok.hd hc) fun h' tk k=>⟨_,H,I.kept k,?_,q⟩
 by_cases hj:j>i
 ·rw[if_pos hj,if_pos hj];exact⟨_,rfl⟩
 ·rw[if_neg hj,if_neg hj];exact⟨_,rfl⟩
theorem IV (hc:X.calm=true):oR X (.builtin "min") (fun xs H Q=>∃i j,xs=[.int i,.int j]∧Q (.int (if j<i then j else i)) H):=by
 intro pins s σ H xs us Q I r h
 obtain⟨i,j,rfl,q⟩:=h
 obtain⟨u,w',rfl,⟨t,rfl⟩,⟨t',rfl⟩⟩:=vals2 r
 refine min_two_ints (I.ok.hd hc) fun h' tk k=>⟨_,H,I.kept k,?_,q⟩
 by_cases hj:j<i
 ·rw[if_pos hj,if_pos hj];exact⟨_,rfl⟩
 ·rw[if_neg hj,if_neg hj];exact⟨_,rfl⟩
end
end L2
namespace L2
open PySem PySem.Spec PyProof.Rows
structure Oc (h:Heap) (x dx C:Addr) (mA:Str→Option Value):Prop where
 obj:h.get? x=some (PySem.W.instObj C dx)
 ns:h.Ns1 dx mA
 ne:dx≠x
theorem RM {h:Heap} {dx:Addr} {mA:Str→Option Value} (n:h.Ns1 dx mA):∃od,h.get? dx=some od∧∀name,PySem.W.lookIn name od=some (mA name):=by
 obtain⟨o,es,ep,ho,hd,hk,_,hm⟩:=n
 refine⟨o,ho,fun name=>?_⟩
 have e:=hm name
 unfold nsFind findBy at e
 rw[←Array.find?_toList]at e
 unfold PySem.W.lookIn
 rw[hd]
 dsimp only
 split
 ·rename_i y q
  rw[q]at e
  exact congrArg some e
 ·rename_i q
  rw[q]at e
  have a:es.toList.any (·.refKey)=false:=by
   rw[List.any_eq_false]
   intro y hy
   obtain⟨z,t,agO⟩:=hk y (Array.mem_toList_iff.mp hy)
   simp[DictEntry.refKey,agO]
  have a':¬es.toList.any (·.refKey)=true:=by rw[a];exact Bool.false_ne_true
  rw[if_neg a']
  exact congrArg some e
theorem Oc.look {h:Heap} {x dx C:Addr} {mA:Str→Option Value} (I:Oc h x dx C mA):∃od,PySem.W.InstAt h x (PySem.W.instObj C dx) C (some od)∧∀name,PySem.W.lookIn name od=some (mA name) :=
 let⟨od,ho,hl⟩:=RM I.ns
 ⟨od,⟨I.obj,rfl,rfl,ho⟩,hl⟩
section
variable {prog:Program} {w:World} {A:Around} {E:Value→Shared→Prop} {s:Shared} {K:PySem.W.Frag} {x dx C f:Addr} {mA:Str→Option Value} {name:Str} {v:Value}
theorem get_map {expr:Bool} {Q:Value→Shared→Prop} (X:K.In s.heap) (I:Oc s.heap x dx C mA) (hg:PySem.W.plainGet K C name=true) (hh:PySem.W.hasDictIn K C=true)
 (ha:PySem.W.findIn K (.ref C) name=some none) (hv:mA name=some v) (hv':PySem.W.handedIn v=true) (h:Q v {s with toks:=s.toks+1}) :
 wpAny (model prog w) A (getAttr (.ref x) name expr) Q E s:=by
 obtain⟨od,J,hl⟩:=I.look
 exact PySem.W.get_value X J (PySem.W.plainGet_of hg).1 (PySem.W.findObj_own hh ha rfl (by rw[hl,hv])) hv' h
theorem T2 {pl:Sem Bool} {Q:Value×List Value→Shared→Prop} (X:K.In s.heap) (I:Oc s.heap x dx C mA) (hg:PySem.W.plainGet K C name=true)
 (hf:PySem.W.findIn K (.ref C) name=some (some (.ref f))) (ht:PySem.W.isFn K (.ref f)=true) (hv:mA name=none) (h:Q (.ref f,[.ref x]) s) :
 wpAny (model prog w) A (getMethod (.ref x) name pl) Q E s:=by
 obtain⟨od,J,hl⟩:=I.look
 exact PySem.W.method_fn X J (PySem.W.plainGet_of hg).1 (PySem.W.plainGet_of hg).2 hf (beq_iff_eq.mp ht) (by show(PySem.W.lookIn name od).map (·.isSome)=some false;rw[hl,hv];rfl) h
theorem WU {ns:List Str} {Q:Unit→Shared→Prop} (X:K.In s.heap) (I:Oc s.heap x dx C mA)
 (hs:PySem.W.findIn K (.ref C) "__setattr__" = some (some (.builtin "object.__setattr__"))) (hp:PySem.W.plainOver K C=true) (ht:PySem.W.takerIn K C name=some none) (hh:PySem.W.hasDictIn K C=true)
 (hw:PySem.Within mA ns) (hsz:ns.length≤sizeLine)
 (h:∀h',Oc h' x dx C (fun y=>if y=name then some v else mA y)→Heap.SameBut dx s.heap h'→Q () {s with heap:=h',toks:=s.toks+2}) :
 wpAny (model prog w) A (setAttr (.ref x) name v) Q E s:=by
 obtain⟨od,J,hl⟩:=I.look
 refine PySem.W.set_plain X J hs (PySem.W.osa_open (s:={s with toks:=s.toks+1}) (r:=none) X J hp ht fun b=>?_)
 obtain⟨cd,hc,TF⟩:=PySem.W.any_some hh
 have hx:s.heap.get? x=some ⟨.ref C,some dx,.plain,#[]⟩:=I.obj
 refine wpAny_bind (wpAny_pure (wpAny_bind (wpAny_bind (wpAny_loadPart hx (wpAny_bind (PySem.W.Looks.here (s:={s with toks:=s.toks+1}) (PySem.W.looks_clsIn X hc) ?_))))))
 rw[TF]
 refine wpAny_pure (a:=some dx) (wpAny_bind (wpAny_pure (wpAny_bind ?_)))
 refine wpAny_nsSet1 (s:={s with toks:=s.toks+1}) I.ns fun h' hn2 Zg=>?_
 obtain⟨oD,esD,epD,hoD,hdD,hcD⟩:=hn2.count (PySem.Within.cons name v hw)
 refine wpAny_bind (wpAny_lookBehind hoD (by rw[hdD];exact pastItsLine_dict (Nat.le_trans hcD (by rw[List.length_cons];omega))) ?_)
 exact wpAny_pure (h _ ⟨(Zg.2 _ (Ne.symm I.ne)).trans I.obj,hn2,I.ne⟩ Zg)
theorem T3 {R:Result→Shared→Prop} {vs:List Value} {kw:List (Str×Value)} (X:K.In s.heap) (hm:PySem.W.makesIn K C=true)
 (hi:PySem.W.findIn K (.ref C) "__init__" = some (some (.ref f))) (hf:PySem.W.typeIn K (.ref f)=some (.type "function"))
 (h:codeAny (model prog w) (A.under (.builtin "type.__call__" ⟨.ref C::vs,kw⟩)) (.call (.ref f) ⟨.ref (s.heap.objs.size+1)::vs,kw⟩) (PySem.W.InitBack (s.heap.objs.size+1) R)
  {s with heap:=(s.heap.push PySem.W.emptyDict).push (PySem.W.instObj C s.heap.objs.size)}) :
 codeAny (model prog w) A (.call (.ref C) ⟨vs,kw⟩) R s:=by
 obtain⟨hh,g,d,t,os⟩:=s
 exact PySem.W.make_core (PySem.W.makes_of X hm) (PySem.W.looks_findIn X hi) (fun self=>PySem.W.bind_fn X self hf) (.inl rfl) h
end
def aF (f:Str) (v:V):List (Str×V)→List (Str×V)
 | []=>[(f,v)]
 |(g,x)::r=>if g=f then(g,v)::r else(g,x)::aF f v r
theorem lK (f g:Str) (v:V):∀fs:List (Str×V),(aF f v fs).lookup g=if g=f then some v else fs.lookup g
 | []=>by
  show List.lookup g [(f,v)]=_
  by_cases h:g=f
  ·have hb:(g==f)=true:=beq_iff_eq.mpr h
   simp only[List.lookup,hb,if_pos h]
  ·have hb:(g==f)=false:=beq_eq_false_iff_ne.mpr h
   simp only[List.lookup,hb,if_neg h]
 |(k,x)::r=>by
  have ih:=lK f g v r
  rw[show aF f v ((k,x)::r)=(if k=f then(k,v)::r else(k,x)::aF f v r) from rfl]
  by_cases hk:k=f
  ·rw[if_pos hk]
   by_cases h:g=k
   ·have hb:(g==k)=true:=beq_iff_eq.mpr h
    simp only[List.lookup,hb,if_pos (h.trans hk)]
   ·have hb:(g==k)=false:=beq_eq_false_iff_ne.mpr h
    simp only[List.lookup,hb,if_neg (fun e:g=f=>h (e.trans hk.symm))]
  ·rw[if_neg hk]
   by_cases h:g=k
   ·have hb:(g==k)=true:=beq_iff_eq.mpr h
    simp only[List.lookup,hb,if_neg (fun e:g=f=>hk (h.symm.trans e))]
   ·have hb:(g==k)=false:=beq_eq_false_iff_ne.mpr h
    simp only[List.lookup,hb]
    exact ih
theorem BC (f:Str) (v:V):∀fs:List (Str×V),f∈(aF f v fs).map (·.1)∧∀g,g∈fs.map (·.1)→g∈(aF f v fs).map (·.1)
 | []=>⟨by simp[aF],fun g h=>by simp at h⟩
 |(k,x)::r=>by
  obtain⟨i1,i2⟩:=BC f v r
  rw[show aF f v ((k,x)::r)=(if k=f then(k,v)::r else(k,x)::aF f v r) from rfl]
  by_cases hk:k=f
  ·rw[if_pos hk]
   subst hk
   exact⟨by simp,fun g h=>by simpa using h⟩
  ·rw[if_neg hk]
   refine⟨?_,fun g h=>?_⟩
   ·rw[List.map_cons]
    exact List.mem_cons_of_mem _ i1
   ·rw[List.map_cons]at h ⊢
    rcases List.mem_cons.mp h with e|e
    ·exact List.mem_cons.mpr (.inl e)
    ·exact List.mem_cons_of_mem _ (i2 g e)
theorem bh (f:Str) (v:V):∀fs:List (Str×V),(aF f v fs).length≤fs.length+1
 | []=>by simp[aF]
 |(k,x)::r=>by
  have ih:=bh f v r
  rw[show aF f v ((k,x)::r)=(if k=f then(k,v)::r else(k,x)::aF f v r) from rfl]
  by_cases hk:k=f
  ·rw[if_pos hk,List.length_cons,List.length_cons];omega
  ·rw[if_neg hk,List.length_cons,List.length_cons];omega
theorem t9.some_of {v:V} {o:Option Value} (r:t9 (some v) o):∃u,o=some u∧RelV v u:=by
 cases o with
 |none=>exact(show False from r).elim
 |some u=>exact⟨u,rfl,r⟩
theorem t9.none_of {o:Option Value} (r:t9 none o):o=none:=by
 cases o with
 |none=>rfl
 |some u=>exact(show False from r).elim
theorem RN {v:V} {u:Value} (r:RelV v u):PySem.W.handedIn u=true:=by
 cases v with
 |de=>cases(show u=Value.none from r);rfl
 |bl b=>cases(show u=Value.bool b from r);rfl
 |int i=>obtain⟨t,e⟩:=(show ∃t,u=Value.int i t from r);cases e;rfl
 |str x=>obtain⟨t,e⟩:=(show ∃t,u=Value.str x t from r);cases e;rfl
 |N5 b=>obtain⟨t,e⟩:=(show ∃t,u=Value.bytes b t from r);cases e;rfl
 |flt b=>obtain⟨t,e⟩:=(show ∃t,u=Value.float b t from r);cases e;rfl
 |ref a=>cases(show u=Value.ref a from r);rfl
 |ty n=>cases(show u=Value.type n from r);rfl
section
variable {P:Program} {w:World} {H H':Hp} {h h':Heap} {a C dx:Addr} {fs fs':List (Str×V)}
theorem J0 (cD:t6 P w H h) (e:H a=some (.ins C dx fs)):∃mA,Oc h a dx C mA∧(∀f,t9 (fs.lookup f) (mA f))∧PySem.Within mA (fs.map (·.1))∧fs.length≤1000∧H dx=some (.own a):=by
 obtain⟨d,z,ne,ob,mA,n,r,q⟩:=(show eX P w H h a (.ins C dx fs) from cD a _ e)
 exact⟨mA,⟨ob,n,ne⟩,r,q,z,d⟩
end
structure CI (K:PySem.W.Frag) (C:Addr):Prop where
 pg:PySem.W.plainGet K C Str.empty=true
 hd:PySem.W.hasDictIn K C=true
 po:PySem.W.plainOver K C=true
 sa:PySem.W.findIn K (.ref C) "__setattr__" = some (some (.builtin "object.__setattr__"))
theorem CI.get {K:PySem.W.Frag} {C:Addr} (c:CI K C) (f:Str):PySem.W.plainGet K C f=true:=c.pg
def aK (K:PySem.W.Frag) (C:Addr) (f:Str):Prop:=PySem.W.findIn K (.ref C) f=some none
theorem aK.ads {K:PySem.W.Frag} {C:Addr} {f:Str} (n:aK K C f):PySem.W.takerIn K C f=some none:=by
 unfold PySem.W.takerIn
 rw[show PySem.W.findIn K (.ref C) f=some none from n]
 rfl
structure Meth (K:PySem.W.Frag) (C:Addr) (m:Str) (f:Addr):Prop where
 at_:PySem.W.findIn K (.ref C) m=some (some (.ref f))
 fn:PySem.W.isFn K (.ref f)=true
 kp:PySem.W.keepIn K (.ref f)=true
section
variable {X:Cx} {pins:List (Addr×Obj)} {σ:St} {H:Hp} {s:Shared} {a C dx:Addr} {fs:List (Str×V)} {f:Str} {v:V} {A:Around} {E:Value→Shared→Prop}
theorem E1 {b:Bool} {Q:Value→Shared→Prop} (I:Inv X pins σ H s) (e:H a=some (.ins C dx fs)) (c:CI X.K C) (n:aK X.K C f) (l:fs.lookup f=some v)
 (h:∀u s',Inv X pins σ H s'→RelV v u→Q u s'):wpAny (model X.prog X.w) A (getAttr (.ref a) f b) Q E s:=by
 obtain⟨mA,O,r,_,_,_⟩:=J0 I.cD e
 obtain⟨u,hu,ru⟩:=t9.some_of (v:=v) (o:=mA f) (by rw[←l];exact r f)
 exact get_map I.EO O (c.get f) c.hd n hu (RN ru) (h u _ (I.tok _) ru)
theorem E3 {m:Str} {g:Addr} {pl:Sem Bool} {Q:Value×List Value→Shared→Prop} (I:Inv X pins σ H s) (e:H a=some (.ins C dx fs)) (c:CI X.K C) (k:Meth X.K C m g) (l:fs.lookup m=none)
 (h:Q (.ref g,[.ref a]) s):wpAny (model X.prog X.w) A (getMethod (.ref a) m pl) Q E s:=by
 obtain⟨mA,O,r,_,_,_⟩:=J0 I.cD e
 have hn:mA m=none:=t9.none_of (by rw[←l];exact r m)
 exact T2 I.EO O (c.get m) k.at_ k.fn hn h
theorem E4 {y:V} {u:Value} {Q:Unit→Shared→Prop} (I:Inv X pins σ H s) (e:H a=some (.ins C dx fs)) (c:CI X.K C) (n:aK X.K C f) (hl:fs.length<1000) (ry:RelV y u)
 (h:∀s',Inv X pins σ (upd H a (.ins C dx (aF f y fs))) s'→Q () s'):wpAny (model X.prog X.w) A (setAttr (.ref a) f u) Q E s:=by
 obtain⟨mA,O,r,wi,_,ho⟩:=J0 I.cD e
 have hz:(fs.map (·.1)).length≤sizeLine:=by rw[List.length_map,sizeLine_eq];omega
 refine WU I.EO O c.sa c.po n.ads c.hd wi hz fun h' O' sb=>h _ ?_
 have hd:∃o,h'.get? dx=some o:=let⟨o,_,_,e',_⟩:=O'.ns;⟨o,e'⟩
 refine I.write (x:=a) (e:=dx) (by rw[e];exact True.intro) (.inr ho) (fun b q hb z=>(sb.2 b hb).trans z) hd ?_
 refine⟨by rw[aj O.ne];exact ho,?_,O.ne,O'.obj,_,O'.ns,fun g=>?_,fun g hg=>?_⟩
 ·have:=bh f y fs;omega
 ·show t9 ((aF f y fs).lookup g) (if g=f then some u else mA g)
  rw[lK]
  by_cases q:g=f
  ·rw[if_pos q,if_pos q];exact ry
  ·rw[if_neg q,if_neg q];exact r g
 ·by_cases q:g=f
  ·rw[q];exact(BC f y fs).1
  ·refine(BC f y fs).2 g (wi g fun z=>hg ?_)
   show(if g=f then some u else mA g)=none
   rw[if_neg q];exact z
theorem Inv.made (I:Inv X pins σ H s):Inv X pins σ (upd (upd H s.heap.objs.size (.own (s.heap.objs.size+1))) (s.heap.objs.size+1) (.ins C s.heap.objs.size []))
 {s with heap:=(s.heap.push PySem.W.emptyDict).push (PySem.W.instObj C s.heap.objs.size)}:=by
 have e1:(s.heap.push PySem.W.emptyDict).get? s.heap.objs.size=some PySem.W.emptyDict:=Heap.get?_push_size s.heap rfl
 have e2:((s.heap.push PySem.W.emptyDict).push (PySem.W.instObj C s.heap.objs.size)).get? (s.heap.objs.size+1)=some (PySem.W.instObj C s.heap.objs.size):=by
  have:=Heap.get?_push_size (s.heap.push PySem.W.emptyDict) (o:=PySem.W.instObj C s.heap.objs.size) rfl
  rwa [Heap.size_push]at this
 have e3:(s.heap.push PySem.W.emptyDict).Ns s.heap.objs.size (fun _=>none):=⟨PySem.W.emptyDict,#[],_,e1,rfl,(fun e he=>absurd he (by simp)),fun _=>rfl⟩
 have I1:=I.laid (a:=s.heap.objs.size) (o:=.own (s.heap.objs.size+1)) (h':=s.heap.push PySem.W.emptyDict) (t':=s.toks) (fun b u q=>Heap.get?_push_of_some _ q) (Nat.le_refl _) ⟨_,e1⟩
 refine I1.laid (a:=s.heap.objs.size+1) (o:=.ins C s.heap.objs.size []) (t':=s.toks) (fun b u q=>Heap.get?_push_of_some _ q) (Nat.le_of_eq (Heap.size_push _ _)) ?_
 have ne:s.heap.objs.size≠s.heap.objs.size+1:=Nat.ne_of_lt (Nat.lt_succ_self _)
 refine⟨by rw[aj ne,af],Nat.zero_le _,ne,e2,fun _=>none,(Heap.Ns1.of_empty e3).at fun o q=>Heap.get?_push_of_some _ q,fun _=>True.intro,fun y hy=>absurd rfl hy⟩
theorem WV {prog:Program} {w:World} {env:Env} {e:Expr} {f:Str} {pos:Pos} {s:Shared} {Q:Value→Shared→Prop} (hb:attributeBase e f env (eval e env)=eval e env)
 (h:wpAny (model prog w) A (eval e env) (fun o s₁=>wpAny (model prog w) A (getAttr o f true) Q E s₁) E s):wpAny (model prog w) A (eval (.Attribute e f pos) env) Q E s :=
 Attribute_any_ h (by rw[arm_eval_Attribute,hb])
end
def J1 (K:PySem.W.Frag) (ta:TE) (f:Str):TE:=fun σ H Q=>ta σ H fun x H1=>∃a C dx fs v,x = .ref a∧H1 a=some (.ins C dx fs)∧CI K C∧aK K C f∧fs.lookup f=some v∧Q v H1
def agP (K:PySem.W.Frag) (ta tv:TE) (f:Str):TS:=fun D σ H=>tv σ H fun y H1=>ta σ H1 fun x H2=>∃a C dx fs,x = .ref a∧H2 a=some (.ins C dx fs)∧CI K C∧aK K C f∧fs.length<1000 ∧
 D.nx σ (upd H2 a (.ins C dx (aF f y fs)))
def adt (X:Cx) (op:Operator) (rd:V→V→Hp→VK→Prop):Prop :=
 ∀(pins:List (Addr×Obj)) (s:Shared) (σ:St) (H:Hp) (x y:V) (u v:Value) (Q:VK),Inv X pins σ H s→RelV x u→RelV y v→rd x y H Q→wpAny (model X.prog X.w) X.A (inplaceOp op u v) (EP X pins σ Q) X.xe s
def WW (K:PySem.W.Frag) (ta tv:TE) (rd:V→V→Hp→VK→Prop) (f:Str):TS:=fun D σ H=>ta σ H fun x H1=>∃a C dx fs v,x = .ref a∧H1 a=some (.ins C dx fs)∧CI K C∧aK K C f∧fs.lookup f=some v ∧
 tv σ H1 fun y H2=>rd v y H2 fun z H3=>∃dx' fs',H3 a=some (.ins C dx' fs')∧fs'.length<1000∧D.nx σ (upd H3 a (.ins C dx' (aF f z fs')))
section
variable {X:Cx} {o e value:Expr} {f:Str} {pos pos' RO:Pos} {ta tv:TE}
theorem ar (he:PE X e ta) (hb:attributeBase e f X.env (eval e X.env)=eval e X.env):PE X (.Attribute e f pos) (J1 X.K ta f):=by
 intro pins s σ H Q I h
 refine WV hb (dj (he pins s σ H _ I h) fun u s1 ⟨x,H1,I1,rx,a,C,dx,fs,v,ex,ea,c,n,l,q⟩=>?_)
 subst ex
 obtain rfl:u=Value.ref a:=rx
 exact E1 I1 ea c n l fun u' s2 I2 ru=>⟨v,H1,I2,ru,q⟩
theorem aT (ha:PE X o ta) (hv:PE X value tv) (hs:swapsWith value (some (.Attribute o f pos')) pos.line X.env=pure false):PS X (.Assign [.Attribute o f pos'] value pos) (agP X.K ta tv f):=by
 intro pins s σ H D I h
 refine plainObj_wpAny_Assign_Attribute (dj (hv pins s σ H _ I h) fun u s1 ⟨y,H1,I1,ry,q⟩=>dj (ha pins s1 σ H1 _ I1 q) fun ov s2 ⟨x,H2,I2,rx,a,C,dx,fs,ex,ea,c,n,l,q2⟩=>?_) hs
 subst ex
 obtain rfl:ov=Value.ref a:=rx
 exact E4 I2 ea c n l ry fun s3 I3=>⟨σ,_,I3,q2⟩
theorem IW {op:Operator} {rd:V→V→Hp→VK→Prop} (ha:PE X o ta) (hv:PE X value tv) (hop:adt X op rd):PS X (.AugAssign (.Attribute o f RO) op value pos) (WW X.K ta tv rd f):=by
 intro pins s σ H D I h
 refine wpAny_AugAssign_AttributeAny (dj (ha pins s σ H _ I h) fun ov s1 ⟨x,H1,I1,rx,a,C,dx,fs,v,ex,ea,c,n,l,q⟩=>?_)
 subst ex
 obtain rfl:ov=Value.ref a:=rx
 refine E1 I1 ea c n l fun u s2 I2 ru=>dj (hv pins s2 σ H1 _ I2 q) fun w3 s3 ⟨y,H2,I3,ry,q3⟩=>dj (hop pins s3 σ H2 v y u w3 _ I3 ru ry q3) fun w4 s4 ⟨z,H3,I4,rz,dx',fs',ea',l',q4⟩=>?_
 exact E4 I4 ea' c n l' rz fun s5 I5=>⟨σ,_,I5,q4⟩
def agS:V→V→Hp→VK→Prop:=fun x y H Q=>∃i j,x = .int i∧y = .int j∧Q (.int (i+j)) H
theorem T4:adt X .Add agS:=by
 rintro pins s σ H x y u v Q I rx ry ⟨i,j,rfl,rfl,q⟩
 obtain⟨t,rfl⟩:=(show ∃t,u=Value.int i t from rx)
 obtain⟨t',rfl⟩:=(show ∃t',v=Value.int j t' from ry)
 exact PyProof.Rows.iadd_int ⟨.int (i+j),H,I.tok _,⟨_,rfl⟩,q⟩
end
end L2
namespace L2
open PySem PySem.Spec PyProof.Rows
structure ia (k:Nat) (A:Around):Prop where
 hd:A.handled=none
 dp:A.depth+3*k+5<recursionLimit
 un:A.units+16*k+200<cLine
theorem ia.mono {j k:Nat} {A:Around} (r:ia k A) (h:j≤k):ia j A:=⟨r.hd,by have:=r.dp;omega,by have:=r.un;omega⟩
theorem ia.deeper {k:Nat} {A:Around} (r:ia (k+1) A) (env:Env):ia k (A.deeper env) :=
 ⟨r.hd,by have:=r.dp;show A.depth+1+3*k+5<_;omega,by have:=r.un;show A.units+3+16*k+200<_;omega⟩
theorem Od {A:Around} {C:Addr} {us:List Value} {kw:List (Str×Value)}:(A.under (.builtin "type.__call__" ⟨.ref C::us,kw⟩)).depth=A.depth+1:=by
 first|rfl|simp[Around.under,Code.weight,Code.isCreation,Code.isGuard,Code.isCaller,Code.frames,Code.isFrame,guardIds]
theorem Oe {A:Around} {C:Addr} {us:List Value} {kw:List (Str×Value)}:(A.under (.builtin "type.__call__" ⟨.ref C::us,kw⟩)).units=A.units+1:=by
 first|rfl|simp[Around.under,Code.cUnits,Code.frames,Code.isFrame]
theorem ia.make {k:Nat} {A:Around} (r:ia (k+1) A) (C:Addr) (us:List Value) (kw:List (Str×Value)):ia k (A.under (.builtin "type.__call__" ⟨.ref C::us,kw⟩)) :=
 ⟨r.hd,by have:=r.dp;rw[Od];omega,by have:=r.un;rw[Oe];omega⟩
theorem ia.depth {k:Nat} {A:Around} (r:ia k A):A.depth<recursionLimit:=by have:=r.dp;omega
theorem ia.units {k:Nat} {A:Around} (r:ia k A):A.units+64<cLine:=by have:=r.un;omega
def Hj:TA:=fun _ H Q=>Q [] H
def CJ (ta:TE) (tr:TA):TA:=fun σ H Q=>ta σ H fun x H1=>tr σ H1 fun xs H2=>Q (x::xs) H2
section
variable {X:Cx} {e:Expr} {es:List Expr} {te:TE} {t:TA} {pos:Pos}
theorem ai:PA X [] Hj:=fun _ _ _ _ H Q I h=>Calls.spliced_nil ⟨[],H,I,.nil,h⟩
theorem aa (ha:PE X e te) (hr:PA X es t) (hs:starEach (e::es) X.env=(false,eval e X.env)::starEach es X.env:=by rfl):PA X (e::es) (CJ te t):=by
 intro pos pins s σ H Q I h
 rw[hs]
 show wpAny _ _ (spliced ((false,eval e X.env)::backTo pos (starEach es X.env))) _ _ s
 refine Calls.spliced_cons (dj (ha pins s σ H _ I h) fun u s1 ⟨x,H1,I1,r1,q1⟩=>?_)
 exact dj (hr pos pins s1 σ H1 _ I1 q1) fun us s2 ⟨xs,H2,I2,r2,q2⟩=>⟨x::xs,H2,I2,.cons r1 r2,q2⟩
def agT (t:TA):TE:=fun σ H Q=>t σ H fun xs H1=>xs.length≤sizeLine∧∀p,H1 p=none→Q (.ref p) (upd H1 p (.tup xs))
def agU (t:TA):TE:=fun σ H Q=>t σ H fun xs H1=>xs.length≤sizeLine∧∀p,H1 p=none→Q (.ref p) (upd H1 p (.lst xs))
theorem Of {x1} (h:PA X es t):PE X (.Tuple es x1 pos) (agT t):=by
 intro pins s σ H Q I hq
 refine wpAny_Tuple_spliced (dj (h pos pins s σ H _ I hq) fun us s1 ⟨xs,H1,I1,r,z,q⟩=>⟨by rw[←r.length];exact z,?_⟩)
 have hf:H1 s1.heap.objs.size=none:=I1.cD.fresh (Nat.le_refl _)
 refine⟨.ref s1.heap.objs.size,upd H1 s1.heap.objs.size (.tup xs),I1.laid (t':=s1.toks) (fun b u e=>Heap.get?_push_of_some _ e) (Nat.le_refl _) ?_,rfl,q _ hf⟩
 exact⟨z,us,r,⟨_,Heap.get?_push_size _ rfl,rfl,_,rfl⟩⟩
theorem cv (h:PA X es t):PE X (.List es pos) (agU t):=by
 intro pins s σ H Q I hq
 refine wpAny_List_spliced (dj (h pos pins s σ H _ I hq) fun us s1 ⟨xs,H1,I1,r,z,q⟩=>⟨by rw[←r.length];exact z,?_⟩)
 have hf:H1 s1.heap.objs.size=none:=I1.cD.fresh (Nat.le_refl _)
 refine⟨.ref s1.heap.objs.size,upd H1 s1.heap.objs.size (.lst xs),I1.laid (t':=s1.toks) (fun b u e=>Heap.get?_push_of_some _ e) (Nat.le_refl _) ?_,rfl,q _ hf⟩
 exact⟨z,us,0,r,Heap.get?_push_size _ rfl⟩
end
abbrev Sp:=List V→Hp→VK→XK→Prop
abbrev RP:=List Env→Hp→Shared→XK→Value→Shared→Prop
structure Og (P:Program) (w:World) (K:PySem.W.Frag) (mg:Str→Option Value) (base:Heap) (A:Around) (outer:List Env) (s:Shared) (H:Hp):Prop where
 frames:A.frames=some outer
 mod:Mod K mg base
 bs:∀b o,base.get? b=some o→s.heap.get? b=some o∧H b=none
 Wt:base.objs.size≤s.heap.objs.size
 yn:s.heap.FunFrames base outer
 Zd:∀b∈wq outer,H b=none
 cD:t6 P w H s.heap
 bare:AllBare s.gens
def CE (outer:List Env) (P:Program) (w:World) (H:Hp) (s:Shared) (Q:VK) (u:Value) (s':Shared):Prop :=
 ∃v H',s'.os=s.os∧AllBare s'.gens∧Un (wq outer) [] H H' s.heap s'.heap∧t6 P w H' s'.heap∧RelV v u∧Q v H'
def CR (CX:RP) (outer:List Env) (P:Program) (w:World) (H:Hp) (s:Shared) (Q:VK) (E:XK) (r:Result) (s':Shared):Prop :=
 match r with
 | .ok (.ret u)=>CE outer P w H s Q u s'
 | .ok _=>False
 | .error e=>CX outer H s E e s'
structure tT (P:Program) (w:World) (K:PySem.W.Frag) (mg:Str→Option Value) (base:Heap) (CX:RP) (k:Nat) (f:Addr) (fd:FuncData) (ps:List Str) (sp:Sp):Prop where
 len:∀vs H Q E,sp vs H Q E→vs.length=ps.length
 run:∀(A:Around) (outer:List Env) (s:Shared) (H:Hp) (args:Args) (us:List Value) (vs:List V) (Q:VK) (E:XK),ia k A→Og P w K mg base A outer s H→BindsTo s fd args (ps.zip us)→Vals vs us→sp vs H Q E →
  codeAny (model P w) A (.call (.ref f) args) (CR CX outer P w H s Q E) s
theorem tT.mono {P:Program} {w:World} {K:PySem.W.Frag} {mg:Str→Option Value} {base:Heap} {CX:RP} {j k:Nat} {f:Addr} {fd:FuncData} {ps:List Str} {sp:Sp} (F:tT P w K mg base CX j f fd ps sp) (h:j≤k) :
 tT P w K mg base CX k f fd ps sp:=⟨F.len,fun A outer s H args us vs Q E hr=>F.run A outer s H args us vs Q E (hr.mono h)⟩
theorem tT.imp {P:Program} {w:World} {K:PySem.W.Frag} {mg:Str→Option Value} {base:Heap} {CX:RP} {k:Nat} {f:Addr} {fd:FuncData} {ps:List Str} {sp Zj:Sp} (F:tT P w K mg base CX k f fd ps sp)
 (h:∀vs H Q E,Zj vs H Q E→sp vs H Q E):tT P w K mg base CX k f fd ps Zj :=
 ⟨fun vs H Q E q=>F.len vs H Q E (h _ _ _ _ q),fun A outer s H args us vs Q E hr he hb hv hs=>F.run A outer s H args us vs Q E hr he hb hv (h _ _ _ _ hs)⟩
theorem Og.make {P:Program} {w:World} {K:PySem.W.Frag} {mg:Str→Option Value} {base:Heap} {A:Around} {outer:List Env} {s:Shared} {H:Hp} (e:Og P w K mg base A outer s H) (C:Addr) (us:List Value) (kw:List (Str×Value)) :
 Og P w K mg base (A.under (.builtin "type.__call__" ⟨.ref C::us,kw⟩)) outer s H:=⟨by first|exact e.frames|(simpa [Around.under,Code.envs,Code.isFrame,pushEnvs] using e.frames),e.mod,e.bs,e.Wt,e.yn,e.Zd,e.cD,e.bare⟩
section
variable {X:Cx} {pins:List (Addr×Obj)} {σ:St} {H:Hp} {s s':Shared}
theorem Inv.adu (I:Inv X pins σ H s):Og X.prog X.w X.K X.mg X.base X.A X.stack s H :=
 ⟨I.ok.frames,I.ok.mod,I.bs,Nat.le_trans I.ok.Wt I.sz,I.stack,I.JU,I.cD,I.bare⟩
theorem Inv.after {Q:VK} {u:Value} (I:Inv X pins σ H s) (h:CE X.stack X.prog X.w H s Q u s'):EP X pins σ Q u s':=by
 obtain⟨v,H',os,bare,un,cD,r,q⟩:=h
 obtain⟨hh,g,d,t,os'⟩:=s'
 obtain rfl:os'=s.os:=os
 exact⟨v,H',I.call (h':=hh) (g':=g) (d':=d) (t':=t) (ch:=[]) un cD bare (fun b z=>absurd z (by simp)),r,q⟩
end
def E5 (sp:Sp) (E6:List V) (E:XK) (t:TA):TE:=fun σ H Q=>t σ H fun vs H1=>sp (vs++E6) H1 Q E
def QF (C:Addr) (m:Str) (sp:Sp) (E6:List V) (E:XK) (ta:TE) (t:TA):TE:=fun σ H Q=>ta σ H fun x H1=>∃a dx fs,x = .ref a∧H1 a=some (.ins C dx fs)∧fs.lookup m=none ∧
 t σ H1 fun vs H2=>sp (x::(vs++E6)) H2 Q E
def QG (C:Addr) (sp:Sp) (E6:List V) (E:XK) (t:TA):TE:=fun σ H Q=>t σ H fun vs H1=>∀x dx,H1 x=none→H1 dx=none→dx≠x →
 sp (.ref x::(vs++E6)) (upd (upd H1 dx (.own x)) x (.ins C dx [])) (fun v H2=>v = .de∧Q (.ref x) H2) E
def Binds (K:PySem.W.Frag) (fd:FuncData) (ps:List Str) (ds:List Value):Prop :=
 ∀(s:Shared) (us:List Value),K.In s.heap→(us++ds).length=ps.length→BindsTo s fd ⟨us,[]⟩ (ps.zip (us++ds))
theorem Binds.all {K:PySem.W.Frag} {fd:FuncData} {ps:List Str} (h:∀us:List Value,us.length=ps.length→bindArgs fd ⟨us,[]⟩=pure (ps.zip us)):Binds K fd ps []:=fun s us _ hl=>by
 rw[List.append_nil]at hl ⊢
 exact .of_eq (h us hl)
def Passes (CX:RP) (X:Cx) (E:XK):Prop:=∀(pins:List (Addr×Obj)) (σ:St) (H:Hp) (s:Shared) (e:Value) (s':Shared),Inv X pins σ H s→CX X.stack H s E e s'→X.xe e s'
section
variable {X:Cx} {CX:RP} {k:Nat} {f C:Addr} {fd:FuncData} {ps:List Str} {sp:Sp} {E6:List V} {ds:List Value} {E:XK} {x m:Str} {p pos apos:Pos} {e o:Expr} {es:List Expr} {ta:TE} {t:TA}
theorem E7 {pins:List (Addr×Obj)} {σ:St} {H:Hp} {s:Shared} {Q:VK} {us:List Value} {vs:List V} (F:tT X.prog X.w X.K X.mg X.base CX k f fd ps sp) (hr:ia k X.A) (hb:Binds X.K fd ps ds) (hd:Vals E6 ds) (hx:Passes CX X E)
 (I:Inv X pins σ H s) (r:Vals vs us) (h:sp (vs++E6) H Q E):wpAny (model X.prog X.w) X.A (call (.ref f) us) (EP X pins σ Q) X.xe s:=by
 have r2:Vals (vs++E6) (us++ds):=r.append hd
 have hl:(us++ds).length=ps.length:=by rw[←r2.length];exact F.len _ _ _ _ h
 refine wpAny_call (codeAny_mono (F.run X.A X.stack s H ⟨us,[]⟩ (us++ds) (vs++E6) Q E hr I.adu (hb s us I.EO hl) r2 h) fun r s' hq=>?_)
 cases r with
 |error e=>exact hx pins σ H s e s' I hq
 |ok fl =>
  cases fl with
  |ret u=>exact I.after hq
  |next=>exact False.elim hq
  |brk=>exact False.elim hq
  |cont=>exact False.elim hq
theorem WY (F:tT X.prog X.w X.K X.mg X.base CX k f fd ps sp) (hr:ia k X.A) (hg:Gl X x) (hm:X.mg x=some (.ref f)) (hk:PySem.W.keepIn X.K (.ref f)=true) (hb:Binds X.K fd ps ds) (hd:Vals E6 ds) (hx:Passes CX X E)
 (ha:PA X (e::es) t) (J2:(x==("__debug__" : Str))=false:=by decide) (he:starEach (e::es) X.env=(false,eval e X.env)::starEach es X.env:=by rfl) (oI:(backTo pos (starEach es X.env)).any (·.1)=false:=by rfl) :
 PE X (.Call (.Name x p) (e::es) [] pos) (E5 sp E6 E t):=by
 intro pins s σ H Q I h
 refine wpAny_Call_Name_kw (rn I hg hm ?_ J2)
 refine PySem.W.callWith_K (h₀:=X.base) I.ok.mod.RF hk (dj (ha pos pins s σ H _ I h) fun us s1 ⟨vs,H1,I1,r,q⟩=>⟨I1.EO,?_⟩) he oI
 exact E7 F hr hb hd hx I1 r q
theorem WZ {pl:Sem Bool} (he:PE X o ta) (c:CI X.K C) (hm:Meth X.K C m f) (F:tT X.prog X.w X.K X.mg X.base CX k f fd ps sp) (hr:ia k X.A) (hb:Binds X.K fd ps ds) (hd:Vals E6 ds) (hx:Passes CX X E) (ha:PA X (e::es) t)
 (jf:starEach (e::es) X.env=(false,eval e X.env)::starEach es X.env:=by rfl) (oI:(backTo pos (starEach es X.env)).any (·.1)=false:=by rfl)
 (ht:eval (.Call (.Attribute o m apos) (e::es) [] pos) X.env=(do
  let ov ←eval o X.env
  standAt apos.atName
  let(f,first) ←holding [ov] (getMethod ov m pl)
  callWith pos f first (backTo pos (starEach (e::es) X.env)) (backToKw pos (keywordEach [] X.env))):=by rfl) :
 PE X (.Call (.Attribute o m apos) (e::es) [] pos) (QF C m sp E6 E ta t):=by
 intro pins s σ H Q I h
 refine PySem.W.methodCall_KW (pl:=pl) (dj (he pins s σ H _ I h) fun u s1 ⟨x,H1,I1,rx,a,dx,fs,ex,ea,l,q⟩=>?_) ht
 subst ex
 obtain rfl:u=Value.ref a:=rx
 refine E3 I1 ea c hm l ?_
 refine PySem.W.callWith_K (first:=[.ref a]) (h₀:=X.base) I.ok.mod.RF hm.kp (dj (ha pos pins s1 σ H1 _ I1 q) fun us s2 ⟨vs,H2,I2,r,q2⟩=>⟨I2.EO,?_⟩) jf oI
 exact E7 (us:=.ref a::us) (vs:=.ref a::vs) F hr hb hd hx I2 (.cons rfl r) q2
theorem T5 {pl:Sem Bool} (he:PE X o ta) (c:CI X.K C) (hm:Meth X.K C m f) (F:tT X.prog X.w X.K X.mg X.base CX k f fd ps sp) (hr:ia k X.A) (hb:Binds X.K fd ps ds) (hd:Vals E6 ds) (hx:Passes CX X E)
 (ht:eval (.Call (.Attribute o m apos) [] [] pos) X.env=(do
  let ov ←eval o X.env
  standAt apos.atName
  let(f,first) ←holding [ov] (getMethod ov m pl)
  callWith pos f first (backTo pos (starEach [] X.env)) (backToKw pos (keywordEach [] X.env))):=by rfl) :
 PE X (.Call (.Attribute o m apos) [] [] pos) (QF C m sp E6 E ta Hj):=by
 intro pins s σ H Q I h
 refine PySem.W.methodCall_KW (pl:=pl) (dj (he pins s σ H _ I h) fun u s1 ⟨x,H1,I1,rx,a,dx,fs,ex,ea,l,q⟩=>?_) ht
 subst ex
 obtain rfl:u=Value.ref a:=rx
 refine E3 I1 ea c hm l ?_
 exact PySem.W.callWith_K0 (first:=[.ref a]) I1.EO hm.kp (E7 (us:=[.ref a]) (vs:=[.ref a]) F hr hb hd hx I1 (.cons rfl .nil) q)
structure Mk (K:PySem.W.Frag) (C f:Addr):Prop where
 makes:PySem.W.makesIn K C=true
 init:PySem.W.findIn K (.ref C) "__init__" = some (some (.ref f))
 fn:PySem.W.isFn K (.ref f)=true
 kp:PySem.W.keepIn K (.ref C)=true
theorem L9 {pins:List (Addr×Obj)} {σ:St} {H:Hp} {s:Shared} {Q:VK} {us:List Value} {vs:List V} (M:Mk X.K C f) (F:tT X.prog X.w X.K X.mg X.base CX k f fd ps sp) (hr:ia (k+1) X.A) (hb:Binds X.K fd ps ds) (hd:Vals E6 ds)
 (hx:Passes CX X E) (I:Inv X pins σ H s) (r:Vals vs us)
 (h:∀x dx,H x=none→H dx=none→dx≠x→sp (.ref x::(vs++E6)) (upd (upd H dx (.own x)) x (.ins C dx [])) (fun v H2=>v = .de∧Q (.ref x) H2) E) :
 wpAny (model X.prog X.w) X.A (call (.ref C) us) (EP X pins σ Q) X.xe s:=by
 have hq:=h (s.heap.objs.size+1) s.heap.objs.size (I.cD.fresh (Nat.le_succ _)) (I.cD.fresh (Nat.le_refl _)) (Nat.ne_of_lt (Nat.lt_succ_self _))
 have I2:=Inv.made (C:=C) I
 have r2:Vals (V.ref (s.heap.objs.size+1)::(vs++E6)) (Value.ref (s.heap.objs.size+1)::(us++ds)):=.cons rfl (r.append hd)
 have hl:(Value.ref (s.heap.objs.size+1)::us++ds).length=ps.length:=by
  have e:=r2.length
  rw[F.len _ _ _ _ hq]at e
  exact e.symm
 refine wpAny_call (T3 (f:=f) I.EO M.makes M.init (beq_iff_eq.mp M.fn) (codeAny_mono (F.run _ X.stack _ _ ⟨Value.ref (s.heap.objs.size+1)::us,[]⟩ (Value.ref (s.heap.objs.size+1)::(us++ds)) _ _ E (hr.make C us [])
  (I2.adu.make C us []) (hb _ (Value.ref (s.heap.objs.size+1)::us) I2.EO hl) r2 hq) fun r s' hq'=>?_))
 cases r with
 |error e=>exact hx pins σ _ _ e s' I2 hq'
 |ok fl =>
  cases fl with
  |ret u =>
   obtain⟨v,H',I3,rv,ev,q3⟩:=I2.after hq'
   subst ev
   exact⟨rv,⟨V.ref (s.heap.objs.size+1),H',I3,rfl,q3⟩⟩
  |next=>exact False.elim hq'
  |brk=>exact False.elim hq'
  |cont=>exact False.elim hq'
theorem W3 (M:Mk X.K C f) (F:tT X.prog X.w X.K X.mg X.base CX k f fd ps sp) (hr:ia (k+1) X.A) (hg:Gl X x) (hm:X.mg x=some (.ref C)) (hb:Binds X.K fd ps ds) (hd:Vals E6 ds) (hx:Passes CX X E)
 (ha:PA X (e::es) t) (J2:(x==("__debug__" : Str))=false:=by decide) (he:starEach (e::es) X.env=(false,eval e X.env)::starEach es X.env:=by rfl) (oI:(backTo pos (starEach es X.env)).any (·.1)=false:=by rfl) :
 PE X (.Call (.Name x p) (e::es) [] pos) (QG C sp E6 E t):=by
 intro pins s σ H Q I h
 refine wpAny_Call_Name_kw (rn I hg hm ?_ J2)
 refine PySem.W.callWith_K (h₀:=X.base) I.ok.mod.RF M.kp (dj (ha pos pins s σ H _ I h) fun us s1 ⟨vs,H1,I1,r,q⟩=>⟨I1.EO,?_⟩) he oI
 exact L9 M F hr hb hd hx I1 r q
theorem T6 (M:Mk X.K C f) (F:tT X.prog X.w X.K X.mg X.base CX k f fd ps sp) (hr:ia (k+1) X.A) (hg:Gl X x) (hm:X.mg x=some (.ref C)) (hb:Binds X.K fd ps ds) (hd:Vals E6 ds) (hx:Passes CX X E)
 (J2:(x==("__debug__" : Str))=false:=by decide):PE X (.Call (.Name x p) [] [] pos) (QG C sp E6 E Hj):=by
 intro pins s σ H Q I h
 refine wpAny_Call_Name_kw (rn I hg hm ?_ J2)
 exact PySem.W.callWith_K0 I.EO M.kp (L9 (us:=[]) M F hr hb hd hx I .nil h)
end
structure ay (N P:List Str) (sc:Scope):Prop where
 kind:sc.kind = .function
 co:sc.isCoroutine=false
 gen:sc.isGenerator=false
 nd:N.Nodup
 pre:N.take P.length=P
 par:∀x∈P,sc.names.lookup x=some .local∨sc.names.lookup x=some .cell
 aay:∀y∈sc.names,y.2≠.free
theorem IY {kindOf:Str→Option NameKind} {x:Str}:∀{binds:List (Str×Value)} {m:Str→Option Value},(∀v,(x,v)∉binds)→bindL kindOf binds m x=m x
 | [],_,_=>rfl
 |(n,v)::r,m,h=>by
  unfold bindL
  rw[IY fun w hw=>h w (List.mem_cons_of_mem _ hw)]
  split
  ·have:x≠n:=by rintro rfl;exact h v List.mem_cons_self
   simp[this]
  ·rfl
theorem IZ {kindOf:Str→Option NameKind} {x:Str}:∀{binds:List (Str×Value)} {m:Str→Option Value},(∀v,(x,v)∉binds)→bindC kindOf binds m x=m x
 | [],_,_=>rfl
 |(n,v)::r,m,h=>by
  unfold bindC
  rw[IZ fun w hw=>h w (List.mem_cons_of_mem _ hw)]
  split
  ·rfl
  ·have:x≠n:=by rintro rfl;exact h v List.mem_cons_self
   simp[this]
theorem I0 {kindOf:Str→Option NameKind} {x:Str} {v:Value}:∀{P:List Str} {vs:List Value} {i:Nat} {m:Str→Option Value},P.Nodup→P[i]?=some x→vs[i]?=some v→kindOf x=some .local →
 bindL kindOf (P.zip vs) m x=some v
 | [],_,_,_,_,h,_,_=>by simp at h
 |_::_,[],_,_,_,_,h,_=>by simp at h
 |p::P,w::vs,0,m,nd,h1,h2,hk=>by
  simp at h1 h2;subst h1;subst h2
  show bindL kindOf ((p,w)::P.zip vs) m p=_
  unfold bindL
  rw[IY fun v hv=>(List.nodup_cons.mp nd).1 (List.of_mem_zip hv).1,if_pos hk]
  simp
 |p::P,w::vs,i+1,m,nd,h1,h2,hk=>by
  show bindL kindOf ((p,w)::P.zip vs) m x=_
  unfold bindL
  exact I0 (i:=i) (List.nodup_cons.mp nd).2 (by simpa using h1) (by simpa using h2) hk
theorem Ja {kindOf:Str→Option NameKind} {x:Str} {v:Value}:∀{P:List Str} {vs:List Value} {i:Nat} {m:Str→Option Value},P.Nodup→P[i]?=some x→vs[i]?=some v→kindOf x≠some .local →
 bindC kindOf (P.zip vs) m x=some v
 | [],_,_,_,_,h,_,_=>by simp at h
 |_::_,[],_,_,_,_,h,_=>by simp at h
 |p::P,w::vs,0,m,nd,h1,h2,hk=>by
  simp at h1 h2;subst h1;subst h2
  show bindC kindOf ((p,w)::P.zip vs) m p=_
  unfold bindC
  rw[IZ fun v hv=>(List.nodup_cons.mp nd).1 (List.of_mem_zip hv).1,if_neg hk]
  simp
 |p::P,w::vs,i+1,m,nd,h1,h2,hk=>by
  show bindC kindOf ((p,w)::P.zip vs) m x=_
  unfold bindC
  exact Ja (i:=i) (List.nodup_cons.mp nd).2 (by simpa using h1) (by simpa using h2) hk
def start (N:List Str) (vs:List V):St:=vs.map some++List.replicate (N.length-vs.length) none
def nF (CX:RP) (P:Program) (w:World) (K:PySem.W.Frag) (mg:Str→Option Value) (base:Heap) (N:List Str) (qual:Str) (scope:Scope) (f:Addr) (cd:Value) (A:Around) (outer:List Env) (s:Shared) (H:Hp) (E:XK):Cx where
 prog:=P
 w:=w
 K:=K
 mg:=mg
 base:=base
 A:=A.deeper (envOfC qual scope s.heap.objs.size f cd)
 N:=N
 s₀:=s
 H₀:=H
 env:=envOfC qual scope s.heap.objs.size f cd
 outer:=outer
 stack:=envOfC qual scope s.heap.objs.size f cd::outer
 ex:=[]
 calm:=true
 fn:=fun _=>true
 pn:=[]
 xe:=fun e s'=>wpAny (model P w) (A.deeper (envOfC qual scope s.heap.objs.size f cd)) (leaving (envOfC qual scope s.heap.objs.size f cd) e) (fun _ W5=>CX outer H s E e W5) (fun e' W5=>CX outer H s E e' W5) s'
theorem Ma {sc:Scope} {n:Nat} {x:Str} (h:sc.names.lookup x=some .cell):∃c,(cellsFrom n sc.names []).lookup x=some c:=by
 have q:=PySem.W.cellsFrom_some sc.names n [] (.inl h)
 exact Option.isSome_iff_exists.mp q
theorem RQ {CX:RP} {P:Program} {w:World} {K:PySem.W.Frag} {mg:Str→Option Value} {base:Heap} {N ps:List Str} {qual:Str} {scope:Scope} {f:Addr} {cd:Value} {A:Around} {outer:List Env} {s s1:Shared} {H:Hp} {E:XK} {us:List Value} {vs:List V}
 (S:ay N ps scope) (hd:A.handled=none) (e0:Og P w K mg base A outer s H) (hl:vs.length=ps.length) (r:Vals vs us)
 (x:InCallC s s.heap.objs.size (bindL (envOfC qual scope s.heap.objs.size f cd).kindOf (ps.zip us) fun _=>none) (cellsFrom (s.heap.objs.size+1) scope.names []) (bindC (envOfC qual scope s.heap.objs.size f cd).kindOf (ps.zip us) fun _=>none) s1) :
 Inv (nF CX P w K mg base N qual scope f cd A outer s H E) [] (start N vs) H s1:=by
 have oI:ps.length≤N.length:=by have:=congrArg List.length S.pre;rw[List.length_take]at this;omega
 obtain⟨h1,tk,rfl,hk⟩:=x.done
 have noA:∀b:Addr,b∉(nF CX P w K mg base N qual scope f cd A outer s H E).ex:=fun b z=>absurd (show b∈([]:List Addr) from z) (by simp)
 refine⟨⟨e0.mod,S.kind,rfl,rfl,Nat.le_refl _,fun y z c h1 h2=>?_,fun y hy=>?_,fun y c _ h=>?_,fun _=>hd,Around.frames_deeper e0.frames,.inr ⟨rfl,rfl⟩,fun b z=>absurd z (noA b),e0.bs,e0.Wt,fun b _ _=>noA b,fun b z=>absurd z (noA b),e0.yn,e0.Zd⟩,
  rfl,e0.bare,Un.kept hk,⟨_,x.toInCall.ns,fun i y v h1 h2 h3=>?_⟩,fun y c h=>⟨_,x.cell y c h⟩,e0.cD.fresh (Nat.le_refl _),fun y c h=>?_,fun p hp=>absurd (show p∈([]:List (Addr×Obj)) from hp) (by simp),e0.cD.kept hk,?_⟩
 ·exact name_of_addr x.apart (PySem.mem_of_lookup h1) (PySem.mem_of_lookup h2)
 ·have hy:scope.names.lookup y=some .cell∨scope.names.lookup y=some .free:=hy
  rcases hy with hy|hy
  ·exact Ma hy
  ·exact absurd rfl (S.aay _ (PySem.mem_of_lookup hy))
 ·exact Nat.le_of_lt (x.above y c (PySem.mem_of_lookup h))
 ·have hi:i<vs.length:=by
   unfold start at h2
   by_cases hi:i<vs.length
   ·exact hi
   ·rw[List.getElem?_append_right (by simpa using hi)]at h2
    rw[List.getElem?_replicate]at h2
    split at h2<;>cases h2
  have ha:vs[i]?=some v:=by
   unfold start at h2
   rw[List.getElem?_append_left (by simpa using hi),List.getElem?_map]at h2
   cases e:vs[i]? with
   |none=>rw[e]at h2;cases h2
   |some a=>rw[e]at h2;cases h2;rfl
  obtain⟨u,hu,rv⟩:=r.get ha
  have hp:ps[i]?=some y:=by
   rw[←S.pre,List.getElem?_take_of_lt (by omega)];exact h1
  have ndP:ps.Nodup:=by rw[←S.pre];exact S.nd.sublist (List.take_sublist _ _)
  refine⟨u,rv,?_⟩
  rcases S.par y (List.mem_of_getElem? hp) with k|k
  ·exact .inl ⟨k,I0 ndP hp hu k⟩
  ·obtain⟨c,e⟩:=Ma (n:=s.heap.objs.size+1) k
   refine .inr ⟨.inl k,c,e,?_⟩
   have q:=x.cell y c e
   rw[Ja ndP hp hu (by show scope.names.lookup y≠_;rw[k];decide)]at q
   exact q
 ·exact e0.cD.fresh (Nat.le_of_lt (x.above y c (PySem.mem_of_lookup h)))
 ·unfold start
  show _=N.length
  rw[List.length_append,List.length_map,List.length_replicate]
  omega
theorem ady {CX:RP} {P:Program} {w:World} {K:PySem.W.Frag} {mg:Str→Option Value} {base:Heap} {k:Nat} {f:Addr} {name qual:Str} {params:Arguments} {body:List Stmt} {scope:Scope} {dV kV doc pm cF ct oc:Value} {an od:Option Addr}
 {Jb:Array (Option Value)} {N ps:List Str} {sp:Sp} (lk:K.lookup f=some ⟨oc,od,.func (PySem.W.fnOf name qual params body scope dV kV doc pm an cF ct),Jb⟩) (Wv:PySem.W.codeIn K cF qual=true) (S:ay N ps scope)
 (len:∀vs H Q E,sp vs H Q E→vs.length=ps.length)
 (Mb:∀(A:Around) (outer:List Env) (s:Shared) (H:Hp) (vs:List V) (Q:VK) (E:XK),ia k (A.deeper (envOfC qual scope s.heap.objs.size f cF))→sp vs H Q E →
  ∃t,RH (nF CX P w K mg base N qual scope f cF A outer s H E) body t∧t {nx:=fun _ H'=>Q .de H',rt:=Q} (start N vs) H) :
 tT P w K mg base CX (k+1) f (PySem.W.fnOf name qual params body scope dV kV doc pm an cF ct) ps sp:=by
 refine⟨len,fun A outer s H args us vs Q E hr e0 hb r QH=>?_⟩
 have hl:=len _ _ _ _ QH
 have KX:K.In s.heap:=e0.mod.RF.keeps fun b o e=>(e0.bs b o e).1
 have lim:s.heap.NoLimit:=e0.mod.nolimit.keeps fun b o e=>(e0.bs b o e).1
 have adz:∀y∈ps.zip us,scope.names.lookup y.1=some .local∨(scope.names.lookup y.1=some .cell∧((cellsFrom (s.heap.objs.size+1) scope.names []).lookup y.1).isSome=true):=fun⟨n,v⟩ hy=>by
  rcases S.par n (List.of_mem_zip hy).1 with q|q
  ·exact .inl q
  ·exact .inr ⟨q,PySem.W.cellsFrom_some _ _ _ (.inl q)⟩
 refine codeAny_call_function hr.depth (KX _ _ lk) rfl S.co S.gen rfl (PySem.W.codeRec_of KX Wv) (hb _ _ _ _ ?_)
 refine wpAny_newFunctionEnv_cells S.kind adz fun env he s1 x=>?_
 subst he
 refine⟨lim.keeps x.toInCall.keep,codeAny_func ?_⟩
 obtain⟨t,ht,hq⟩:=Mb A outer s H vs Q E (hr.deeper _) QH
 have I:Inv (nF CX P w K mg base N qual scope f cF A outer s H E) [] (start N vs) H s1:=RQ S hr.hd e0 hl r x
 refine wpAny_mono (ht [] s1 (start N vs) H _ I hq) (fun fl s' hs=>?_) fun e s' hs=>hs
 have fin:∀{σ':St} {H':Hp} {v:V} {u:Value},Inv (nF CX P w K mg base N qual scope f cF A outer s H E) [] σ' H' s'→RelV v u→Q v H'→CE outer P w H s Q u s' :=
  fun{σ' H' v u} J rv q=>⟨v,H',J.os,J.bare,J.base,J.cD,rv,q⟩
 cases fl with
 |ret u =>
  obtain⟨v,σ',H',J,rv,q⟩:=hs
  exact fin J rv q
 |next =>
  obtain⟨σ',H',J,q⟩:=hs
  exact fin (v:=V.de) (u:=Value.none) J rfl q
 |brk =>
  obtain⟨_,_,_,q⟩:=hs
  exact False.elim q
 |cont =>
  obtain⟨_,_,_,q⟩:=hs
  exact False.elim q
end L2
namespace L2
open PySem PySem.Spec PyProof.Rows
section
variable {X:Cx} {x:Str} {p pos:Pos} {e:Expr} {es:List Expr} {t:TA} {id T:String} {r:List V→Hp→VK→Prop}
def tCB (r:List V→Hp→VK→Prop) (t:TA):TE:=fun σ H Q=>t σ H fun vs H1=>r vs H1 Q
theorem aV (hc:oR X (.builtin id) r) (hg:Gl X x) (hm:X.mg x=none) (hv:bootBuiltins x=some (.builtin id)) (ha:PA X (e::es) t) (hn:x ≠ "__name__":=by decide) (J2:(x==("__debug__" : Str))=false:=by decide)
 (he:starEach (e::es) X.env=(false,eval e X.env)::starEach es X.env:=by rfl) (oI:(backTo pos (starEach es X.env)).any (·.1)=false:=by rfl):PE X (.Call (.Name x p) (e::es) [] pos) (tCB r t):=by
 intro pins s σ H Q I h
 refine wpAny_Call_Name_kw (rp I hg hm hv ?_ hn J2)
 exact PyProof.Rows.callWith_builtin1 (dj (ha pos pins s σ H _ I h) fun us s1 ⟨vs,H1,I1,r1,q1⟩=>hc pins s1 σ H1 vs us Q I1 r1 q1) he oI
theorem wu (hc:oR X (.type T) r) (hg:Gl X x) (hm:X.mg x=none) (hv:bootBuiltins x=some (.type T)) (ha:PA X (e::es) t) (hn:x ≠ "__name__":=by decide) (J2:(x==("__debug__" : Str))=false:=by decide)
 (he:starEach (e::es) X.env=(false,eval e X.env)::starEach es X.env:=by rfl) (oI:(backTo pos (starEach es X.env)).any (·.1)=false:=by rfl):PE X (.Call (.Name x p) (e::es) [] pos) (tCB r t):=by
 intro pins s σ H Q I h
 refine wpAny_Call_Name_kw (rp I hg hm hv ?_ hn J2)
 exact PyProof.Rows.callWith_type1 (dj (ha pos pins s σ H _ I h) fun us s1 ⟨vs,H1,I1,r1,q1⟩=>hc pins s1 σ H1 vs us Q I1 r1 q1) he oI
end
end L2
namespace HT
open PySem PyProof.Rows
section
variable {prog:Program} {w:World} {A:Around} {E:Value→Shared→Prop} {s:Shared}
theorem W6 {t b:Addr} {vs ws:List Value} {Q:Value→Shared→Prop} (ht:IsTup s.heap t vs.toArray) (hb:IsTup s.heap b ws.toArray) (hv:vs≠[])
 (h1:ws=[]→Q (.ref t) s) (h2:ws≠[]→Q (.ref s.heap.objs.size) {s with heap:=s.heap.push {cls:=.type "tuple",data:=.seq (vs++ws).toArray}})
 (hsz:vs.length+ws.length≤sizeLine):wpAny (model prog w) A (binaryOp .Add (.ref t) (.ref b)) Q E s:=by
 obtain⟨⟨cls,dd,data,sl⟩,ho,hc,n,hd⟩:=id ht
 obtain⟨⟨agW,dd2,data2,sl2⟩,ho2,LY,n2,hd2⟩:=id hb
 simp only at hc hd LY hd2
 subst hc hd LY hd2
 have e:vs.toArray++ws.toArray=(vs++ws).toArray:=by simp
 by_cases hw:ws=[]
 ·exact concat_meets ⟨_,ho,rfl⟩ ⟨_,ho2,rfl⟩ noFill_tuple_add seq_tuple_add PySem.F.slot_tuple_add PySem.F.entry_tuple_add (PySem.F.args_tuple_add_2 _ _)
   (tuple_addW1 t b vs.toArray ws.toArray n n2 dd dd2 sl sl2 (by simpa using hv) (by simp[hw])) ⟨ho,ho2,h1 hw⟩
 ·refine concat_meets ⟨_,ho,rfl⟩ ⟨_,ho2,rfl⟩ noFill_tuple_add seq_tuple_add PySem.F.slot_tuple_add PySem.F.entry_tuple_add (PySem.F.args_tuple_add_2 _ _)
   (tuple_addW2 t b vs.toArray ws.toArray n n2 dd dd2 sl sl2 (by simpa using hv) (by simpa using hw) (by rw[List.size_toArray,List.size_toArray];exact hsz)) ⟨ho,ho2,?_⟩
  rw[e]
  exact h2 hw
def Hk (n d:Nat):Option Int→Nat
 |none=>d
 |some v=>if v<0 then(v+(n:Int)).toNat else min v.toNat n
theorem E8 (n d:Nat):Hk n d none=d:=rfl
theorem zP (n d k:Nat):Hk n d (some (k:Int))=min k n:=by
 show(if (k:Int)<0 then((k:Int)+(n:Int)).toNat else min (k:Int).toNat n)=min k n
 rw[if_neg (by omega),Int.toNat_natCast]
end
end HT
namespace L2
open PySem PySem.Spec PyProof.Rows
abbrev TO:=St→Hp→(Option Int→Hp→Prop)→Prop
def PO (X:Cx) (e:Option Expr) (t:TO):Prop :=
 ∀(pins:List (Addr×Obj)) (s:Shared) (σ:St) (H:Hp) (Q:Option Int→Hp→Prop),Inv X pins σ H s→t σ H Q →
  wpAny (model X.prog X.w) X.A (evalPart e X.env) (fun u s'=>∃o H',Inv X pins σ H' s'∧IsPart u o∧Q o H') X.xe s
def W7:TO:=fun _ H Q=>Q none H
def adA (t:TE):TO:=fun σ H Q=>t σ H fun x H1=>∃i,x = .int i∧Q (some i) H1
section
variable {X:Cx} {e:Expr} {te:TE} {lo hi:Option Expr} {tl th:TO} {pos p2:Pos}
theorem Ez:PO X none W7:=by
 intro pins s σ H Q I h
 rw[evalPart_none]
 exact wpAny_pure ⟨none,H,I,.none,h⟩
theorem gV (h:PE X e te):PO X (some e) (adA te):=by
 intro pins s σ H Q I hw
 rw[evalPart_some]
 refine dj (h pins s σ H _ I hw) fun u s1 ⟨x,H1,I1,r1,q1⟩=>?_
 obtain⟨i,rfl,q⟩:=q1
 obtain⟨t,rfl⟩:=r1
 exact⟨some i,H1,I1,.int i t,q⟩
def SlR (X:Cx) (r:V→Option Int→Option Int→Hp→VK→Prop):Prop :=
 ∀(pins:List (Addr×Obj)) (s:Shared) (σ:St) (H:Hp) (x:V) (v vl vu:Value) (lo hi:Option Int) (sl:Addr) (Q:VK),Inv X pins σ H s→RelV x v→s.heap.IsSliceOf sl vl vu .none→IsPart vl lo→IsPart vu hi→r x lo hi H Q →
  ∃T id,typeLookup (.type T) "__getitem__" = pure (some (.builtin id))∧s.TypeIs v T∧wpAny (model X.prog X.w) X.A (getItem v (.ref sl)) (EP X pins σ Q) X.xe s
def tSl (r:V→Option Int→Option Int→Hp→VK→Prop) (te:TE) (tl th:TO):TE:=fun σ H Q=>te σ H fun x H1=>tl σ H1 fun l H2=>th σ H2 fun u H3=>r x l u H3 Q
theorem jH {r:V→Option Int→Option Int→Hp→VK→Prop} (hr:SlR X r) (he:PE X e te) (hl:PO X lo tl) (hu:PO X hi th):PE X (.Subscript e (.Slice lo hi none p2) pos) (tSl r te tl th):=by
 intro pins s σ H Q I h
 refine Subscript_ (dj (he pins s σ H _ I h) fun v s1 ⟨x,H1,I1,r1,q1⟩=>?_)
 refine wpAny_Slice (dj (hl pins s1 σ H1 _ I1 q1) fun vl s2 ⟨l,H2,I2,pl,q2⟩=>dj (hu pins s2 σ H2 _ I2 q2) fun vu s3 ⟨u,H3,I3,pu,q3⟩=>?_)
 rw[evalPart_none]
 refine wpAny_pure ?_
 have I4:Inv X pins σ H3 {s3 with heap:=s3.heap.push {cls:=.type "slice",data:=.fields #[vl,vu,.none]}}:=I3.kept (t':=s3.toks) fun b ob q=>Heap.get?_push_of_some _ q
 obtain⟨T,id,hT,ht,hg⟩:=hr pins {s3 with heap:=s3.heap.push {cls:=.type "slice",data:=.fields #[vl,vu,.none]}} σ H3 x v vl vu l u s3.heap.objs.size Q I4 r1 (Heap.IsSliceOf.new ..) pl pu q3
 show wpAny (model X.prog X.w) X.A (subscriptTail e (.Slice lo hi none p2) v (.ref s3.heap.objs.size)) (EP X pins σ Q) X.xe {s3 with heap:=s3.heap.push {cls:=.type "slice",data:=.fields #[vl,vu,.none]}}
 exact tail_any (ops:=[.ref s3.heap.objs.size,v]) ht hT hg (by with_unfolding_all rfl)
def zQ (xs:List V) (lo hi:Option Int):List V:=(xs.drop (HT.Hk xs.length 0 lo)).take (HT.Hk xs.length xs.length hi-HT.Hk xs.length 0 lo)
theorem Mc (xs:List V) (lo hi:Option Int):(zQ xs lo hi).length≤xs.length:=by
 unfold zQ
 rw[List.length_take,List.length_drop]
 omega
def adB (K:PySem.W.Frag):R2:=fun x y H Q=>∃a b xs ys,x = .ref a∧y = .ref b∧tS K H a xs∧tS K H b ys∧xs≠[]∧xs.length+ys.length≤sizeLine ∧
 (ys=[]→Q (.ref a) H)∧(ys≠[]→∀p,H p=none→Q (.ref p) (upd H p (.tup (xs++ys))))
theorem Vals.EA {xs:List V} {us:List Value} (r:Vals xs us):us=[]↔xs=[]:=by
 cases r with
 |nil=>simp
 |cons _ _=>simp
theorem W8:zH X (binaryOp .Add) (adB X.K):=by
 intro pins s σ H x y v u Q I rx ry h
 obtain⟨a,b,xs,ys,rfl,rfl,ha,hb,hx,hz,q1,q2⟩:=h
 cases rx
 cases ry
 obtain⟨bt,r1,p1,_⟩:=I.tuple ha
 obtain⟨rB,r2,p2,_⟩:=I.tuple hb
 refine HT.W6 p1 p2 (fun z=>hx (r1.EA.mp z)) (fun z=>⟨.ref a,H,I,rfl,q1 (r2.EA.mp z)⟩) (fun z=>?_) (by rw[←r1.length,←r2.length];exact hz)
 refine⟨.ref s.heap.objs.size,_,I.laid (t':=s.toks) (o:=.tup (xs++ys)) (fun b ob q=>Heap.get?_push_of_some _ q) (Nat.le_refl _) ?_,rfl,q2 (fun w=>z (r2.EA.mpr w)) _ (I.cD.fresh (Nat.le_refl _))⟩
 exact⟨by rw[List.length_append];exact hz,_,r1.append r2,IsTup.new _ _⟩
end
end L2
namespace L2
open PySem PySem.Spec PyProof.Rows
def T7 (n:Nat) (i:Int):Option Nat:=if 0≤i then(if i<n then some i.toNat else none) else if -(n:Int)≤i then some (i+n).toNat else none
def Ww {α:Type} (xs:List α) (i:Int):Option α:=(T7 xs.length i).bind fun j=>xs[j]?
theorem QI {n:Nat} {i:Int} {j:Nat} (h:T7 n i=some j):seqIndex? i n=some j∧j<n∧-(n:Int)≤i∧i<n:=by
 unfold T7 at h
 by_cases h0:0≤i
 ·rw[if_pos h0]at h
  by_cases h1:i<n
  ·rw[if_pos h1]at h
   have e:i.toNat=j:=Option.some.inj h
   exact⟨by rw[seqIndex_of h0 h1,e],by omega,by omega,h1⟩
  ·rw[if_neg h1]at h;cases h
 ·rw[if_neg h0]at h
  by_cases h1:-(n:Int)≤i
  ·rw[if_pos h1]at h
   have e:(i+n).toNat=j:=Option.some.inj h
   exact⟨by rw[seqIndex_neg (by omega) h1,e],by omega,h1,by omega⟩
  ·rw[if_neg h1]at h;cases h
theorem QJ {α:Type} {xs:List α} {i:Int} {v:α} (h:Ww xs i=some v):∃j,seqIndex? i xs.length=some j∧xs[j]?=some v∧j<xs.length∧-(xs.length:Int)≤i∧i<xs.length:=by
 unfold Ww at h
 cases e:T7 xs.length i with
 |none=>rw[e]at h;cases h
 |some j =>
  rw[e]at h
  obtain⟨h1,h2,h3,h4⟩:=QI e
  exact⟨j,h1,h,h2,h3,h4⟩
theorem QK {α:Type} {xs:List α} {j:Nat} {v:α} (h:xs[j]?=some v):Ww xs (j:Int)=some v:=by
 have hj:j<xs.length:=(List.getElem?_eq_some_iff.mp h).1
 have e:T7 xs.length (j:Int)=some j:=by
  unfold T7
  rw[if_pos (by omega),if_pos (by omega)];simp
 unfold Ww;rw[e];exact h
theorem Md {α:Type} (xs:List α) (v:α):Ww (xs++[v]) (-1)=some v:=by
 have hl:(xs++[v]).length=xs.length+1:=by simp
 have e:T7 (xs++[v]).length (-1)=some xs.length:=by
  unfold T7
  rw[hl,if_neg (by decide),if_pos (by omega)]
  congr 1
  omega
 unfold Ww
 rw[e]
 show(xs++[v])[xs.length]?=some v
 simp
def W9 (b:Expr):Prop:=∀o i,subscripted b false o i=operate [o,i] (getItem o i)
def IxR (X:Cx) (r:R2):Prop :=
 ∀(value slice:Expr) (pins:List (Addr×Obj)) (s:Shared) (σ:St) (H:Hp) (x y:V) (v u:Value) (Q:VK),Inv X pins σ H s→RelV x v→RelV y u→r x y H Q →
  subscripted slice false v u=operate [v,u] (getItem v u)→wpAny (model X.prog X.w) X.A (subscriptTail value slice v u) (EP X pins σ Q) X.xe s
def MtR (X:Cx) (id:String) (r:V→List V→Hp→VK→Prop):Prop :=
 ∀(pins:List (Addr×Obj)) (s:Shared) (σ:St) (H:Hp) (x:V) (xs:List V) (v:Value) (us:List Value) (Q:VK),Inv X pins σ H s→RelV x v→Vals xs us→r x xs H Q →
  wpAny (model X.prog X.w) X.A (call (.builtin id) (v::us)) (EP X pins σ Q) X.xe s
section
variable {X:Cx} {a b:Expr} {ta tb:TE} {pos:Pos}
theorem fL {r:R2} (hr:IxR X r) (ha:PE X a ta) (hb:PE X b tb) (hs:W9 b):PE X (.Subscript a b pos) (Zh r ta tb):=by
 intro pins s σ H Q I h
 exact Subscript_ (aat ha hb I h fun v u s2 x y H2 I2 rx ry q=>hr a b pins s2 σ H2 x y v u Q I2 rx ry q (hs _ _))
def adC (K:PySem.W.Frag):R2:=fun x y H Q=>∃p xs i v,x = .ref p∧y = .int i∧bO K H p xs∧Ww xs i=some v∧Q v H
def adD (K:PySem.W.Frag):R2:=fun x y H Q=>∃p xs i v,x = .ref p∧y = .int i∧tS K H p xs∧Ww xs i=some v∧Q v H
theorem cG:IxR X (adC X.K):=by
 intro value slice pins s σ H x y v u Q I rx ry h hs
 obtain⟨p,xs,i,z,rfl,rfl,hq,he,q⟩:=h
 cases rx
 obtain⟨t,rfl⟩:=ry
 obtain⟨bt,r,pl,hz⟩:=I.list hq
 obtain⟨j,h1,h2,h3,h4,h5⟩:=QJ he
 obtain⟨w,ew,T9⟩:=r.get h2
 have hl:=r.length
 have hn:=E0
 have fin:EP X pins σ Q w s:=⟨z,H,I,T9,q⟩
 by_cases h0:0≤i
 ·have hj:i.toNat=j:=by
   rw[seqIndex_of h0 h5]at h1
   exact Option.some.inj h1
  exact item_listR pl.isList h0 (by omega) (by rw[hj];simpa using ew) fin hs
 ·have hj:(i+(bt.toArray.size:Int)).toNat=j:=by
   rw[seqIndex_neg (by omega) h4]at h1
   rw[List.size_toArray,←hl]
   exact Option.some.inj h1
  exact subscriptTail_builtinR (x:=w) pl.isList.typeIs slot_list_getitem.lookup
   (wpAny_getItem_list_neg (Q:=fun r s'=>r=w∧EP X pins σ Q r s') pl.isList (by omega) (by rw[List.size_toArray]<;>omega) (by omega) (by rw[hj];simpa using ew) ⟨rfl,fin⟩) hs
theorem Oh:IxR X (adD X.K):=by
 intro value slice pins s σ H x y v u Q I rx ry h hs
 obtain⟨p,xs,i,z,rfl,rfl,hq,he,q⟩:=h
 cases rx
 obtain⟨t,rfl⟩:=ry
 obtain⟨bt,r,pl,hz⟩:=I.tuple hq
 obtain⟨j,h1,h2,h3,h4,h5⟩:=QJ he
 obtain⟨w,ew,T9⟩:=r.get h2
 have hl:=r.length
 have hn:=E0
 have fin:EP X pins σ Q w s:=⟨z,H,I,T9,q⟩
 exact subscriptTail_builtinR (x:=w) pl.typeIs slot_tuple_getitem.lookup
  (getItem_tuple (j:=j) (Q:=fun r s'=>r=w∧EP X pins σ Q r s') pl (by omega) (by omega) (by rw[List.size_toArray,←hl];exact h1) (by simpa using ew) ⟨rfl,fin⟩) hs
theorem Oi (bt:List Value) (n j:Nat) (u:Value):Obj.mapSeq (·.setIfInBounds j u) {cls:=.type "list",data:=.seq bt.toArray n} = {cls:=.type "list",data:=.seq (bt.set j u).toArray n}:=by
 simp[Obj.mapSeq]
theorem Inv.lst {pins:List (Addr×Obj)} {σ:St} {H:Hp} {s:Shared} {p:Addr} {xs:List V} (I:Inv X pins σ H s) (h:H p=some (.lst xs)) :
 ∃(bt:List Value) (n:Nat),Vals xs bt∧s.heap.get? p=some {cls:=.type "list",data:=.seq bt.toArray n}∧xs.length≤sizeLine:=by
 obtain⟨z,bt,n,r,e⟩:=I.cD p _ h
 exact⟨bt,n,r,e,z⟩
theorem Inv.aaA {pins:List (Addr×Obj)} {σ:St} {H:Hp} {s:Shared} {p:Addr} {xs ys:List V} {bt its':List Value} {n n':Nat} {f:Obj→Obj} (I:Inv X pins σ H s) (h:H p=some (.lst xs))
 (ho:s.heap.get? p=some {cls:=.type "list",data:=.seq bt.toArray n}) (hf:f {cls:=.type "list",data:=.seq bt.toArray n} = {cls:=.type "list",data:=.seq its'.toArray n'}) (r:Vals ys its') (hz:ys.length≤sizeLine) (t:Nat) :
 Inv X pins σ (upd H p (.lst ys)) {s with heap:=s.heap.update p f,toks:=t}:=by
 have e:(s.heap.update p f).get? p=some {cls:=.type "list",data:=.seq its'.toArray n'}:=by
  rw[Heap.get?_update_self f ho (by rw[hf]<;>rfl),hf]
 refine I.write (x:=p) (e:=p) (by rw[h];trivial) (.inl rfl) (fun b u hb q=>(Heap.get?_update_other _ _ (Ne.symm hb)).trans q) ⟨_,e⟩ ?_
 exact⟨hz,its',n',r,e⟩
def adE:V→V→V→Hp→(Hp→Prop)→Prop:=fun o i v H Q=>∃p xs k j,o = .ref p∧i = .int k∧H p=some (.lst xs)∧T7 xs.length k=some j∧Q (upd H p (.lst (xs.set j v)))
theorem set_list:adh X adE:=by
 intro pins s σ H o i v ov iv u Q I ro ri rv h
 obtain⟨p,xs,k,j,rfl,rfl,hp,hj,q⟩:=h
 cases ro
 obtain⟨t,rfl⟩:=ri
 obtain⟨bt,n,r,ho,hz⟩:=I.lst hp
 obtain⟨h1,h2,h3,h4⟩:=QI hj
 have hl:=r.length
 have hn:=E0
 have I':Inv X pins σ (upd H p (.lst (xs.set j v))) {s with heap:=s.heap.update p (Obj.mapSeq (·.setIfInBounds j u))} :=
  I.aaA hp ho (Oi bt n j u) (r.set rv j) (by rw[List.length_set];exact hz) s.toks
 by_cases h0:0≤k
 ·have hk:k.toNat=j:=by
   rw[seqIndex_of h0 h4]at h1
   exact Option.some.inj h1
  exact PySem.W.ki_setAt ho h0 (by omega) (by rw[List.size_toArray,←hl];exact h4) (by rw[hk];exact⟨_,I',q⟩)
 ·have hk:(k+(bt.toArray.size:Int)).toNat=j:=by
   rw[seqIndex_neg (by omega) h3]at h1
   rw[List.size_toArray,←hl]
   exact Option.some.inj h1
  exact PySem.W.ki_setBack ho (by omega) (by rw[List.size_toArray,←hl];exact h3) (by omega) (by rw[hk];exact⟨_,I',q⟩)
theorem J3 (lo hi:Option Int) (n:Nat):(sliceBounds lo hi none n).1=((HT.Hk n 0 lo:Nat):Int)∧(sliceBounds lo hi none n).2.1=((HT.Hk n n hi:Nat):Int)∧(sliceBounds lo hi none n).2.2=1:=by
 refine⟨?_,?_,rfl⟩
 ·cases lo with
  |none=>simp[sliceBounds,HT.Hk]
  |some i =>
   simp only[sliceBounds,HT.Hk,Option.getD_none,show(1:Int)>0 by decide,if_true]
   by_cases h:i<0
   ·simp only[h,if_true]<;>omega
   ·simp only[h,if_false]<;>omega
 ·cases hi with
  |none=>simp[sliceBounds,HT.Hk]
  |some i =>
   simp only[sliceBounds,HT.Hk,Option.getD_none,show(1:Int)>0 by decide,if_true]
   by_cases h:i<0
   ·simp only[h,if_true]<;>omega
   ·simp only[h,if_false]<;>omega
theorem Hl (bt:List Value) (lo hi:Option Int):slicePick bt.toArray lo hi none=((bt.drop (HT.Hk bt.length 0 lo)).take (HT.Hk bt.length bt.length hi-HT.Hk bt.length 0 lo)).toArray:=by
 obtain⟨h1,h2,h3⟩:=J3 lo hi bt.toArray.size
 unfold slicePick
 rw[h1,h2,h3]
 simp only[sliceRange_one,pick_run,List.size_toArray]<;>rfl
def agY (K:PySem.W.Frag):V→Option Int→Option Int→Hp→VK→Prop:=fun x lo hi H Q=>∃a xs,x = .ref a∧bO K H a xs∧∀p,H p=none→Q (.ref p) (upd H p (.lst (zQ xs lo hi)))
theorem mX:SlR X (agY X.K):=by
 intro pins s σ H x v vl vu lo hi sl Q I rx hs pl pu h
 obtain⟨a,xs,rfl,hx,q⟩:=h
 cases rx
 obtain⟨bt,r,ht,hz⟩:=I.list hx
 have hlen:=r.length
 refine⟨"list",_,slot_list_getitem.lookup,ht.isList.typeIs,?_⟩
 refine wpAny_getItem_list_slice ht.isList hs pl pu .none (by simp) ?_ (by rw[List.size_toArray]<;>omega)
 rw[Hl,←hlen]
 refine⟨.ref s.heap.objs.size,_,I.laid (t':=s.toks) (o:=.lst (zQ xs lo hi)) (fun b ob q=>Heap.get?_push_of_some _ q) (Nat.le_refl _) ?_,rfl,q _ (I.cD.fresh (Nat.le_refl _))⟩
 exact⟨Nat.le_trans (Mc xs lo hi) hz,_,0,(r.drop (HT.Hk xs.length 0 lo)).take (HT.Hk xs.length xs.length hi-HT.Hk xs.length 0 lo),Heap.get?_push_size _ rfl⟩
def CK:V→Bool
 | .de=>true
 | .bl _=>true
 | .int _=>true
 | .str _=>true
 |_=>false
def Ua:V→V→Bool
 | .de,.de=>true
 | .bl a,.bl b=>a==b
 | .bl a,.int b=>(if a then 1 else 0)==b
 | .int a,.bl b=>a==(if b then 1 else 0)
 | .int a,.int b=>a==b
 | .str a,.str b=>a==b
 |_,_=>false
theorem aaB {A:Around} {s:Shared} {y x:V} {u v:Value} (ry:RelV y u) (rx:RelV x v) (fy:CK y=true) (fx:CK x=true):SeqAt.EqAt A s u v (Ua y x):=by
 cases y with
 |de =>
  cases ry
  cases x with
  |de=>cases rx;exact SeqAt.EqAt.same _
  |bl b=>cases rx;exact SeqAt.EqAt.none_bool b
  |int b=>obtain⟨t,rfl⟩:=rx;exact SeqAt.EqAt.none_int b t
  |str b=>obtain⟨t,rfl⟩:=rx;exact SeqAt.EqAt.none_str b t
  |_=>exact absurd (show false=true from fx) Bool.false_ne_true
 |bl a =>
  cases ry
  cases x with
  |de=>cases rx;exact SeqAt.EqAt.bool_none a
  |bl b=>cases rx;exact SeqAt.EqAt.bool_bool a b
  |int b=>obtain⟨t,rfl⟩:=rx;exact SeqAt.EqAt.bool_int a b t
  |str b=>obtain⟨t,rfl⟩:=rx;exact SeqAt.EqAt.bool_str a b t
  |_=>exact absurd (show false=true from fx) Bool.false_ne_true
 |int a =>
  obtain⟨t',rfl⟩:=ry
  cases x with
  |de=>cases rx;exact SeqAt.EqAt.int_none a t'
  |bl b=>cases rx;exact SeqAt.EqAt.int_bool a t' b
  |int b=>obtain⟨t,rfl⟩:=rx;exact SeqAt.EqAt.int_int a t' b t
  |str b=>obtain⟨t,rfl⟩:=rx;exact SeqAt.EqAt.int_str a t' b t
  |_=>exact absurd (show false=true from fx) Bool.false_ne_true
 |str a =>
  obtain⟨t',rfl⟩:=ry
  cases x with
  |de=>cases rx;exact SeqAt.EqAt.str_none a t'
  |bl b=>cases rx;exact SeqAt.EqAt.str_bool a t' b
  |int b=>obtain⟨t,rfl⟩:=rx;exact SeqAt.EqAt.str_int a t' b t
  |str b=>obtain⟨t,rfl⟩:=rx;exact SeqAt.EqAt.str_str a t' b t
  |_=>exact absurd (show false=true from fx) Bool.false_ne_true
 |_=>exact absurd (show false=true from fy) Bool.false_ne_true
def Xa (x:V) (u:Value):Bool:=match u with
 | .none=>Ua .de x
 | .bool b=>Ua (.bl b) x
 | .int i _=>Ua (.int i) x
 | .str z _=>Ua (.str z) x
 |_=>false
theorem Ub {x y:V} {u:Value} (r:RelV y u) (f:CK y=true):Xa x u=Ua y x:=by
 cases y with
 |de=>cases r;rfl
 |bl b=>cases r;rfl
 |int i=>obtain⟨t,rfl⟩:=r;rfl
 |str z=>obtain⟨t,rfl⟩:=r;rfl
 |_=>exact absurd (show false=true from f) Bool.false_ne_true
theorem J4 {x:V}:∀{xs:List V} {us:List Value},Vals xs us→xs.all CK=true→us.any (Xa x)=xs.any fun y=>Ua y x
 |_,_,.nil,_=>rfl
 |y::xs,u::us,.cons r t,f=>by
  rw[List.all_cons,Bool.and_eq_true]at f
  rw[List.any_cons,List.any_cons,Ub r f.1,J4 t f.2]
theorem E9 {A:Around} {s:Shared} {x:V} {v:Value} (rx:RelV x v) (fx:CK x=true):∀{xs:List V} {us:List Value},Vals xs us→xs.all CK=true→∀u∈us,SeqAt.EqAt A s u v (Xa x u)
 |_,_,.nil,_=>fun u hu=>by cases hu
 |y::xs,u::us,.cons r t,f=>fun u' hu=>by
  rw[List.all_cons,Bool.and_eq_true]at f
  rcases List.mem_cons.mp hu with rfl|hu
  ·rw[Ub r f.1];exact aaB r rx f.1 fx
  ·exact E9 rx fx t f.2 u' hu
def Uc (x:V) (xs:List V):Bool:=xs.any fun y=>Ua y x
def rIn (K:PySem.W.Frag) (neg:Bool):R2:=fun x y H Q=>∃p xs,y = .ref p∧(bO K H p xs∨tS K H p xs)∧CK x=true∧xs.all CK=true∧Q (.bl (if neg then !Uc x xs else Uc x xs)) H
theorem BD:zH X (compareOp .In) (rIn X.K false):=by
 intro pins s σ H x y v u Q I rx ry h
 obtain⟨p,xs,rfl,hq,fx,fs,q⟩:=h
 cases ry
 rcases hq with hq|hq
 ·obtain⟨bt,r,pl,hz⟩:=I.list hq
  refine SeqAt.in_listAt (Xa x) pl.isList (fun w hw=>E9 rx fx r fs w (by simpa using hw)) ⟨.bl _,H,I,rfl,?_⟩
  rw[show bt.toArray.any (Xa x)=bt.any (Xa x) by simp,J4 r fs]
  exact q
 ·obtain⟨bt,r,pl,hz⟩:=I.tuple hq
  refine SeqAt.in_tupleAt (Xa x) pl (fun w hw=>E9 rx fx r fs w (by simpa using hw)) ⟨.bl _,H,I,rfl,?_⟩
  rw[show bt.toArray.any (Xa x)=bt.any (Xa x) by simp,J4 r fs]
  exact q
theorem aJ:oR X (.builtin "len") (fun xs H Q=>∃p ys,xs=[.ref p]∧(bO X.K H p ys∨tS X.K H p ys)∧Q (.int ys.length) H):=by
 intro pins s σ H xs us Q I r h
 obtain⟨p,ys,rfl,hq,q⟩:=h
 obtain⟨u,rfl,rx⟩:=vals1 r
 cases rx
 have hn:=E0
 rcases hq with hq|hq
 ·obtain⟨bt,r',pl,hz⟩:=I.list hq
  have hlen:=r'.length
  exact Calls.call_len_list pl.isList (by simp only[List.size_toArray]<;>omega) ⟨.int ys.length,H,I.tok _,⟨s.toks+1,by rw[List.size_toArray,hlen]⟩,q⟩
 ·obtain⟨bt,r',pl,hz⟩:=I.tuple hq
  have hlen:=r'.length
  exact len_tuple pl (by simp only[List.size_toArray]<;>omega) ⟨.int ys.length,H,I.tok _,⟨s.toks+1,by rw[List.size_toArray,hlen]⟩,q⟩
theorem J5:oR X (.type "list") (fun xs H Q=>∃p ys,xs=[.ref p]∧(bO X.K H p ys∨tS X.K H p ys)∧∀l,H l=none→Q (.ref l) (upd H l (.lst ys))):=by
 intro pins s σ H xs us Q I r h
 obtain⟨p,ys,rfl,hq,q⟩:=h
 obtain⟨u,rfl,rx⟩:=vals1 r
 cases rx
 have fin:∀(bt:List Value),Vals ys bt→ys.length≤sizeLine→∀(h':Heap) (c':Nat),(∀b o',s.heap.get? b=some o'→h'.get? b=some o') →
  h'.get? s.heap.objs.size=some {cls:=.type "list",dict:=none,data:=.seq bt.toArray c',slots:=#[]}→EP X pins σ Q (.ref s.heap.objs.size) {s with heap:=h'}:=fun bt r' hz h' c' kp e =>
  ⟨.ref s.heap.objs.size,_,I.laid (t':=s.toks) kp (Nat.le_refl _) (show eX X.prog X.w _ h' _ (.lst ys) from ⟨hz,bt,c',r',e⟩),rfl,q _ (I.cD.fresh (Nat.le_refl _))⟩
 rcases hq with hq|hq
 ·obtain⟨bt,r',pl,hz⟩:=I.list hq
  have hlen:=r'.length
  obtain⟨o,ho,hc,n,hd⟩:=pl.isList
  exact call_list_seq p (.inl rfl) ho hc hd (fun h' c' kp e=>fin bt r' hz h' c' kp e) (by simp only[List.size_toArray]<;>omega)
 ·obtain⟨bt,r',pl,hz⟩:=I.tuple hq
  have hlen:=r'.length
  obtain⟨o,ho,hc,n,hd⟩:=pl
  exact call_list_seq p (.inr rfl) ho hc hd (fun h' c' kp e=>fin bt r' hz h' c' kp e) (by simp only[List.size_toArray]<;>omega)
theorem xw:oR X (.type "tuple") (fun xs H Q=>∃p ys,xs=[.ref p]∧((bO X.K H p ys∧∀l,H l=none→Q (.ref l) (upd H l (.tup ys)))∨(tS X.K H p ys∧Q (.ref p) H))):=by
 intro pins s σ H xs us Q I r h
 obtain⟨p,ys,rfl,h⟩:=h
 obtain⟨u,rfl,rx⟩:=vals1 r
 cases rx
 rcases h with⟨hq,q⟩|⟨hq,q⟩
 ·obtain⟨bt,r',pl,hz⟩:=I.list hq
  have hlen:=r'.length
  refine call_tuple_list pl.isList (fun h' kp=>?_) (by simp only[List.size_toArray]<;>omega)
  have I1:Inv X pins σ H {s with heap:=h'}:=I.kept (t':=s.toks) kp
  have I2:Inv X pins σ (upd H h'.objs.size (.tup ys)) {s with heap:=h'.push {cls:=.type "tuple",data:=.seq bt.toArray}} :=
   I1.laid (t':=s.toks) (fun b o e=>Heap.get?_push_of_some _ e) (Nat.le_refl _) (show eX X.prog X.w _ _ _ (.tup ys) from ⟨hz,bt,r',IsTup.new _ _⟩)
  exact⟨.ref h'.objs.size,_,I2,rfl,q _ (I1.cD.fresh (Nat.le_refl _))⟩
 ·obtain⟨bt,r',pl,hz⟩:=I.tuple hq
  exact call_tuple_same pl ⟨.ref p,H,I,rfl,q⟩
def tyV (K:PySem.W.Frag) (T:String) (x:V) (H:Hp):Prop:=match x with
 | .str _=>T = "str"
 | .int _=>T = "int"
 | .ref p=>(T = "list"∧∃xs,bO K H p xs)∨(T = "tuple"∧∃o,K.lookup p=some o∧o.cls = .type "tuple"∧o.dict=none) ∨
  (T = "dict"∧((∃aZ,H p=some (.dK aZ))∨∃aZ,H p=some (.dT aZ)))∨(T = "set"∧∃S n,H p=some (.set S n))
 |_=>False
theorem Ud {pins:List (Addr×Obj)} {σ:St} {H:Hp} {s:Shared} {T:String} {x:V} {v:Value} (I:Inv X pins σ H s) (r:RelV x v) (ty:tyV X.K T x H) :
 s.TypeIs v T∧∀a,v = .ref a→∃ob,s.heap.get? a=some ob∧ob.dict=none:=by
 cases x with
 |str z =>
  obtain⟨t,rfl⟩:=r
  cases(show T = "str" from ty)
  exact⟨typeIs_str s z t,fun _ e=>nomatch e⟩
 |int i =>
  obtain⟨t,rfl⟩:=r
  cases(show T = "int" from ty)
  exact⟨typeIs_int s i t,fun _ e=>nomatch e⟩
 |ref p =>
  cases r
  rcases ty with⟨rfl,xs,hq⟩|⟨rfl,o,hk,hc,hd⟩|⟨rfl,hk⟩|⟨rfl,S,n,hk⟩
  ·obtain⟨bt,_,pl,_⟩:=I.list hq
   refine⟨pl.isList.typeIs,fun a e=>?_⟩
   cases e
   obtain⟨o,n,e,c,hd,_⟩:=pl
   exact⟨o,e,hd⟩
  ·refine⟨⟨o,I.EO p o hk,hc⟩,fun a e=>?_⟩
   cases e
   exact⟨o,I.EO _ o hk,hd⟩
  ·have z:∃o,s.heap.get? p=some o∧o.ExactDict:=by
    rcases hk with⟨aZ,hk⟩|⟨aZ,hk⟩
    ·obtain⟨_,_,_,_,o,_,_,e,ex,_⟩:=I.cD p _ hk
     exact⟨o,e,ex⟩
    ·obtain⟨_,_,_,_,o,_,_,e,ex,_⟩:=I.cD p _ hk
     exact⟨o,e,ex⟩
   obtain⟨o,e,ex⟩:=z
   refine⟨⟨o,e,ex.1⟩,fun a e2=>?_⟩
   cases e2
   exact⟨o,e,ex.2.1⟩
  ·obtain⟨o,_,_,_,e,ex,_⟩:=I.cD p _ hk
   refine⟨⟨o,e,ex.1⟩,fun a e2=>?_⟩
   cases e2
   exact⟨o,e,ex.2.1⟩
 |_=>exact False.elim ty
def ag0 (K:PySem.W.Frag) (T:String) (r:V→List V→Hp→VK→Prop) (to:TE):TE:=fun σ H Q=>to σ H fun x H1=>tyV K T x H1∧r x [] H1 Q
def tBM (K:PySem.W.Frag) (T:String) (r:V→List V→Hp→VK→Prop) (to:TE) (t:TA):TE:=fun σ H Q=>to σ H fun x H1=>tyV K T x H1∧t σ H1 fun xs H2=>r x xs H2 Q
variable {o e:Expr} {es:List Expr} {to:TE} {t:TA} {name:Str} {apos Fb:Pos} {T id:String} {r:V→List V→Hp→VK→Prop}
theorem aaC (pa:PlainAttrs T) (slot:Slot T name id) (hty:typeOf (.builtin id)=pure (.type "method_descriptor")) (hm:MtR X id r) (ho:PE X o to)
 (Jc:attributeBase o name X.env (eval o X.env)=eval o X.env:=by rfl) (Ue:(apos.endLine==Fb.line)=true:=by rfl):PE X (.Call (.Attribute o name apos) [] [] Fb) (ag0 X.K T r to):=by
 intro pins s σ H Q I h
 refine wpAny_Call_method0_late Jc Ue (dj (ho pins s σ H _ I h) fun v s1 ⟨x,H1,I1,r1,ty,q1⟩=>?_)
 obtain⟨h1,h2⟩:=Ud I1 r1 ty
 exact⟨T,id,pa,slot,hty,h1,h2,Calls.callWith_builtin rfl (PySem.evalArgs_none (hm pins s1 σ H1 x [] v [] Q I1 r1 .nil q1))⟩
theorem ue (pa:PlainAttrs T) (slot:Slot T name id) (hty:typeOf (.builtin id)=pure (.type "method_descriptor")) (hm:MtR X id r) (ho:PE X o to) (ha:PA X (e::es) t)
 (Jc:attributeBase o name X.env (eval o X.env)=eval o X.env:=by rfl)
 (ag1:((backTo Fb (starEach (e::es) X.env)).all (fun x=>!x.1)&&(backToKw Fb (keywordEach [] X.env)).all (fun x=>x.1.isSome)
  && decide ((e::es).length+([]:List Keyword).length+(if ([]:List Keyword).isEmpty then 0 else 1)<30))=true:=by rfl)
 (Ue:(apos.endLine==Fb.line)=true:=by rfl) (hs:starEach (e::es) X.env=(false,eval e X.env)::starEach es X.env:=by rfl) (aaD:(backTo Fb (starEach es X.env)).any (·.1)=false:=by rfl) :
 PE X (.Call (.Attribute o name apos) (e::es) [] Fb) (tBM X.K T r to t):=by
 intro pins s σ H Q I h
 refine wpAny_Call_method_late Jc ag1 Ue rfl (dj (ho pins s σ H _ I h) fun v s1 ⟨x,H1,I1,r1,ty,q1⟩=>?_)
 obtain⟨h1,h2⟩:=Ud I1 r1 ty
 refine⟨T,id,pa,slot,hty,h1,h2,?_⟩
 have hA:=ha Fb pins s1 σ H1 _ I1 q1
 rw[hs]at hA ⊢
 refine Calls.callWith_builtin (by show(false ||(backTo Fb (starEach es X.env)).any (·.1))=false;rw[aaD]<;>rfl) (Calls.evalArgs_plain ?_)
 exact dj hA fun us s2 ⟨vs,H2,I2,r2,q2⟩=>hm pins s2 σ H2 x vs v us Q I2 r1 r2 q2
end
end L2
namespace L2
open PySem PySem.Spec PyProof.Rows
def MtM (X:Cx) (id:String) (r:V→List V→Hp→VK→Prop):Prop :=
 ∀(pins:List (Addr×Obj)) (s:Shared) (σ:St) (H:Hp) (x:V) (xs:List V) (v:Value) (us:List Value) (Q:VK),Inv X pins σ H s→RelV x v→Vals xs us→r x xs H Q →
  wpAny (model X.prog X.w) X.A (call (.builtin id) (v::us)) (EP X pins σ Q) X.xe s
theorem Vals.one:∀{x:V} {us:List Value},Vals [x] us→∃u,us=[u]∧RelV x u
 |_,_,.cons r .nil=>⟨_,rfl,r⟩
theorem Vals.zero:∀{us:List Value},Vals [] us→us=[]
 |_,.nil=>rfl
theorem Vals.dropLast {xs:List V} {us:List Value} (h:Vals xs us):Vals xs.dropLast us.dropLast:=by
 induction h with
 |nil=>exact .nil
 |cons r t ih =>
  cases t with
  |nil=>exact .nil
  |cons q t'=>exact .cons r ih
theorem Vals.rep {xs:List V} {us:List Value} (h:Vals xs us):∀k:Nat,Vals (List.replicate k xs).flatten (List.replicate k us).flatten
 |0=>.nil
 |k+1=>by
  rw[List.replicate_succ,List.replicate_succ,List.flatten_cons,List.flatten_cons]
  exact Vals.append h (Vals.rep h k)
theorem Oj {α:Type} (l:List α):l.eraseIdx (l.length-1)=l.dropLast:=by
 induction l with
 |nil=>rfl
 |cons a r ih =>
  cases r with
  |nil=>rfl
  |cons b r =>
   have e:(a::b::r).length-1=((b::r).length-1)+1:=by
    have h1:(a::b::r).length=r.length+2:=rfl
    have h2:(b::r).length=r.length+1:=rfl
    omega
   rw[e,List.eraseIdx_cons_succ,ih]
   all_goals rfl
theorem foldl_rep (bt:List Value):∀(k:Nat) (acc:List Value),
 List.foldl (fun x1 x2=>x1++x2) acc.toArray (List.replicate k bt.toArray)=(acc++(List.replicate k bt).flatten).toArray
 |0,acc=>by simp
 |k+1,acc=>by
  have e:acc.toArray++bt.toArray=(acc++bt).toArray:=by simp
  have e2:(acc++bt)++(List.replicate k bt).flatten=acc++(List.replicate (k+1) bt).flatten:=by
   rw[List.replicate_succ,List.flatten_cons,List.append_assoc]
  rw[←e2,←foldl_rep bt k (acc++bt),←e,List.replicate_succ,List.foldl_cons]
section
variable {X:Cx} {pins:List (Addr×Obj)} {σ:St} {H:Hp} {s:Shared} {l b:Addr} {xs ys zs:List V}
theorem Inv.aaE {bt its':List Value} {n:Nat} {f:Array Value→Array Value} {t':Nat} (I:Inv X pins σ H s) (hH:H l=some (.lst xs))
 (e:s.heap.get? l=some {cls:=.type "list",data:=.seq bt.toArray n}) (hf:f bt.toArray=its'.toArray) (hv:Vals ys its') (hz:ys.length≤sizeLine) :
 Inv X pins σ (upd H l (.lst ys)) {s with heap:=s.heap.update l (Obj.mapSeq f),toks:=t'}:=by
 have q:=PySem.IsL.update e f
 rw[hf]at q
 refine I.write (x:=l) (e:=l) (by rw[hH];exact trivial) (.inl rfl) (fun b' u hb hu=>(Heap.get?_update_other s.heap (Obj.mapSeq f) (Ne.symm hb)).trans hu) ⟨_,q⟩ ?_
 exact⟨hz,its',_,hv,q⟩
theorem Inv.Fc {bt:List Value} {t':Nat} (I:Inv X pins σ H s) (hv:Vals ys bt) (hz:ys.length≤sizeLine) :
 Inv X pins σ (upd H s.heap.objs.size (.lst ys)) {s with heap:=s.heap.push {cls:=.type "list",data:=.seq bt.toArray},toks:=t'} :=
 I.laid (fun _ _ q=>Heap.get?_push_of_some _ q) (Nat.le_refl _) ⟨hz,bt,0,hv,Heap.get?_push_size _ rfl⟩
theorem Inv.fresh (I:Inv X pins σ H s):H s.heap.objs.size=none:=I.cD.fresh (Nat.le_refl _)
theorem Inv.Ol (I:Inv X pins σ H s) (hH:H l=some (.lst xs)):xs.length≤sizeLine∧∃(bt:List Value) (n:Nat),Vals xs bt∧xs.length=bt.length∧s.heap.get? l=some {cls:=.type "list",data:=.seq bt.toArray n}:=by
 obtain⟨z,bt,n,r,e⟩:=I.cD l _ hH
 exact⟨z,bt,n,r,r.length,e⟩
theorem Me {n:Nat} (h:n≤sizeLine):Builtin.List.listTooLong n=false:=by
 unfold Builtin.List.listTooLong
 exact decide_eq_false (by omega)
end
section
variable {X:Cx}
def Xb:V→List V→Hp→VK→Prop:=fun x vs H Q=>∃l xs y,x = .ref l∧vs=[y]∧H l=some (.lst xs)∧xs.length<sizeLine∧Q .de (upd H l (.lst (xs++[y])))
theorem iy:MtM X "list.append" Xb:=by
 intro pins s σ H x vs v us Q I rx rv h
 obtain⟨l,xs,y,rfl,rfl,hH,hz,q⟩:=h
 cases rx
 obtain⟨u,rfl,ru⟩:=rv.one
 obtain⟨z,bt,n,r,hl,e⟩:=I.Ol hH
 refine call_meets F.slot_list_append ⟨_,e,rfl⟩ F.entry_list_append (F.args_list_append_2 _ _) (PySem.list_append l bt.toArray n u (by rw[List.size_toArray];omega)) ⟨e,?_⟩
 refine⟨.de,_,I.aaE (its':=bt++[u]) hH e (by simp) (r.append (.cons ru .nil)) ?_,rfl,q⟩
 rw[List.length_append,List.length_singleton]
 omega
def Xc:V→List V→Hp→VK→Prop:=fun x vs H Q=>∃l b xs zs,x = .ref l∧vs=[.ref b]∧H l=some (.lst xs)∧H b=some (.lst zs)∧xs.length+zs.length≤sizeLine∧Q .de (upd H l (.lst (xs++zs)))
theorem Jd:MtM X "list.extend" Xc:=by
 intro pins s σ H x vs v us Q I rx rv h
 obtain⟨l,b,xs,zs,rfl,rfl,hH,hB,hz,q⟩:=h
 cases rx
 obtain⟨u,rfl,ru⟩:=rv.one
 cases ru
 obtain⟨z,bt,n,r,hl,e⟩:=I.Ol hH
 obtain⟨z2,rB,n2,r2,Je,e2⟩:=I.Ol hB
 have hsz:bt.toArray.size+rB.toArray.size≤sizeLine:=by rw[List.size_toArray,List.size_toArray];omega
 have Ug:¬(!bt.toArray.isEmpty&&Builtin.List.listTooLong (bt.toArray.size+rB.toArray.size))=true:=by
  rw[Me hsz,Bool.and_false]
  exact Bool.false_ne_true
 refine call_meets F.slot_list_extend ⟨_,e,rfl⟩ F.entry_list_extend (F.args_list_extend_2 _ _)
  (AutoSeq1.list_extend_list_list_0 l bt.toArray n b rB.toArray n2 Ug (by rw[List.size_toArray];omega) (by omega)) ⟨e,e2,?_⟩
 refine⟨.de,_,I.aaE (its':=bt++rB) hH e (by simp) (r.append r2) ?_,rfl,q⟩
 rw[List.length_append]
 omega
def ag3:V→List V→Hp→VK→Prop:=fun x vs H Q=>∃l xs y,x = .ref l∧vs=[]∧H l=some (.lst xs)∧xs[xs.length-1]?=some y∧Q y (upd H l (.lst xs.dropLast))
theorem aaF:MtM X "list.pop" ag3:=by
 intro pins s σ H x vs v us Q I rx rv h
 obtain⟨l,xs,y,rfl,rfl,hH,hy,q⟩:=h
 cases rx
 have hus:=rv.zero
 subst hus
 obtain⟨z,bt,n,r,hl,e⟩:=I.Ol hH
 obtain⟨u,hu,ru⟩:=r.get hy
 have hy':bt.toArray[bt.toArray.size-1]?=some u:=by
  show bt.toArray[bt.length-1]?=some u
  rw[←Array.getElem?_toList,←hl]
  exact hu
 refine call_meets F.slot_list_pop ⟨_,e,rfl⟩ F.entry_list_pop (F.args_list_pop_1 _) (MeetsSeq.list_pop_last l bt.toArray n u hy' (by rw[List.size_toArray];omega)) ⟨e,?_⟩
 refine⟨y,_,I.aaE (its':=bt.dropLast) hH e ?_ r.dropLast ?_,ru,q⟩
 ·show bt.toArray.eraseIdxIfInBounds (bt.toArray.size-1)=bt.dropLast.toArray
  rw[List.size_toArray,List.eraseIdxIfInBounds_toArray,Oj]
 ·rw[List.length_dropLast]
  omega
def ag5:R2:=fun x y H Q=>∃l b xs zs,x = .ref l∧y = .ref b∧H l=some (.lst xs)∧H b=some (.lst zs)∧xs.length+zs.length≤sizeLine∧∀p,H p=none→Q (.ref p) (upd H p (.lst (xs++zs)))
theorem BE:zH X (binaryOp .Add) ag5:=by
 intro pins s σ H x y v u Q I rx ry h
 obtain⟨l,b,xs,zs,rfl,rfl,hH,hB,hz,q⟩:=h
 cases rx
 cases ry
 obtain⟨z,bt,n,r,hl,e⟩:=I.Ol hH
 obtain⟨z2,rB,n2,r2,Je,e2⟩:=I.Ol hB
 refine PySem.P.add_list e e2 ?_ (by rw[List.size_toArray,List.size_toArray];omega)
 have ea:bt.toArray++rB.toArray=(bt++rB).toArray:=by simp
 rw[ea]
 exact⟨.ref _,_,I.Fc (t':=s.toks) (r.append r2) (by rw[List.length_append];omega),rfl,q _ I.fresh⟩
def ag6:R2:=fun x y H Q=>∃l k xs,x = .ref l∧y = .int k∧H l=some (.lst xs)∧-(2^63)≤k∧k<2^63∧xs.length*k.toNat≤sizeLine ∧
 ∀p,H p=none→Q (.ref p) (upd H p (.lst (List.replicate k.toNat xs).flatten))
theorem len_rep {α:Type} (xs:List α) (k:Nat):(List.replicate k xs).flatten.length=k*xs.length:=by
 induction k with
 |zero=>simp
 |succ k ih=>rw[List.replicate_succ,List.flatten_cons,List.length_append,ih,Nat.succ_mul,Nat.add_comm]
theorem Uh:zH X (binaryOp .Mult) ag6:=by
 intro pins s σ H x y v u Q I rx ry h
 obtain⟨l,k,xs,rfl,rfl,hH,h1,h2,hz,q⟩:=h
 cases rx
 obtain⟨t,rfl⟩:=ry
 obtain⟨z,bt,n,r,hl,e⟩:=I.Ol hH
 have hlen:bt.toArray.size*k.toNat≤sizeLine:=by rw[List.size_toArray,←hl];exact hz
 have ag7:¬bt.toArray.size*k.toNat>(2^63-1)/8:=by
  have:(sizeLine:Nat)≤(2^63-1)/8:=by decide
  omega
 have adF:¬(!Builtin.List.listFitsIndex k)=true:=by
  rw[fitsIndex_both h1 h2]
  exact Bool.false_ne_true
 have Ug:¬Builtin.List.listTooLong (bt.toArray.size*k.toNat)=true:=by
  rw[Me hlen]
  exact Bool.false_ne_true
 have Om:List.foldl (fun x1 x2=>x1++x2) #[] (List.replicate (if bt.toArray.isEmpty=true then 0 else k.toNat) bt.toArray)=(List.replicate k.toNat bt).flatten.toArray:=by
  have f0:∀m:Nat,List.foldl (fun x1 x2=>x1++x2) #[] (List.replicate m bt.toArray)=(List.replicate m bt).flatten.toArray:=fun m=>by
   have:=foldl_rep bt m []
   rw[List.nil_append]at this
   exact this
  rw[f0]
  cases bt with
  |nil=>simp
  |cons a r'=>rw[if_neg (by simp)]
 refine wpAny_binaryOp_repeat_ref (T := "list") (U := "int") (by decide) ⟨_,e,rfl⟩ (fun s'=>typeIs_int s' k t) noFill_list_mul F.fills_int_mul F.slot_int_rmul repeat_list F.slot_int_index.lookup
  (call_meets F.slot_int_rmul (typeIs_int s k t) F.entry_int_rmul (F.args_int_rmul_2 _ _) (int___rmul___int_list k t l bt.toArray n)
   ⟨e,rfl,⟨_,e,rfl⟩,call_meets F.slot_list_mul ⟨_,e,rfl⟩ F.entry_list_mul (F.args_list_mul_2 _ _) (AutoListH.list___mul___list_int_3 l bt.toArray n k t adF ag7 Ug) ⟨e,?_⟩⟩)
 rw[Om]
 exact⟨.ref _,_,I.Fc (t':=s.toks) (r.rep k.toNat) (by rw[len_rep,Nat.mul_comm];exact hz),rfl,q _ I.fresh⟩
end
end L2
namespace L2
open PySem PySem.Spec PyProof.Rows
theorem Vals.ints:∀{ns:List Int} {us:List Value},Vals (ns.map V.int) us→IntsAre us ns
 | [],us,h=>by
  rw[List.map_nil]at h
  cases h
  exact IntsAre.nil
 |n::ns,us,h=>by
  rw[List.map_cons]at h
  cases h with
  |cons r t =>
   obtain⟨k,rfl⟩:=r
   exact IntsAre.cons n k (Vals.ints t)
theorem zR:∀{us:List Value} {ns:List Int},IntsAre us ns→Vals (ns.map V.int) us
 |_,_,.nil=>by rw[List.map_nil];exact Paired.nil
 |_,_,.cons n t h=>by rw[List.map_cons];exact Paired.cons (show RelV (V.int n) (Value.int n t) from ⟨t,rfl⟩) (zR h)
theorem Vals.Xd {a:Addr} {us:List Value} (r:Vals [V.ref a] us):us=[Value.ref a]:=by
 cases r with
 |cons r t =>
  cases t
  cases r
  rfl
section
variable {prog:Program} {w:World} {A:Around} {E:Value→Shared→Prop} {s:Shared} {l:Addr} {bt:List Value} {ns:List Int} {Q:Value→Shared→Prop}
theorem Xe (hh:A.handled=none) (hl:s.heap.IsList l bt.toArray) (hi:IntsAre bt ns)
 (h:∀h' tk t',(∀b o,s.heap.get? b=some o→h'.get? b=some o)→Q (.int ns.sum t') {s with heap:=h',toks:=tk}):wpAny (model prog w) A (call (.builtin "sum") [.ref l]) Q E s:=by
 obtain⟨xs,e⟩:=hi.allInts.items
 have hn:numsOf (intItems xs).toList=ns:=by rw[←e];exact hi.numsOf
 rw[nums_intItems]at hn
 rw[e]at hl
 refine PySem.sum_intListG hh hl fun h' tk t' hk=>?_
 have:=h h' tk t' hk
 rw[preSum_eq,List.take_of_length_le (by simp),hn];exact this
end
section
variable {X:Cx}
def ag8 (K:PySem.W.Frag):List V→Hp→VK→Prop:=fun vs H Q=>∃(a:Addr) (ns:List Int),vs=[V.ref a]∧bO K H a (ns.map V.int)∧Q (.int ns.sum) H
theorem Oo (hc:X.calm=true):oR X (.builtin "sum") (ag8 X.K):=by
 intro pins s σ H vs us Q I r h
 obtain⟨a,ns,rfl,hs,q⟩:=h
 obtain⟨bt,rv,hl,_⟩:=I.list hs
 rw[Vals.Xd r]
 exact Xe (I.ok.hd hc) hl.isList rv.ints fun h' tk t' hk=>⟨.int _,H,I.kept hk,⟨_,rfl⟩,q⟩
end
end L2
namespace L2
open PySem PySem.Spec PyProof.Rows
abbrev Ui (h:Heap) (c:Addr) (v:Option Value):Prop:=h.IsCell c v
def ag9 (scope sc:Scope):Scope :=
 {scope with names:=scope.names.map fun(n,k)=>if (k == .free&&sc.kind == .function&&sc.names.lookup n==some .cell) then(n,.cell) else(n,k)}
def cX (cells:List (Str×Addr)):List (Str×NameKind)→List (Str×Addr)→List (Str×Addr)
 | [],acc=>acc
 |(n,k)::r,acc=>if k == .free then cX cells r ((n,(cells.lookup n).getD 0)::acc) else cX cells r acc
theorem zS (env:Env) (f:Str×NameKind→List (Str×Addr)→Sem (ForInStep (List (Str×Addr))))
 (hf:∀n k c,f (n,k) c=if k == .free then(do let a ←cellOf env n;pure (.yield ((n,a)::c))) else pure (.yield c)) :
 ∀(names:List (Str×NameKind)) (acc:List (Str×Addr)),(∀y∈names,y.2 = .free→∃c,env.cells.lookup y.1=some c)→forIn names acc f=pure (cX env.cells names acc)
 | [],acc,_=>by rw[List.forIn_nil];rfl
 |(n,k)::r,acc,h=>by
  rw[List.forIn_cons,hf]
  have ih:=fun acc=>zS env f hf r acc fun y hy=>h y (List.mem_cons_of_mem _ hy)
  unfold cX
  by_cases hk:(k==NameKind.free)=true
  ·rw[if_pos hk,if_pos hk]
   obtain⟨c,hc⟩:=h (n,k) List.mem_cons_self (by simpa using hk)
   have e:cellOf env n=pure c:=by unfold cellOf;rw[hc]
   rw[e]
   have e2:(env.cells.lookup n).getD 0=c:=by rw[hc];rfl
   rw[e2]
   exact ih _
  ·rw[if_neg hk,if_neg hk]
   exact ih _
theorem Fd {scope:Scope} {env:Env} (h:∀y∈scope.names,y.2 = .free→∃c,env.cells.lookup y.1=some c):closureFor scope env=pure (cX env.cells scope.names []):=by
 simp only[closureFor]
 rw[zS env _ (fun n k c=>rfl) scope.names [] h]
 rfl
theorem mem_lookup {α:Type}:∀{l:List (Str×α)} {n:Str} {c:α},(n,c)∈l→∃c',l.lookup n=some c'
 |(k,v)::r,n,c,h=>by
  rw[List.lookup_cons]
  cases hb:n==k with
  |true=>exact⟨_,rfl⟩
  |false =>
   rcases List.mem_cons.mp h with e|h
   ·cases e;simp at hb
   ·exact mem_lookup h
theorem oS {cells:List (Str×Addr)}:∀{names:List (Str×NameKind)} {acc:List (Str×Addr)} {n:Str} {c:Addr},(n,c)∈cX cells names acc→(n,c)∈acc∨((n,.free)∈names∧c=(cells.lookup n).getD 0)
 | [],_,_,_,h=>.inl h
 |(m,k)::r,acc,n,c,h=>by
  unfold cX at h
  split at h
  ·rename_i hk
   have hk:k = .free:=by simpa using hk
   rcases oS h with h|⟨h1,h2⟩
   ·rcases List.mem_cons.mp h with e|h
    ·cases e;exact .inr ⟨hk ▸ List.mem_cons_self,rfl⟩
    ·exact .inl h
   ·exact .inr ⟨List.mem_cons_of_mem _ h1,h2⟩
  ·rcases oS h with h|⟨h1,h2⟩
   ·exact .inl h
   ·exact .inr ⟨List.mem_cons_of_mem _ h1,h2⟩
theorem uf {cells:List (Str×Addr)}:∀{names:List (Str×NameKind)} {acc:List (Str×Addr)} {p:Str×Addr},p∈acc→p∈cX cells names acc
 | [],_,_,h=>h
 |(m,k)::r,acc,p,h=>by
  unfold cX
  split
  ·exact uf (List.mem_cons_of_mem _ h)
  ·exact uf h
theorem ug {cells:List (Str×Addr)}:∀{names:List (Str×NameKind)} {acc:List (Str×Addr)} {n:Str},(n,.free)∈names→(n,(cells.lookup n).getD 0)∈cX cells names acc
 |(m,k)::r,acc,n,h=>by
  unfold cX
  rcases List.mem_cons.mp h with e|h
  ·cases e
   exact uf List.mem_cons_self
  ·split
   ·exact ug h
   ·exact ug h
theorem qv:∀{names:List (Str×NameKind)} {h:Heap} {acc:List (Str×Addr)} {x:Str} {c:Addr},(x,c)∈cellsFrom h.objs.size names acc →
 (x,c)∈acc∨((x,.cell)∈names∧h.objs.size≤c∧Ui (pushCells h names) c none)
 | [],_,_,_,_,h=>.inl h
 |(n,k)::r,h,acc,x,c,hm=>by
  unfold cellsFrom at hm
  unfold pushCells
  split at hm
  ·rename_i hk
   rw[if_pos hk]
   have hk:k = .cell:=by simpa using hk
   rw[←Heap.size_push h {cls:=.type "cell",data:=.cell none}]at hm
   rcases qv hm with hm|⟨h1,h2,h3⟩
   ·rcases List.mem_cons.mp hm with e|hm
    ·cases e
     exact .inr ⟨hk ▸ List.mem_cons_self,Nat.le_refl _,_,pushCells_keeps r _ _ _ (Heap.get?_push_size _ rfl),rfl⟩
    ·exact .inl hm
   ·rw[Heap.size_push]at h2
    exact .inr ⟨List.mem_cons_of_mem _ h1,Nat.le_of_succ_le h2,h3⟩
  ·rename_i hk
   rw[if_neg hk]
   rcases qv hm with hm|⟨h1,h2,h3⟩
   ·exact .inl hm
   ·exact .inr ⟨List.mem_cons_of_mem _ h1,h2,h3⟩
theorem wx:∀{names:List (Str×NameKind)} {n:Nat} {acc:List (Str×Addr)} {p:Str×Addr},p∈acc→p∈cellsFrom n names acc
 | [],_,_,_,h=>h
 |(m,k)::r,n,acc,p,h=>by
  unfold cellsFrom
  split
  ·exact wx (List.mem_cons_of_mem _ h)
  ·exact wx h
theorem BF:∀{names:List (Str×NameKind)} {n:Nat} {acc:List (Str×Addr)} {x:Str},(x,.cell)∈names→∃c,(x,c)∈cellsFrom n names acc
 |(m,k)::r,n,acc,x,h=>by
  unfold cellsFrom
  rcases List.mem_cons.mp h with e|h
  ·cases e
   exact⟨n,wx List.mem_cons_self⟩
  ·split
   ·exact BF h
   ·exact BF h
theorem BG:∀{names:List (Str×NameKind)} {h:Heap} {acc:List (Str×Addr)} {x y:Str} {c:Addr},(∀p∈acc,p.2<h.objs.size)→(∀x y c,(x,c)∈acc→(y,c)∈acc→x=y) →
 (x,c)∈cellsFrom h.objs.size names acc→(y,c)∈cellsFrom h.objs.size names acc→x=y
 | [],_,_,_,_,_,_,hi,h1,h2=>hi _ _ _ h1 h2
 |(n,k)::r,h,acc,x,y,c,hl,hi,h1,h2=>by
  unfold cellsFrom at h1 h2
  split at h1
  ·rename_i hk
   rw[if_pos hk]at h2
   rw[←Heap.size_push h {cls:=.type "cell",data:=.cell none}]at h1 h2
   refine BG (h:=h.push _) (fun p hp=>?_) (fun x y c a b=>?_) h1 h2
   ·rw[Heap.size_push]
    rcases List.mem_cons.mp hp with rfl|hp
    ·exact Nat.lt_succ_self _
    ·exact Nat.lt_succ_of_lt (hl p hp)
   ·rcases List.mem_cons.mp a with e|a<;>rcases List.mem_cons.mp b with e'|b
    ·cases e;cases e';rfl
    ·cases e;exact absurd (hl _ b) (Nat.lt_irrefl _)
    ·cases e';exact absurd (hl _ a) (Nat.lt_irrefl _)
    ·exact hi _ _ _ a b
  ·rename_i hk
   rw[if_neg hk]at h2
   exact BG hl hi h1 h2
theorem CL {M:Model} {A:Around} {E:Value→Shared→Prop} {s:Shared} {scope:Scope} {globals:Addr} {closure:List (Str×Addr)} {qual:Str} {func:Option Addr} {code:Value} {around:Env} {builtins:Addr} {Q:Env→Shared→Prop}
 (h:Q (newEnv scope s.heap.objs.size globals (cellsFrom (s.heap.objs.size+1) scope.names closure) qual func code (some around) builtins)
  {s with heap:=pushCells (s.heap.push {cls:=.type "dict",data:=.dict #[]}) scope.names}) :
 wpAny M A (newFunctionEnv scope globals closure [] qual func code (some around) builtins) Q E s:=by
 simp only[newFunctionEnv,Option.isSome_some,if_true]
 refine wpAny_bind (wpAny_alloc ?_)
 refine wpAny_bind (wpAny_layCells _ (fun n k c=>rfl) scope.names closure _ _ ?_)
 rw[show({s with heap:=s.heap.push {cls:=.type "dict",data:=.dict #[]}}:Shared).heap.objs.size=s.heap.objs.size+1 from Heap.size_push ..]
 rw[List.forIn_nil]
 exact wpAny_bind (wpAny_pure (wpAny_pure h))
theorem uh {sc:Scope}:∀{names:List (Str×NameKind)} {x:Str} {k:NameKind},
 (names.map fun(n,k)=>if (k==NameKind.free&&sc.kind == .function&&sc.names.lookup n==some .cell) then(n,NameKind.cell) else(n,k)).lookup x=some k →
 ∃k',names.lookup x=some k'∧(k=k'∨(k' = .free∧k = .cell))
 | [],_,_,h=>by simp at h
 |(n,k₀)::r,x,k,h=>by
  have ih:=@uh sc r x k
  have h':List.lookup x ((if (k₀==NameKind.free&&sc.kind == .function&&sc.names.lookup n==some .cell)=true then(n,NameKind.cell) else(n,k₀))::(r.map _))=some k:=h
  cases hx:x==n with
  |true =>
   simp only[List.lookup_cons,hx]
   by_cases hc:(k₀==NameKind.free&&sc.kind == .function&&sc.names.lookup n==some .cell)=true
   ·rw[if_pos hc]at h'
    simp only[List.lookup_cons,hx]at h'
    cases h'
    simp only[Bool.and_eq_true,beq_iff_eq]at hc
    exact⟨k₀,rfl,.inr ⟨hc.1.1,rfl⟩⟩
   ·rw[if_neg hc]at h'
    simp only[List.lookup_cons,hx]at h'
    cases h'
    exact⟨_,rfl,.inl rfl⟩
  |false =>
   simp only[List.lookup_cons,hx]
   by_cases hc:(k₀==NameKind.free&&sc.kind == .function&&sc.names.lookup n==some .cell)=true
   ·rw[if_pos hc]at h'
    simp only[List.lookup_cons,hx]at h'
    exact ih h'
   ·rw[if_neg hc]at h'
    simp only[List.lookup_cons,hx]at h'
    exact ih h'
structure Mf (N:List Str) (sc scope:Scope) (own:List (Str×Nat)):Prop where
 kind:scope.kind = .function
 uniq:∀y∈scope.names,scope.names.lookup y.1=some y.2
 ix:∀p∈own,N[p.2]?=some p.1
 free:∀y∈scope.names,y.2 = .free→sc.names.lookup y.1=some .cell∨sc.names.lookup y.1=some .free
 own:∀y∈scope.names,y.2 = .local∨y.2 = .cell→y.1∈own.map (·.1)∨y.1∉N
def wipe (σ:St):List Nat→St
 | []=>σ
 |v::vs=>(wipe σ vs).set v none
theorem oU (σ:St):∀vs:List Nat,(wipe σ vs).length=σ.length
 | []=>rfl
 |v::vs=>by unfold wipe;rw[List.length_set,oU σ vs]
theorem wy {σ:St} {i:Nat} {x:V}:∀{vs:List Nat},(wipe σ vs)[i]?=some (some x)→σ[i]?=some (some x)∧i∉vs
 | [],h=>⟨h,by simp⟩
 |v::vs,h=>by
  unfold wipe at h
  by_cases hi:v=i
  ·subst hi
   by_cases hv:v<(wipe σ vs).length
   ·rw[List.getElem?_set_self hv]at h;cases h
   ·rw[List.getElem?_eq_none (by simpa using hv)]at h;cases h
  ·rw[List.getElem?_set_ne hi]at h
   obtain⟨h1,h2⟩:=wy h
   exact⟨h1,by simp only[List.mem_cons,not_or];exact⟨fun e=>hi e.symm,h2⟩⟩
abbrev Cx.Hb (X:Cx) (s:Shared) (H:Hp) (scope:Scope) (iz:Env) (fp:List Addr):Cx:={X with s₀:=s,H₀:=H,env:=iz,outer:=X.stack,ex:=fp,fn:=fun x=>scope.names.lookup x==some .cell,pn:=[],xe:=fun _ _=>False}
section
variable {X:Cx} {pins:List (Addr×Obj)} {σ:St} {H:Hp} {s:Shared}
theorem CM {scope:Scope} {own:List (Str×Nat)} {fp:List Addr} (I:Inv X pins σ H s) (ok:Mf X.N X.env.scope scope own) (hN:X.N.Nodup) (Xf:∀b∈fp,yo X pins H b∧b<s.heap.objs.size) :
 Inv (X.Hb s H scope (compEnvC scope (cellsFrom (s.heap.objs.size+1) scope.names (cX X.env.cells scope.names [])) s.heap.objs.size X.env) fp) [] (wipe σ (own.map (·.2))) H {s with heap:=pushCells (s.heap.push {cls:=.type "dict",data:=.dict #[]}) scope.names}:=by
 have CH:∀y∈scope.names,y.2 = .free→∃c,X.env.cells.lookup y.1=some c:=fun y hy e=>by
  rcases ok.free y hy e with k|k
  ·exact I.ok.has _ (.inl k)
  ·exact I.ok.has _ (.inr k)
 generalize Mg:compEnvC scope (cellsFrom (s.heap.objs.size+1) scope.names (cX X.env.cells scope.names [])) s.heap.objs.size X.env=iz
 have kp:∀b o,s.heap.get? b=some o→(pushCells (s.heap.push {cls:=.type "dict",data:=.dict #[]}) scope.names).get? b=some o:=fun b o e=>pushCells_keeps _ _ _ _ (Heap.get?_push_of_some _ e)
 have hL:iz.locals=s.heap.objs.size:=by rw[←Mg];rfl
 have oJ:iz.cells=cellsFrom (s.heap.objs.size+1) scope.names (cX X.env.cells scope.names []):=by rw[←Mg];rfl
 have hsc:iz.scope=ag9 scope X.env.scope:=by rw[←Mg];rfl
 rw[←Heap.size_push s.heap {cls:=.type "dict",data:=.dict #[]}]at oJ
 have cm:∀{y c},(y,c)∈cX X.env.cells scope.names []→X.env.cells.lookup y=some c∧c<s.heap.objs.size:=fun{y c} hm=>by
  rcases oS hm with hm|⟨h1,rfl⟩
  ·cases hm
  ·obtain⟨c,hc⟩:=CH _ h1 rfl
   rw[hc]
   obtain⟨w,z⟩:=I.cell _ _ hc
   exact⟨rfl,z.lt⟩
 have mem:∀{y c},iz.cells.lookup y=some c→(X.env.cells.lookup y=some c∧c<s.heap.objs.size)∨(s.heap.objs.size+1≤c∧Ui (pushCells (s.heap.push {cls:=.type "dict",data:=.dict #[]}) scope.names) c none):=fun{y c} e=>by
  rw[oJ]at e
  rcases qv (PySem.mem_of_lookup e) with hm|⟨_,h2,h3⟩
  ·exact .inl (cm hm)
  ·rw[Heap.size_push]at h2;exact .inr ⟨h2,h3⟩
 have look:∀{y},scope.names.lookup y=some .free→∃c,iz.cells.lookup y=some c∧X.env.cells.lookup y=some c:=fun{y} hl=>by
  have hy:(y,NameKind.free)∈scope.names:=PySem.mem_of_lookup hl
  obtain⟨c',e'⟩:=mem_lookup (wx (names:=scope.names) (n:=(s.heap.push {cls:=.type "dict",data:=.dict #[]}).objs.size) (ug (cells:=X.env.cells) (acc:=[]) hy))
  rw[←oJ]at e'
  refine⟨c',e',?_⟩
  rw[oJ]at e'
  rcases qv (PySem.mem_of_lookup e') with hm|⟨h1,_,_⟩
  ·exact(cm hm).1
  ·have:=ok.uniq _ h1
   rw[hl]at this;cases this
 have okB:(X.Hb s H scope iz fp).Ok:=by
  refine⟨I.ok.mod,by show iz.scope.kind=_;rw[hsc];exact ok.kind,by show iz.globals=_;rw[←Mg];exact I.ok.glob,by show iz.builtins=_;rw[←Mg];exact I.ok.blt,by show s.heap.objs.size≤iz.locals;rw[hL];exact Nat.le_refl _,
   fun y z c e1 e2=>?_,fun y hy=>?_,fun y c z e=>?_,I.ok.hd,I.ok.frames,.inl rfl,fun b hb=>⟨?_,fun y c e z=>?_⟩,I.bs,Nat.le_trans I.ok.Wt I.sz,fun b o e hb=>?_,fun b hb z=>?_,I.stack,I.JU⟩
  ·have e1:iz.cells.lookup y=some c:=e1
   have e2:iz.cells.lookup z=some c:=e2
   rw[oJ]at e1 e2
   refine BG (fun p hp=>?_) (fun y z c a b=>I.ok.inj y z c (cm a).1 (cm b).1) (PySem.mem_of_lookup e1) (PySem.mem_of_lookup e2)
   rw[Heap.size_push]
   exact Nat.lt_succ_of_lt (cm (y:=p.1) (c:=p.2) hp).2
  ·show ∃c,iz.cells.lookup y=some c
   have key:∀k,iz.kindOf y=some k→(k = .cell∨k = .free)→∃c,iz.cells.lookup y=some c:=fun k hk hk'=>by
    unfold Env.kindOf at hk
    rw[hsc]at hk
    obtain⟨k',e,r⟩:=uh hk
    have:k' = .cell∨k' = .free:=by
     rcases r with rfl|⟨rfl,_⟩
     ·exact hk'
     ·exact .inr rfl
    rcases this with rfl|rfl
    ·obtain⟨c,hm⟩:=BF (n:=(s.heap.push {cls:=.type "dict",data:=.dict #[]}).objs.size) (acc:=cX X.env.cells scope.names []) (PySem.mem_of_lookup e)
     obtain⟨c',e'⟩:=mem_lookup hm
     exact⟨c',by rw[oJ];exact e'⟩
    ·obtain⟨c,h1,_⟩:=look e
     exact⟨c,h1⟩
   rcases hy with hy|hy
   ·exact key _ hy (.inl rfl)
   ·exact key _ hy (.inr rfl)
  ·have z:(scope.names.lookup y==some NameKind.cell)=true:=z
   have z:scope.names.lookup y=some .cell:=by simpa using z
   have e:iz.cells.lookup y=some c:=e
   rw[oJ]at e
   rcases qv (PySem.mem_of_lookup e) with hm|⟨_,h2,_⟩
   ·rcases oS hm with hm|⟨h1,_⟩
    ·cases hm
    ·have q:=ok.uniq _ h1
     rw[z]at q;cases q
   ·rw[Heap.size_push]at h2
    exact Nat.le_of_succ_le h2
  ·show b≠iz.locals
   rw[hL];exact Nat.ne_of_lt (Xf b hb).2
  ·have e:iz.cells.lookup y=some c:=e
   rcases mem e with⟨h1,_⟩|⟨h1,_⟩
   ·exact(Xf b hb).1.2.2.2.2.1 y c h1 z
   ·have h2:s.heap.objs.size+1≤b:=by rw[←z];exact h1
    exact absurd (Nat.lt_of_lt_of_le (Xf b hb).2 (Nat.le_of_succ_le h2)) (Nat.lt_irrefl _)
  ·rcases(Xf b hb).1.2.2.2.1 with z|z
   ·exact I.ok.RG b o e z
   ·exact absurd (Nat.lt_of_lt_of_le (Heap.lt_size e) (Nat.le_trans I.ok.Wt z)) (Nat.lt_irrefl _)
  ·rcases List.mem_cons.mp (I.rm b z) with z|z
   ·exact(Xf b hb).1.2.1 z
   ·exact(Xf b hb).1.2.2.1 z
 refine⟨okB,rfl,I.bare,Un.kept kp,⟨fun _=>none,?_,fun i y av e1 e2 e3=>?_⟩,fun y c e=>?_,?_,fun y c e=>?_,fun p hp=>?_,I.cD.kept kp,by rw[oU];exact I.len⟩
 ·show Heap.Ns _ iz.locals _
  rw[hL]
  exact Heap.Ns.keeps (Heap.Ns.new ..) fun b o e=>pushCells_keeps _ _ _ _ e
 ·obtain⟨e2,Hc⟩:=wy e2
  have DJ:scope.names.lookup y=some .free∧(iz.kindOf y=some .cell∨iz.kindOf y=some .free):=by
   have key:∀k,iz.scope.names.lookup y=some k→k = .local∨k = .cell∨k = .free→scope.names.lookup y=some .free∧(iz.kindOf y=some .cell∨iz.kindOf y=some .free):=fun k hk hk'=>by
    have hk0:=hk
    rw[hsc]at hk
    obtain⟨k',e,r⟩:=uh hk
    have no:¬(k' = .local∨k' = .cell):=fun hh=>by
     rcases ok.own _ (PySem.mem_of_lookup e) hh with e'|e'
     ·obtain⟨p,hp,hpy⟩:=List.mem_map.mp e'
      have e3:=ok.ix p hp
      have:p.1=y:=hpy
      rw[this]at e3
      exact Hc (List.mem_map.mpr ⟨p,hp,ES hN e3 e1⟩)
     ·exact e' (List.mem_of_getElem? e1)
    rcases r with rfl|⟨rfl,rfl⟩
    ·rcases hk' with rfl|rfl|rfl
     ·exact absurd (.inl rfl) no
     ·exact absurd (.inr rfl) no
     ·exact⟨e,.inr hk0⟩
    ·exact⟨e,.inl hk0⟩
   have e3:Vis iz.scope y:=e3
   rcases e3 with e3|e3|e3
   ·exact key _ e3 (.inl rfl)
   ·exact key _ e3 (.inr (.inl rfl))
   ·exact key _ e3 (.inr (.inr rfl))
  obtain⟨m,hn,hl⟩:=I.loc
  have ahb:Vis X.env.scope y:=(ok.free _ (PySem.mem_of_lookup DJ.1) rfl).elim (fun k=>.inr (.inl k)) (fun k=>.inr (.inr k))
  obtain⟨w,r,q⟩:=hl i y av e1 e2 ahb
  refine⟨w,r,.inr ⟨DJ.2,?_⟩⟩
  obtain⟨c,h1,h2⟩:=look DJ.1
  rcases q with⟨k,_⟩|⟨_,c',e',z⟩
  ·have k:X.env.scope.names.lookup y=some .local:=k
   rcases ok.free _ (PySem.mem_of_lookup DJ.1) rfl with k'|k'<;>rw[show X.env.scope.names.lookup y=_ from k']at k<;>cases k
  ·rw[h2]at e';cases e'
   exact⟨c,h1,z.keeps kp⟩
 ·have e:iz.cells.lookup y=some c:=e
  rcases mem e with⟨h1,_⟩|⟨_,z⟩
  ·obtain⟨w,z⟩:=I.cell y c h1
   exact⟨w,z.keeps kp⟩
  ·exact⟨_,z⟩
 ·show H iz.locals=none
  rw[hL];exact I.cD.fresh (Nat.le_refl _)
 ·have e:iz.cells.lookup y=some c:=e
  rcases mem e with⟨h1,_⟩|⟨h1,_⟩
  ·exact I.oP y c h1
  ·exact I.cD.fresh (Nat.le_of_succ_le h1)
 ·exact absurd (show p∈([]:List (Addr×Obj))++[] from hp) (by simp)
theorem Uj {E:Value→Shared→Prop} {D:Addr} {xs:List V} {y:V} {v:Value} {Q:Value→Shared→Prop} (I:Inv X pins σ H s) (hD:H D=some (.lst xs)) (hz:xs.length<sizeLine) (r:RelV y v)
 (h:∀s',Inv X pins σ (upd H D (.lst (xs++[y]))) s'→Q .none s'):wpAny (model X.prog X.w) X.A (call (.builtin "list.append") [.ref D,v]) Q E s:=by
 obtain⟨hz',bt,n,ri,e⟩:=I.cD D _ hD
 have hl:=ri.length
 refine append_at (hsz:=by rw[List.size_toArray];omega) e fun h' sb Qw=>?_
 refine h {s with heap:=h'} (I.write (t':=s.toks) (by rw[hD];trivial) (.inl rfl) (fun b u hb q=>(sb.2 b hb).trans q) ⟨_,Qw⟩ ⟨by rw[List.length_append];exact hz,bt++[v],n+1,ri.append (.cons r .nil),?_⟩)
 rw[Qw]
 simp
def PTs (X:Cx) (ifs:List Expr) (t:TT):Prop :=
 ∀(pins:List (Addr×Obj)) (s:Shared) (σ:St) (H:Hp) (Q:Bool→Hp→Prop),Inv X pins σ H s→t σ H Q →
  wpAny (model X.prog X.w) X.A (forIn ifs true fun c r=>if r=true then do let ok ←isTrue c X.env (eval c X.env);pure (ForInStep.yield ok) else pure (ForInStep.yield r)) (TP X pins σ Q) X.xe s
def aaG:TT:=fun _ H Q=>Q true H
theorem zT:PTs X [] aaG:=fun _ _ _ H _ I h=>wpAny_tests_nil ⟨H,I,h⟩
theorem QL {c:Expr} {t:TT} (h:PT X c t):PTs X [c] t:=fun pins s σ H Q I hw=>wpAny_tests_one (h pins s σ H Q I hw)
end
theorem RR {α:Type} {t:Sem α} {Q Q':α→Shared→Prop} {M:Model} {A:Around} {E:Value→Shared→Prop} {s:Shared} (h:wpAny M A t Q (fun _ _=>False) s) (hQ:∀a s,Q a s→Q' a s):wpAny M A t Q' E s:=wpAny_mono h hQ fun _ _ z=>False.elim z
theorem zU {prog:Program} {w:World} {A:Around} {R:Result→Shared→Prop} {s:Shared} {elt target iter:Expr} {ifs:List Expr} {scope:Scope} {pos:Pos} {it acc:Value} {env:Env} (I:Nat→Shared→Prop)
 (turn:∀n s,I n s→wpAny (model prog w) A (pyNext it) (fun r s₁=>match r with
  |none=>R (.ok .next) s₁
  |some v=>wpAny (model prog w) A (letOwnedTupleGo target it v) (fun _ s₁'=>wpAny (model prog w) A (assign target env v) (fun _ s₂ =>
   wpAny (model prog w) A (forIn ifs true fun c r=>if r=true then do let ok ←isTrue c env (eval c env);pure (ForInStep.yield ok) else pure (ForInStep.yield r)) (fun ok s₃ =>
    if ok=true then wpAny (model prog w) A (eval elt env) (fun x s₄ =>
     wpAny (model prog w) A (call (.builtin "list.append") [acc,x]) (fun _ s₅=>∃m,m<n∧I m s₅) (notedBy (model prog w) A env fun e s'=>R (.error e) s') s₄) (notedBy (model prog w) A env fun e s'=>R (.error e) s') s₃
    else ∃m,m<n∧I m s₃) (notedBy (model prog w) A env fun e s'=>R (.error e) s') s₂) (notedBy (model prog w) A env fun e s'=>R (.error e) s') s₁') (notedBy (model prog w) A env fun e s'=>R (.error e) s') s₁) (notedBy (model prog w) A env fun e s'=>R (.error e) s') s)
 (n:Nat) (h:I n s) :
 codeAny (model prog w) A (.compLoop (.ListComp elt [⟨target,iter,ifs,0⟩] scope pos) 0 it acc env) R s:=by
 refine codeAny_loop rfl I (fun n s hI=>?_) n h
 show wpAny _ A ((compTurn (.ListComp elt [⟨target,iter,ifs,0⟩] scope pos) 0 it acc env).onRaise (fun x=>do noteFrame x env;theTreesLotGoes x)) _ _ s
 refine wpAny_noted ?_
 rw[compTurn_list]
 refine wpAny_bind (wpAny_standAt (wpAny_bind (wpAny_mono (turn n s hI) (fun r s₁ h₁=>?_) fun _ _ h'=>h')))
 cases r with
 |none=>exact wpAny_pure h₁
 |some v =>
  refine wpAny_bind (wpAny_mono h₁ (fun _ s₁' h₁'=>?_) fun _ _ h'=>h')
  refine wpAny_bind (wpAny_mono h₁' (fun _ s₂ h₂=>wpAny_bind (wpAny_mono h₂ (fun ok s₃ h₃=>?_) fun _ _ h'=>h')) fun _ _ h'=>h')
  cases ok with
  |false=>exact wpAny_pure ⟨rfl,h₃⟩
  |true =>
   exact wpAny_bind (wpAny_bind (wpAny_mono h₃ (fun x s₄ h₄=>wpAny_bind (wpAny_mono h₄ (fun _ s₅ h₅=>wpAny_pure (wpAny_pure ⟨rfl,h₅⟩)) fun _ _ h'=>h')) fun _ _ h'=>h'))
section
variable {X:Cx}
def tLc (wi:TI) (g:TG) (tt:TT) (te:TE) (vs:List Nat):TE:=fun σ H Q=>wi σ H fun J H1=>∀D,H1 D=none→∃W:Nat→Nat→Hp→Prop,(∃m,W 0 m (upd H1 D (.lst [])))∧∀i m H,W i m H →
 (J.stop i H∧Q (.ref D) H)∨(J.go i H∧∃Nx:Hp→Prop,(∀H',Nx H'→∃m',m'<m∧W (i+1) m' H')∧∀x H',J.WQ i H x H'→g x (wipe σ vs) H' fun σ2 H2=>wipe σ2 vs=wipe σ vs∧tt σ2 H2 fun b H3 =>
  if b=true then te σ2 H3 fun y H4=>∃acc,H4 D=some (.lst acc)∧acc.length<sizeLine∧Nx (upd H4 D (.lst (acc++[y]))) else Nx H3)
theorem Xg {pins:List (Addr×Obj)} {s:Shared} {σ:St} {H:Hp} {Q:VK} {elt tg iter:Expr} {ifs:List Expr} {scope:Scope} {own:List (Str×Nat)} {pos pos':Pos} {wi:TI} {g:TG} {tt:TT} {te:TE} {use:Option (Value→Sem Unit)} {Qf:Value→Shared→Prop}
 (hc:X.calm=true) (hN:X.N.Nodup) (I:Inv X pins σ H s) (hi:PI X tg iter wi) (ok:Mf X.N X.env.scope scope own)
 (hg:∀(s:Shared) (H:Hp) (C:Addr) (cl:List (Str×Addr)) (fp:List Addr),PG (X.Hb s H scope (compEnvC scope cl C X.env) fp) tg g) (ht:∀(s:Shared) (H:Hp) (C:Addr) (cl:List (Str×Addr)) (fp:List Addr),PTs (X.Hb s H scope (compEnvC scope cl C X.env) fp) ifs tt)
 (he:∀(s:Shared) (H:Hp) (C:Addr) (cl:List (Str×Addr)) (fp:List Addr),PE (X.Hb s H scope (compEnvC scope cl C X.env) fp) elt te) (hs:∀x,foldedSetIterable iter X.env x=pure x)
 (h:tLc wi g tt te (own.map (·.2)) σ H Q)
 (hRR:∀D C s' m H',Inv X pins σ H' s'→Q (.ref D) H'→s'.heap.Ns C m→yo X pins H' C→compPost (model X.prog X.w) X.A X.xe use Qf (.ref D) C (.ok .next) s') :
 wpAny (model X.prog X.w) X.A (comprehension (.ListComp elt [⟨tg,iter,ifs,0⟩] scope pos) scope X.env pos' (newList []) false (eval iter X.env) use) Qf X.xe s:=by
 have CH:∀y∈scope.names,y.2 = .free→∃c,X.env.cells.lookup y.1=some c:=fun y hy e=>by
  rcases ok.free y hy e with k|k
  ·exact I.ok.has _ (.inl k)
  ·exact I.ok.has _ (.inr k)
 refine wpAny_comprehension_free (use:=use) rfl hs (Fd CH) ok.kind (fun y hy e=>by rw[ok.uniq y hy,e])
  (dj (hi pins s σ H _ I h) fun xv s1 hx=>dj hx fun itv s2 h2=>?_)
 obtain⟨it,fp,tn,J,H2,e,I2,T,st2,f2,q⟩:=h2
 subst e
 refine wpAny_newObj_type (CL ?_) (by show 0≤sizeLine;decide)
 generalize hD:s2.heap.objs.size=D
 have hDn:H2 D=none:=I2.cD.fresh (Nat.le_of_eq hD)
 obtain⟨W,⟨m0,w0⟩,turn⟩:=q D hDn
 generalize Oq:({s2 with heap:=s2.heap.push {cls:=.type "list",data:=.seq ([]:List Value).toArray}}:Shared)=s3
 have I3:Inv X pins σ (upd H2 D (.lst [])) s3:=by
  rw[←Oq]
  refine I2.laid (t':=s2.toks) (fun b o e=>Heap.get?_push_of_some _ e) (Nat.le_of_eq hD) ⟨Nat.zero_le _,[],0,.nil,?_⟩
  rw[←hD]
  exact Heap.get?_push_size _ rfl
 have h3:s3.heap=s2.heap.push {cls:=.type "list",data:=.seq ([]:List Value).toArray}:=by rw[←Oq]
 have sz:∀b∈fp,b<s2.heap.objs.size:=fun b hb=>by
  obtain⟨o,e,_⟩:=T.obj _ _ st2 b hb
  exact Heap.lt_size e
 have f3:∀b∈fp,yo X pins (upd H2 D (.lst [])) b∧b<s3.heap.objs.size:=fun b hb=>by
  have oQ:=sz b hb
  refine⟨⟨?_,(f2 b hb).2⟩,by rw[h3,Heap.size_push];exact Nat.lt_succ_of_lt oQ⟩
  rw[aj (by rw[←hD];exact Nat.ne_of_lt oQ)]
  exact(f2 b hb).1
 have st3:tn 0 s3.heap:=T.keep _ _ _ st2 fun b _ o e=>by rw[h3];exact Heap.get?_push_of_some _ e
 have I4:=CM I3 ok hN f3
 have pg:=hg s3 (upd H2 D (.lst [])) s3.heap.objs.size (cellsFrom (s3.heap.objs.size+1) scope.names (cX X.env.cells scope.names [])) fp
 have pt:=ht s3 (upd H2 D (.lst [])) s3.heap.objs.size (cellsFrom (s3.heap.objs.size+1) scope.names (cX X.env.cells scope.names [])) fp
 have pe:=he s3 (upd H2 D (.lst [])) s3.heap.objs.size (cellsFrom (s3.heap.objs.size+1) scope.names (cX X.env.cells scope.names [])) fp
 show codeAny _ _ (.compStart (.ListComp elt [⟨tg,iter,ifs,0⟩] scope pos) 0 (.ref it) (.ref D) (compEnvC scope (cellsFrom (s3.heap.objs.size+1) scope.names (cX X.env.cells scope.names [])) s3.heap.objs.size X.env)) (compPost (model X.prog X.w) X.A X.xe use Qf (.ref D) s3.heap.objs.size) {s3 with heap:=pushCells (s3.heap.push {cls:=.type "dict",data:=.dict #[]}) scope.names}
 have nfp:∀b∈fp,(upd H2 D (.lst [])) b=none:=fun b hb=>(f3 b hb).1.1
 generalize hce:compEnvC scope (cellsFrom (s3.heap.objs.size+1) scope.names (cX X.env.cells scope.names [])) s3.heap.objs.size X.env=ce at I4 pg pt pe ⊢
 have cL:ce.locals=s3.heap.objs.size:=by subst hce;rfl
 generalize hH3:upd H2 D (.lst [])=H3 at I3 I4 pg pt pe w0 nfp f3
 generalize hs4:({s3 with heap:=pushCells (s3.heap.push {cls:=.type "dict",data:=.dict #[]}) scope.names}:Shared)=s4 at I4 ⊢
 have st4:tn 0 s4.heap:=T.keep _ _ _ st3 fun b _ o e=>by rw[←hs4];exact pushCells_keeps _ _ _ _ (Heap.get?_push_of_some _ e)
 have EX:∀{σ':St} {H':Hp} {s':Shared},Inv (X.Hb s3 H3 scope ce fp) [] σ' H' s'→(∀b∈fp,H' b=none)→∀b∈fp,yo (X.Hb s3 H3 scope ce fp) [] H' b:=fun{σ' H' s'} I' hn b hb =>
  ⟨hn b hb,(I'.ok.exf b hb).1,I'.ok.N6 b hb,.inl hb,fun x c e=>(I'.ok.exf b hb).2 x c e,fun p hp=>absurd (show p∈([]:List (Addr×Obj))++[] from hp) (by simp)⟩
 have loop:codeAny (model X.prog X.w) X.A (.compLoop (.ListComp elt [⟨tg,iter,ifs,0⟩] scope pos) 0 (.ref it) (.ref D) ce) (compPost (model X.prog X.w) X.A X.xe use Qf (.ref D) s3.heap.objs.size) s4:=by
  refine zU (fun n s'=>∃i H',Inv (X.Hb s3 H3 scope ce fp) [] (wipe σ (own.map (·.2))) H' s'∧tn i s'.heap∧(∀b∈fp,H' b=none)∧W i n H') ?_ m0 ⟨0,H3,I4,st4,nfp,w0⟩
  rintro n s5 ⟨i,H5,I5,WR,n5,w5⟩
  rcases turn i n H5 w5 with⟨stop,qq⟩|⟨go,Nx,hNx,step⟩
  ·have td:=T.done (X.Hb s3 H3 scope ce fp) rfl rfl rfl hc i [] s5 _ H5 (fun _ _=>False) I5 (EX I5 n5) WR stop
   refine RR td fun r s6 ⟨hr,I6⟩=>?_
   subst hr
   have I7:Inv X pins σ H5 s6:=I3.IQ (ch:=fp) I6.os I6.base I6.cD I6.bare fun b hb=>⟨(f3 b hb).1.2.2.2.1,(f3 b hb).1.2.1,(f3 b hb).1.2.2.2.2.1,(f3 b hb).1.2.2.2.2.2⟩
   have nC:H5 s3.heap.objs.size=none:=by
    have z:H5 ce.locals=none:=I6.free
    rw[cL]at z
    exact z
   obtain⟨m,hn,_⟩:=I6.loc
   have hn:s6.heap.Ns ce.locals m:=hn
   rw[cL]at hn
   exact hRR D s3.heap.objs.size s6 m H5 I7 qq hn (I3.L6 (Nat.le_refl _) nC)
  ·have ti:=T.item (X.Hb s3 H3 scope ce fp) rfl rfl rfl hc i [] s5 _ H5 (fun _ _=>False) I5 (EX I5 n5) WR go
   refine RR ti fun r s6 ⟨u,hr,h6⟩=>?_
   subst hr
   refine RR h6 fun _ s7 ⟨x,H7,I7,r7,y7,st7,n7⟩=>?_
   have I7':=I7.pinned (EX I7 n7) (T.obj _ _ st7)
   refine RR (pg _ s7 _ H7 x u _ I7' r7 (step x H7 y7)) fun _ s8 ⟨σ8,H8,I8,QM,q8⟩=>?_
   refine RR (pt _ s8 σ8 H8 _ I8 q8) fun b s9 ⟨H9,I9,q9⟩=>?_
   have fin:∀{s':Shared} {H':Hp},Inv (X.Hb s3 H3 scope ce fp) ([]++BB fp s7.heap) σ8 H' s'→Nx H'→∃m,m<n∧∃i H',Inv (X.Hb s3 H3 scope ce fp) [] (wipe σ (own.map (·.2))) H' s'∧tn i s'.heap∧(∀b∈fp,H' b=none)∧W i m H':=fun{s' H'} I' nx=>by
    obtain⟨m',hm,w'⟩:=hNx H' nx
    have Uk:∀b∈fp,∀o,s7.heap.get? b=some o→s'.heap.get? b=some o∧H' b=none:=fun b hb o e =>
     let z:=I'.pin (b,o) (List.mem_append_right _ (List.mem_append_right _ (rq hb e)))
     ⟨z.1,z.2.1⟩
    have hl:(wipe σ (own.map (·.2))).length=σ8.length:=by rw[←QM,oU]
    refine⟨m',hm,i+1,H',(I'.uc (pins:=[])).weak hl (fun j v e=>?_),T.keep _ _ _ st7 fun b hb o e=>(Uk b hb o e).1,fun b hb=>?_,w'⟩
    ·rw[←QM]at e
     exact(wy e).1
    ·obtain⟨o,e,_⟩:=T.obj _ _ st7 b hb
     exact(Uk b hb o e).2
   cases b with
   |false =>
    simp only[Bool.false_eq_true,if_false]at q9 ⊢
    exact fin I9 q9
   |true =>
    simp only[if_true]at q9 ⊢
    refine RR (pe _ s9 σ8 H9 _ I9 q9) fun z s10 ⟨yv,H10,I10,r10,acc,aaI,aaJ,nx⟩=>?_
    exact Uj (X:=X.Hb s3 H3 scope ce fp) I10 aaI aaJ r10 fun s11 I11=>fin I11 nx
 exact codeAny_compStart_list loop (T.self X.A 0 _ _ _ st4 loop)
theorem Ul {i:Nat} {y:Str} {py:Pos} {elt tg iter:Expr} {ifs:List Expr} {scope:Scope} {own:List (Str×Nat)} {pos adK:Pos} {wi:TI} {g:TG} {tt:TT} {te:TE} (hc:X.calm=true) (hN:X.N.Nodup) (hy:X.N[i]?=some y) (hyl:X.env.scope.names.lookup y=some .local)
 (hsw:swapsWith (.ListComp elt [⟨tg,iter,ifs,0⟩] scope pos) (some (.Name y py)) adK.line X.env=pure true) (hi:PI X tg iter wi) (ok:Mf X.N X.env.scope scope own)
 (hg:∀(s:Shared) (H:Hp) (C:Addr) (cl:List (Str×Addr)) (fp:List Addr),PG (X.Hb s H scope (compEnvC scope cl C X.env) fp) tg g) (ht:∀(s:Shared) (H:Hp) (C:Addr) (cl:List (Str×Addr)) (fp:List Addr),PTs (X.Hb s H scope (compEnvC scope cl C X.env) fp) ifs tt)
 (he:∀(s:Shared) (H:Hp) (C:Addr) (cl:List (Str×Addr)) (fp:List Addr),PE (X.Hb s H scope (compEnvC scope cl C X.env) fp) elt te) (hs:∀x,foldedSetIterable iter X.env x=pure x:=by intro _;rfl) :
 PS X (.Assign [.Name y py] (.ListComp elt [⟨tg,iter,ifs,0⟩] scope pos) adK) (aam (tLc wi g tt te (own.map (·.2))) (IS i)):=by
 intro pins s σ H D I h
 rw[exec_Assign_Name_used _ _ _ _ hsw]
 refine wpAny_bind (wpAny_standAt (wpAny_bind ?_))
 show wpAny _ X.A (do let _ ←comprehension (.ListComp elt [⟨tg,iter,ifs,0⟩] scope pos) scope X.env (firstIterPos [⟨tg,iter,ifs,0⟩] pos) (newList []) false (eval iter X.env) (some (assign (.Name y py) X.env))) _ _ s
 have h:tLc wi g tt te (own.map (·.2)) σ H (fun x H1=>IS i x σ H1 D.nx):=h
 refine wpAny_bind (dj (Xg (Qf:=fun _ s'=>SP X pins D .next s') hc hN I hi ok hg ht he hs h fun L C s' m H' I' q hn f=>?_) fun _ s' hq=>wpAny_pure (wpAny_pure hq))
 show wpAny _ _ (assign (.Name y py) X.env (.ref L)) _ _ _
 refine wpAny_assign_Name (IP (v:=V.ref L) I' hN hy (.inl hyl) rfl (fun s2 I2 ⟨a,sb,ha⟩=>?_) (.inr hyl))
 obtain⟨f0,f1,f2,f3,f4,f5⟩:=f
 have haC:C≠a:=by
  rcases ha with z|z
  ·rw[z];exact f1
  ·exact fun e=>f4 y a z e.symm
 refine⟨m,hn.sameBut sb haC,fun h3 sb3=>?_⟩
 exact⟨_,H',I2.turned (t':=s2.toks) (fun b o hb e=>(sb3.2 b hb).trans e) f0 f1 f3 f4 f5,q⟩
theorem Xh {elt:Expr} {gs:List Comprehension} {scope:Scope} {pos py:Pos} {y:Str} {l:Nat} {env:Env} (hk:env.scope.kind = .function) (hy:env.scope.names.lookup y=some .local) (hl:(py.line==pos.line)=true)
 (ha:(scope.names.any fun(n,k)=>n==y&&(k == .local ||k == .cell))=false):swapsWith (.ListComp elt gs scope pos) (some (.Name y py)) l env=pure true:=by
 have ky:env.kindOf y=some .local:=hy
 have hb:env.blockKind = .function:=by unfold Env.blockKind;rw[hk];rfl
 unfold swapsWith
 simp only[hb,ky,ha,Expr.pos,hl]
 rfl
end
theorem zV {K:PySem.W.Frag} {a:Addr} {xs:List V} {g:TG} {tt:TT} {te:TE} {vs:List Nat} {σ:St} {H1:Hp} {D:Addr} {Qd:Hp→Prop} (Pv:Nat→Hp→Prop) (h0:Pv 0 (upd H1 D (.lst []))) (hl:∀i H,i≤xs.length→Pv i H→bO K H a xs)
 (hs:∀i x H,xs[i]?=some x→Pv i H→g x (wipe σ vs) H fun σ2 H2=>wipe σ2 vs=wipe σ vs∧tt σ2 H2 fun b H3 =>
  if b=true then te σ2 H3 fun y H4=>∃acc,H4 D=some (.lst acc)∧acc.length<sizeLine∧Pv (i+1) (upd H4 D (.lst (acc++[y]))) else Pv (i+1) H3) (hd:∀H,Pv xs.length H→Qd H) :
 ∃W:Nat→Nat→Hp→Prop,(∃m,W 0 m (upd H1 D (.lst [])))∧∀i m H,W i m H →
  ((Zf K a).stop i H∧Qd H)∨((Zf K a).go i H∧∃Nx:Hp→Prop,(∀H',Nx H'→∃m',m'<m∧W (i+1) m' H')∧∀x H',(Zf K a).WQ i H x H'→g x (wipe σ vs) H' fun σ2 H2=>wipe σ2 vs=wipe σ vs∧tt σ2 H2 fun b H3 =>
   if b=true then te σ2 H3 fun y H4=>∃acc,H4 D=some (.lst acc)∧acc.length<sizeLine∧Nx (upd H4 D (.lst (acc++[y]))) else Nx H3):=by
 refine⟨fun i m H=>m=xs.length-i∧i≤xs.length∧Pv i H,⟨xs.length,by simp,Nat.zero_le _,h0⟩,?_⟩
 rintro i m H ⟨rfl,hi,p⟩
 have q:=hl i H hi p
 by_cases oQ:i<xs.length
 ·refine .inr ⟨⟨xs,xs[i],q,by simp[oQ]⟩,Pv (i+1),fun H' p'=>⟨xs.length-(i+1),by omega,rfl,oQ,p'⟩,fun x H' y=>?_⟩
  obtain⟨e,y⟩:=y
  subst e
  exact hs i x _ (y xs q) p
 ·have e:i=xs.length:=by omega
  subst e
  exact .inl ⟨⟨xs,q,Nat.le_refl _⟩,hd H p⟩
theorem aaL {K:PySem.W.Frag} {a:Addr} {xs:List V} {g:TG} {tt:TT} {te:TE} {vs:List Nat} {σ:St} {H1:Hp} {D:Addr} {Qd:Hp→Prop} (Pv:Nat→Hp→Prop) (h0:Pv 0 (upd H1 D (.lst []))) (hl:∀i H,i≤xs.length→Pv i H→tS K H a xs)
 (hs:∀i x H,xs[i]?=some x→Pv i H→g x (wipe σ vs) H fun σ2 H2=>wipe σ2 vs=wipe σ vs∧tt σ2 H2 fun b H3 =>
  if b=true then te σ2 H3 fun y H4=>∃acc,H4 D=some (.lst acc)∧acc.length<sizeLine∧Pv (i+1) (upd H4 D (.lst (acc++[y]))) else Pv (i+1) H3) (hd:∀H,Pv xs.length H→Qd H) :
 ∃W:Nat→Nat→Hp→Prop,(∃m,W 0 m (upd H1 D (.lst [])))∧∀i m H,W i m H →
  ((Itt K a).stop i H∧Qd H)∨((Itt K a).go i H∧∃Nx:Hp→Prop,(∀H',Nx H'→∃m',m'<m∧W (i+1) m' H')∧∀x H',(Itt K a).WQ i H x H'→g x (wipe σ vs) H' fun σ2 H2=>wipe σ2 vs=wipe σ vs∧tt σ2 H2 fun b H3 =>
   if b=true then te σ2 H3 fun y H4=>∃acc,H4 D=some (.lst acc)∧acc.length<sizeLine∧Nx (upd H4 D (.lst (acc++[y]))) else Nx H3):=by
 refine⟨fun i m H=>m=xs.length-i∧i≤xs.length∧Pv i H,⟨xs.length,by simp,Nat.zero_le _,h0⟩,?_⟩
 rintro i m H ⟨rfl,hi,p⟩
 have q:=hl i H hi p
 by_cases oQ:i<xs.length
 ·refine .inr ⟨⟨xs,xs[i],q,by simp[oQ]⟩,Pv (i+1),fun H' p'=>⟨xs.length-(i+1),by omega,rfl,oQ,p'⟩,fun x H' y=>?_⟩
  obtain⟨e,y⟩:=y
  subst e
  exact hs i x _ (y xs q) p
 ·have e:i=xs.length:=by omega
  subst e
  exact .inl ⟨⟨xs,q,Nat.le_refl _⟩,hd H p⟩
def adL (N:List Str) (sc scope:Scope) (own:List (Str×Nat)):Bool :=
 (match scope.kind with | .function=>true|_=>false)&&(scope.names.all fun y=>decide (scope.names.lookup y.1=some y.2))&&(own.all fun p=>decide (N[p.2]?=some p.1)) &&
  (scope.names.all fun y=>match y.2 with
   | .free=>(match sc.names.lookup y.1 with|some .cell=>true|some .free=>true|_=>false)
   | .local=>decide (y.1∈own.map (·.1)) ||decide (y.1∉N)
   | .cell=>decide (y.1∈own.map (·.1)) ||decide (y.1∉N)
   |_=>true)
theorem nG {N:List Str} {sc scope:Scope} {own:List (Str×Nat)} (h:adL N sc scope own=true):Mf N sc scope own:=by
 unfold adL at h
 simp only[Bool.and_eq_true,List.all_eq_true,decide_eq_true_eq]at h
 obtain⟨⟨⟨h1,h2⟩,h3⟩,h4⟩:=h
 refine⟨?_,h2,h3,fun y hy e=>?_,fun y hy e=>?_⟩
 ·split at h1
  ·assumption
  ·cases h1
 ·have q:=h4 y hy
  simp only[e]at q
  split at q<;>first|exact .inl (by assumption)|exact .inr (by assumption)|cases q
 ·have q:=h4 y hy
  rcases e with e|e<;>(simp only[e,Bool.or_eq_true,decide_eq_true_eq]at q;exact q)
end L2
namespace L2
open PySem PySem.Spec PyProof.Rows
end L2
namespace L2
open PySem PySem.Spec PyProof.Rows
section
variable {κ:Type} [DecidableEq κ]
def jo (aZ:List (κ×V)) (k:κ):Option V:=(aZ.find? fun kv=>decide (kv.1=k)).map (·.2)
def putK (aZ:List (κ×V)) (k:κ) (v:V):List (κ×V) :=
 if (aZ.any fun kv=>decide (kv.1=k))=true then aZ.map (fun kv=>if kv.1=k then(kv.1,v) else kv) else aZ++[(k,v)]
theorem lL {p:κ×V} {r:List (κ×V)} {k:κ} (e:p.1=k):jo (p::r) k=some p.2:=by simp[jo,List.find?_cons,e]
theorem lM {p:κ×V} {r:List (κ×V)} {k:κ} (e:¬p.1=k):jo (p::r) k=jo r k:=by simp[jo,List.find?_cons,e]
theorem ui (k:κ):∀aZ:List (κ×V),(aZ.any fun kv=>decide (kv.1=k))=(jo aZ k).isSome
 | []=>rfl
 |p::r=>by
  rw[List.any_cons]
  by_cases e:p.1=k
  ·simp only[lL e,decide_eq_true e,Bool.true_or,Option.isSome_some]
  ·rw[lM e,decide_eq_false e,Bool.false_or];exact ui k r
theorem uj (aZ:List (κ×V)) (k:κ) (v:V):(putK aZ k v).length≤aZ.length+1:=by
 unfold putK
 split
 ·rw[List.length_map];omega
 ·rw[List.length_append,List.length_cons,List.length_nil];omega
theorem Um {aZ:List (κ×V)} {k:κ} (v:V) (h:jo aZ k=none):putK aZ k v=aZ++[(k,v)]:=by
 unfold putK
 rw[ui,h]
 exact if_neg (by decide)
theorem t9.nt {o:Option V} {u:Option Value} (r:t9 o u):o.isSome=u.isSome:=by
 cases o with
 |none=>cases u with
  |none=>rfl
  |some _=>exact(show False from r).elim
 |some _=>cases u with
  |none=>exact(show False from r).elim
  |some _=>rfl
theorem KV.val {aZ:List (κ×V)} {vs:List (κ×Value)} (r:KV aZ vs) (k:κ):t9 (jo aZ k) (valueAt vs k):=by
 unfold KV at r
 induction r with
 |nil=>exact True.intro
 |@cons p q ps qs h t ih =>
  obtain⟨h1,h2⟩:=h
  by_cases e:p.1=k
  ·have e':q.1=k:=h1.symm.trans e
   have b:valueAt (q::qs) k=some q.2:=by simp[valueAt,List.find?_cons,e']
   rw[lL e,b];exact h2
  ·have e':¬q.1=k:=fun z=>e (h1.trans z)
   have b:valueAt (q::qs) k=valueAt qs k:=by simp[valueAt,List.find?_cons,e']
   rw[lM e,b];exact ih
theorem KV.any {aZ:List (κ×V)} {vs:List (κ×Value)} (r:KV aZ vs) (k:κ):(aZ.any fun kv=>decide (kv.1=k))=vs.any fun kv=>decide (kv.1=k):=by
 unfold KV at r
 induction r with
 |nil=>rfl
 |cons h t ih=>rw[List.any_cons,List.any_cons,ih,h.1]
theorem KV.aaM {aZ:List (κ×V)} {vs:List (κ×Value)} (r:KV aZ vs) (k:κ) {y:V} {u:Value} (ry:RelV y u) :
 KV (aZ.map fun kv=>if kv.1=k then(kv.1,y) else kv) (vs.map fun kv=>if kv.1=k then(kv.1,u) else kv):=by
 unfold KV at r ⊢
 induction r with
 |nil=>exact .nil
 |@cons p q ps qs h t ih =>
  rw[List.map_cons,List.map_cons]
  refine .cons ?_ ih
  obtain⟨h1,h2⟩:=h
  by_cases e:p.1=k
  ·rw[if_pos e,if_pos (h1.symm.trans e)];exact⟨h1,ry⟩
  ·rw[if_neg e,if_neg (fun z=>e (h1.trans z))];exact⟨h1,h2⟩
theorem KV.put {aZ:List (κ×V)} {vs:List (κ×Value)} (r:KV aZ vs) (k:κ) {y:V} {u:Value} (ry:RelV y u):KV (putK aZ k y) (stored vs k u):=by
 unfold putK stored
 rw[r.any k]
 by_cases e:(vs.any fun kv=>decide (kv.1=k))=true
 ·rw[if_pos e,if_pos e];exact r.aaM k ry
 ·rw[if_neg e,if_neg e];exact Paired.snoc r ⟨rfl,ry⟩
theorem KV.length {aZ:List (κ×V)} {vs:List (κ×Value)} (r:KV aZ vs):aZ.length=vs.length:=Paired.length r
end
theorem zW {P:Program} {w:World} {k:Key} {u:Value} (r:RelV (kV k) u):(cj P w).is k u=true:=by
 cases k with
 |inl i=>obtain⟨t,e⟩:=(show ∃t,u=Value.int i t from r);subst e;exact CG P w i t
 |inr x=>obtain⟨t,e⟩:=(show ∃t,u=Value.str x t from r);subst e;exact L0 P w x t
theorem Jf {P:Program} {w:World}:∀{ks:List Key} {us:List Value},Vals (ks.map kV) us→ItemsAre (cj P w) ks us
 | [],_,r=>by rw[List.map_nil]at r;cases r;exact .nil
 |k::ks,_,r=>by
  rw[List.map_cons]at r
  cases r with
  |cons h t=>exact .cons (zW h) (Jf t)
abbrev KT (H:Hp):List (List Key×V)→List (List Key×Addr×Value)→Prop:=Paired fun p q=>p.1=q.1∧H q.2.1=some (.tup (p.1.map kV))∧RelV p.2 q.2.2
theorem KT.val {H:Hp} {aZ:List (List Key×V)} {xs:List (List Key×Addr×Value)} (r:KT H aZ xs) (k:List Key):t9 (jo aZ k) ((atKey xs k).map (·.2)):=by
 induction r with
 |nil=>exact True.intro
 |@cons p q ps qs h t ih =>
  obtain⟨h1,_,h2⟩:=h
  by_cases e:p.1=k
  ·have e':q.1=k:=h1.symm.trans e
   have b:atKey (q::qs) k=some q.2:=by simp[atKey,List.find?_cons,e']
   rw[lL e,b];exact h2
  ·have e':¬q.1=k:=fun z=>e (h1.trans z)
   have b:atKey (q::qs) k=atKey qs k:=by simp[atKey,List.find?_cons,e']
   rw[lM e,b];exact ih
theorem KT.aaM {H:Hp} {aZ:List (List Key×V)} {xs:List (List Key×Addr×Value)} (r:KT H aZ xs) (k:List Key) {y:V} {u:Value} (ry:RelV y u) :
 KT H (aZ.map fun kv=>if kv.1=k then(kv.1,y) else kv) (xs.map (putAt k u)):=by
 induction r with
 |nil=>exact .nil
 |@cons p q ps qs h t ih =>
  rw[List.map_cons,List.map_cons]
  refine .cons ?_ ih
  obtain⟨h1,h2,h3⟩:=h
  unfold putAt
  by_cases e:p.1=k
  ·rw[if_pos e,if_pos (h1.symm.trans e)];exact⟨h1,h2,ry⟩
  ·rw[if_neg e,if_neg (fun z=>e (h1.trans z))];exact⟨h1,h2,h3⟩
theorem KT.put {H:Hp} {aZ:List (List Key×V)} {xs:List (List Key×Addr×Value)} (r:KT H aZ xs) (k:List Key) {b:Addr} {y:V} {u:Value} (hb:H b=some (.tup (k.map kV))) (ry:RelV y u) :
 KT H (putK aZ k y) (storedH xs k b u):=by
 have e:(aZ.any fun kv=>decide (kv.1=k))=(atKey xs k).isSome:=by
  rw[ui,(r.val k).nt,Option.isSome_map]
 unfold putK storedH
 rw[e]
 by_cases q:(atKey xs k).isSome=true
 ·rw[if_pos q,if_pos q];exact r.aaM k ry
 ·rw[if_neg q,if_neg q];exact Paired.snoc r ⟨rfl,hb,ry⟩
theorem KT.keeps {H H':Hp} {aZ:List (List Key×V)} {xs:List (List Key×Addr×Value)} (r:KT H aZ xs) (ht:∀b ys,H b=some (.tup ys)→H' b=some (.tup ys)):KT H' aZ xs :=
 Paired.ua r fun _ _ z=>⟨z.1,ht _ _ z.2.1,z.2.2⟩
section
variable {P:Program} {w:World} {H:Hp} {h:Heap} {a:Addr}
theorem Zk {u:HO} (ok:t6 P w H h) (e:Rd H a u):eX P w H h a u:=e.ok ok
theorem Jg {aZ:List (Key×V)} (ok:t6 P w H h) (e:Rd H a (.dK aZ)):aZ.length≤sizeLine∧(a==sysModules)=false∧∃vs,KV aZ vs∧h.DictOf (cj P w) a vs :=
 show eX P w H h a (.dK aZ) from Zk ok e
theorem Zl {aZ:List (Key×V)} (ok:t6 P w H h) (e:H a=some (.dK aZ)):aZ.length≤sizeLine∧(a==sysModules)=false∧∃vs,KV aZ vs∧h.DictOf (cj P w) a vs:=Jg ok (.inl e)
theorem Fe {ks:List Key} (ok:t6 P w H h) (e:H a=some (.tup (ks.map kV))):(tupleKind (cj P w)).is h ks a:=by
 obtain⟨_,bt,r,o,h1,h2,n,h3⟩:=(show eX P w H h a (.tup (ks.map kV)) from ok a _ e)
 exact⟨o,bt.toArray,n,h1,h2,h3,by simpa using Jf r⟩
theorem Mh {aZ:List (List Key×V)} (ok:t6 P w H h) (e:Rd H a (.dT aZ)):aZ.length≤sizeLine∧(a==sysModules)=false ∧
 ∃xs,KT H aZ xs∧h.DictOfH (tupleKind (cj P w)) a xs:=by
 obtain⟨z,y,xs,r,o,es,ep,h1,h2,h3,h4,h5⟩:=(show eX P w H h a (.dT aZ) from Zk ok e)
 refine⟨z,y,xs,r,o,es,ep,h1,h2,h3,h4,fun x hx=>?_,h5⟩
 have all:∀{l:List (List Key×V)} {m:List (List Key×Addr×Value)},KT H l m→∀x∈m,(tupleKind (cj P w)).is h x.1 x.2.1:=by
  intro l m q
  induction q with
  |nil=>intro x hx;exact nomatch hx
  |@cons p q ps qs hq t ih =>
   intro x hx
   rcases List.mem_cons.mp hx with e|hx
   ·subst e
    exact Fe ok (by rw[←hq.1];exact hq.2.1)
   ·exact ih x hx
 exact all r x hx
theorem Zm {aZ:List (List Key×V)} (ok:t6 P w H h) (e:H a=some (.dT aZ)):aZ.length≤sizeLine∧(a==sysModules)=false ∧
 ∃xs,KT H aZ xs∧h.DictOfH (tupleKind (cj P w)) a xs:=Mh ok (.inl e)
end
def wH (H:Hp) (a:Addr) (y:V) (r:Option V):Prop :=
 (∃aZ k,Rd H a (.dK aZ)∧y=kV k∧r=jo aZ k)∨∃aZ k b,Rd H a (.dT aZ)∧y = .ref b∧H b=some (.tup (k.map kV))∧r=jo aZ k
def Mi (H:Hp) (a:Addr) (y v:V) (H':Hp):Prop :=
 (∃aZ k,H a=some (.dK aZ)∧y=kV k∧aZ.length<sizeLine∧H'=upd H a (.dK (putK aZ k v))) ∨
 ∃aZ k b,H a=some (.dT aZ)∧y = .ref b∧H b=some (.tup (k.map kV))∧aZ.length<sizeLine∧H'=upd H a (.dT (putK aZ k v))
theorem wH.k {H:Hp} {a:Addr} {aZ:List (Key×V)} {k:Key} (e:H a=some (.dK aZ)):wH H a (kV k) (jo aZ k):=.inl ⟨aZ,k,.inl e,rfl,rfl⟩
theorem wH.t {H:Hp} {a b:Addr} {aZ:List (List Key×V)} {k:List Key} (e:H a=some (.dT aZ)) (eb:H b=some (.tup (k.map kV))):wH H a (.ref b) (jo aZ k):=.inr ⟨aZ,k,b,.inl e,rfl,eb,rfl⟩
theorem Mi.k {H:Hp} {a:Addr} {aZ:List (Key×V)} {k:Key} {v:V} (e:H a=some (.dK aZ)) (hl:aZ.length<sizeLine):Mi H a (kV k) v (upd H a (.dK (putK aZ k v))):=.inl ⟨aZ,k,e,rfl,hl,rfl⟩
theorem Mi.t {H:Hp} {a b:Addr} {aZ:List (List Key×V)} {k:List Key} {v:V} (e:H a=some (.dT aZ)) (eb:H b=some (.tup (k.map kV))) (hl:aZ.length<sizeLine) :
 Mi H a (.ref b) v (upd H a (.dT (putK aZ k v))):=.inr ⟨aZ,k,b,e,rfl,eb,hl,rfl⟩
section
variable {X:Cx} {pins:List (Addr×Obj)} {σ:St} {H:Hp} {s:Shared} {a:Addr} {y v:V} {u r:Value} {o:Option V} {A:Around} {E:Value→Shared→Prop}
theorem Inv.big (I:Inv X pins σ H s):sysModules<s.heap.objs.size:=by
 have h:mainGlobals<s.heap.objs.size:=(I.mod.glob.keeps I.bk).lt
 exact Nat.lt_trans (by decide) h
theorem RS {Q:Value→Shared→Prop} (hu:A.units+1<cLine) (I:Inv X pins σ H s) (g:wH H a y (some v)) (ry:RelV y u) (h:∀w' s',Inv X pins σ H s'→RelV v w'→Q w' s') :
 wpAny (model X.prog X.w) A (getItem (.ref a) u) Q E s:=by
 rcases g with⟨aZ,k,e,ey,l⟩|⟨aZ,k,b,e,ey,eb,l⟩
 ·subst ey
  obtain⟨z,hd,vs,rel,dd⟩:=Jg I.cD e
  obtain⟨w',hw,T9⟩:=t9.some_of (v:=v) (o:=valueAt vs k) (by rw[l];exact rel.val k)
  exact wpAny_getItem_of (zW ry) dd.mapOf hw (h w' _ (I.tok _) T9)
 ·subst ey
  cases(show u=Value.ref b from ry)
  obtain⟨z,hd,xs,rel,dd⟩:=Mh I.cD e
  obtain⟨w',hw,T9⟩:=t9.some_of (v:=v) (o:=(atKey xs k).map (·.2)) (by rw[l];exact rel.val k)
  obtain⟨p,hp,hp2⟩:=Option.map_eq_some_iff.mp hw
  refine wpAny_getItem_heap (tupleKind_room_in1 hu) (Fe I.cD eb) dd hp ?_
  rw[hp2]
  exact h w' _ (I.tok _) T9
theorem ahk {Q:Value→Shared→Prop} (hu:A.units+1<cLine) (I:Inv X pins σ H s) (g:wH H a y o) (ry:RelV y u) (h:∀s',Inv X pins σ H s'→Q (.bool o.isSome) s') :
 wpAny (model X.prog X.w) A (compareOp .In u (.ref a)) Q E s:=by
 rcases g with⟨aZ,k,e,ey,l⟩|⟨aZ,k,b,e,ey,eb,l⟩
 ·subst ey
  obtain⟨z,hd,vs,rel,dd⟩:=Jg I.cD e
  refine wpAny_in_of (zW ry) hd dd.mapOf ?_
  rw[←(rel.val k).nt,←l]
  exact h _ (I.tok _)
 ·subst ey
  cases(show u=Value.ref b from ry)
  obtain⟨z,hd,xs,rel,dd⟩:=Mh I.cD e
  refine wpAny_in_heap (tupleKind_room_in1 hu) (Fe I.cD eb) hd dd ?_
  have q:=(rel.val k).nt
  rw[Option.isSome_map]at q
  rw[←q,←l]
  exact h _ (I.tok _)
theorem Xi {Q:Value→Shared→Prop} (hu:A.units+1<cLine) (I:Inv X pins σ H s) (g:wH H a y o) (ry:RelV y u) (h:∀s',Inv X pins σ H s'→Q (.bool (!o.isSome)) s') :
 wpAny (model X.prog X.w) A (compareOp .NotIn u (.ref a)) Q E s:=by
 rcases g with⟨aZ,k,e,ey,l⟩|⟨aZ,k,b,e,ey,eb,l⟩
 ·subst ey
  obtain⟨z,hd,vs,rel,dd⟩:=Jg I.cD e
  refine wpAny_notIn_of (zW ry) hd dd.mapOf ?_
  rw[←(rel.val k).nt,←l]
  exact h _ (I.tok _)
 ·subst ey
  cases(show u=Value.ref b from ry)
  obtain⟨z,hd,xs,rel,dd⟩:=Mh I.cD e
  refine wpAny_notIn_heap (tupleKind_room_in1 hu) (Fe I.cD eb) hd dd ?_
  have q:=(rel.val k).nt
  rw[Option.isSome_map]at q
  rw[←q,←l]
  exact h _ (I.tok _)
theorem J6 {h':Heap} {t':Nat} {ob:HO} (I:Inv X pins σ H s) (mu:Mut (H a)) (hs:Heap.SameBut a s.heap h') (he:∃q,h'.get? a=some q) (new:eX X.prog X.w (upd H a ob) h' a ob) :
 Inv X pins σ (upd H a ob) {s with heap:=h',toks:=t'} :=
 I.write (x:=a) (e:=a) mu (.inl rfl) (fun b q hb z=>(hs.2 b hb).trans z) he new
theorem Uo {P:Program} {w:World} {H':Hp} {h':Heap} {aZ:List (Key×V)} {vs:List (Key×Value)} (z:aZ.length≤sizeLine) (hd:(a==sysModules)=false) (rel:KV aZ vs) (dd:h'.DictOf (cj P w) a vs) :
 eX P w H' h' a (.dK aZ):=⟨z,hd,vs,rel,dd⟩
theorem RT {H':Hp} {Q:Unit→Shared→Prop} (hu:A.units+1<cLine) (I:Inv X pins σ H s) (g:Mi H a y v H') (ry:RelV y u) (rv:RelV v r) (h:∀s',Inv X pins σ H' s'→Q () s') :
 wpAny (model X.prog X.w) A (setItem (.ref a) u r) Q E s:=by
 rcases g with⟨aZ,k,e,ey,l,eH⟩|⟨aZ,k,b,e,ey,eb,l,eH⟩
 ·subst ey eH
  obtain⟨z,hd,vs,rel,dd⟩:=Zl I.cD e
  have hz:vs.length≤sizeLine:=by rw[←rel.length];exact z
  have hl:(putK aZ k v).length≤sizeLine:=by have:=uj aZ k v;omega
  refine wpAny_setItem_pairs (hsz:=hz) (zW ry) dd fun h' dd' hs=>h _ ?_
  have he:∃q,h'.get? a=some q:=let⟨q,_,_,hq,_⟩:=dd';⟨q,hq⟩
  exact J6 I (by rw[e];exact True.intro) hs he (Uo hl hd (rel.put k rv) dd')
 ·subst ey eH
  cases(show u=Value.ref b from ry)
  obtain⟨z,hd,xs,rel,dd⟩:=Zm I.cD e
  have hz:xs.length≤sizeLine:=by rw[←Paired.length rel];exact z
  have hl:(putK aZ k v).length≤sizeLine:=by have:=uj aZ k v;omega
  refine wpAny_setItem_heap (hsz:=hz) (tupleKind_room_in1 hu) (Fe I.cD eb) dd fun h' dd' hs=>h _ ?_
  obtain⟨q,es,ep,hq,h2,h3,h4,_,h5⟩:=dd'
  refine J6 I (by rw[e];exact True.intro) hs ⟨q,hq⟩ ⟨hl,hd,_,(rel.put k eb rv).keeps fun c ys ec=>?_,q,es,ep,hq,h2,h3,h4,h5⟩
  rw[aj (cQ ec e (fun z=>nomatch z))]
  exact ec
end
section
variable {X:Cx} {pins:List (Addr×Obj)} {σ:St} {H:Hp} {s:Shared} {a:Addr} {aZ:List (Key×V)} {k:Key} {u:Value} {A:Around} {E:Value→Shared→Prop}
theorem adM {Q:Value→Shared→Prop} (I:Inv X pins σ H s) (e:Rd H a (.dK aZ)) (h:∀t s',Inv X pins σ H s'→Q (.int aZ.length t) s'):wpAny (model X.prog X.w) A (call (.builtin "len") [.ref a]) Q E s:=by
 obtain⟨z,hd,vs,rel,dd⟩:=Jg I.cD e
 refine call_len_dict hd dd (by rw[←rel.length];rw[sizeLine_eq]at z;omega) ?_
 rw[←rel.length]
 exact h _ _ (I.tok _)
end
def aaO (i:Expr):Prop:=∀ov iv,subscripted i false ov iv=operate [ov,iv] (getItem ov iv)
theorem QN {prog:Program} {w:World} {A:Around} {E:Value→Shared→Prop} {s:Shared} {env:Env} {value slice:Expr} {pos:Pos} {T id:String} {Q:Value→Shared→Prop}
 (hl:typeLookup (.type T) "__getitem__" = pure (some (.builtin id))) (hs:aaO slice)
 (h:wpAny (model prog w) A (eval value env) (fun o s₁=>wpAny (model prog w) A (eval slice env) (fun i s₂=>s₂.TypeIs o T∧wpAny (model prog w) A (getItem o i) Q E s₂) E s₁) E s) :
 wpAny (model prog w) A (eval (.Subscript value slice pos) env) Q E s:=by
 refine Subscript_ (wpAny_mono h (fun o s₁ h₁=>wpAny_mono h₁ (fun i s₂ h₂=>?_) fun _ _ x=>x) fun _ _ x=>x)
 obtain⟨hT,h₂⟩:=h₂
 unfold subscriptTail
 refine wpAny_bind ?_
 rw[getitemInPython_of_ne hT.not_modules]
 refine wpAny_bind (wpAny_specialOf hT hl ?_)
 have fin:wpAny (model prog w) A (subscripted slice false o i) (fun r s₃=>wpAny (model prog w) A (letTemporaryGo value o r >>= fun _=>pure r) Q E s₃) E s₂:=by
  rw[hs o i]
  exact wpAny_operating (wpAny_mono h₂ (fun r s₃ h₃=>wpAny_bind (wpAny_letTemporaryGo (wpAny_pure h₃))) fun _ _ x=>x)
 first
  |exact wpAny_pure (wpAny_bind fin)
  |exact wpAny_bind (wpAny_pure (wpAny_bind fin))
  |exact wpAny_bind fin
theorem Mj {X:Cx} {pins:List (Addr×Obj)} {σ:St} {H:Hp} {s:Shared} {a:Addr} {y:V} {o:Option V} (I:Inv X pins σ H s) (g:wH H a y o):s.TypeIs (.ref a) "dict":=by
 rcases g with⟨aZ,k,e,_,_⟩|⟨aZ,k,b,e,_,_,_⟩
 ·obtain⟨_,_,vs,_,dd⟩:=Jg I.cD e
  exact dd.typeIs
 ·obtain⟨_,_,xs,_,dd⟩:=Mh I.cD e
  exact dd.typeIs
def adN (td ty:TE):TE:=fun σ H Q=>td σ H fun x H1=>ty σ H1 fun y H2=>∃a v,x = .ref a∧wH H2 a y (some v)∧Q v H2
def ahl (ty td:TE):TE:=fun σ H Q=>ty σ H fun y H1=>td σ H1 fun x H2=>∃a o,x = .ref a∧wH H2 a y o∧Q (.bl o.isSome) H2
def Xj (ty td:TE):TE:=fun σ H Q=>ty σ H fun y H1=>td σ H1 fun x H2=>∃a o,x = .ref a∧wH H2 a y o∧Q (.bl (!o.isSome)) H2
def adO (td ty tv:TE):TS:=fun D σ H=>tv σ H fun v H1=>td σ H1 fun x H2=>ty σ H2 fun y H3=>∃a H4,x = .ref a∧Mi H3 a y v H4∧D.nx σ H4
section
variable {X:Cx} {o i e value:Expr} {pos pos' RO:Pos} {td ty tv:TE}
theorem Xk (hu:X.A.units+1<cLine) (ho:PE X o td) (hi:PE X i ty) (hs:aaO i):PE X (.Subscript o i pos) (adN td ty):=by
 intro pins s σ H Q I h
 refine QN PySem.F.slot_dict_getitem.lookup hs (dj (ho pins s σ H _ I h) fun u s1 ⟨x,H1,I1,rx,q1⟩=>dj (hi pins s1 σ H1 _ I1 q1) fun iv s2 ⟨y,H2,I2,ry,a,v,ex,g,q2⟩=>?_)
 subst ex
 obtain rfl:u=Value.ref a:=rx
 exact⟨Mj I2 g,RS hu I2 g ry fun w' s3 I3 T9=>⟨v,H2,I3,T9,q2⟩⟩
theorem aaP (hu:X.A.units+1<cLine) (hi:PE X i ty) (ho:PE X o td):PC X .In i o (ahl ty td):=by
 intro pins s σ H Q I h
 refine dj (hi pins s σ H _ I h) fun iv s1 ⟨y,H1,I1,ry,q1⟩=>dj (ho pins s1 σ H1 _ I1 q1) fun u s2 ⟨x,H2,I2,rx,a,ov,ex,g,q2⟩=>?_
 subst ex
 obtain rfl:u=Value.ref a:=rx
 exact ahk hu I2 g ry fun s3 I3=>⟨.bl ov.isSome,H2,I3,rfl,q2⟩
theorem BH (hu:X.A.units+1<cLine) (hi:PE X i ty) (ho:PE X o td):PC X .NotIn i o (Xj ty td):=by
 intro pins s σ H Q I h
 refine dj (hi pins s σ H _ I h) fun iv s1 ⟨y,H1,I1,ry,q1⟩=>dj (ho pins s1 σ H1 _ I1 q1) fun u s2 ⟨x,H2,I2,rx,a,ov,ex,g,q2⟩=>?_
 subst ex
 obtain rfl:u=Value.ref a:=rx
 exact Xi hu I2 g ry fun s3 I3=>⟨.bl (!ov.isSome),H2,I3,rfl,q2⟩
theorem QO (hu:X.A.units+1<cLine) (ho:PE X o td) (hi:PE X i ty) (hv:PE X value tv) (hs:swapsWith value (some (.Subscript o i pos')) pos.line X.env=pure false) :
 PS X (.Assign [.Subscript o i pos'] value pos) (adO td ty tv):=by
 intro pins s σ H D I h
 refine wpAny_Assign_Subscript (dj (hv pins s σ H _ I h) fun r s1 ⟨v,H1,I1,rv,q1⟩=>dj (ho pins s1 σ H1 _ I1 q1) fun u s2 ⟨x,H2,I2,rx,q2⟩=>dj (hi pins s2 σ H2 _ I2 q2) fun iv s3 ⟨y,H3,I3,ry,a,H4,ex,g,q3⟩=>?_) hs
 subst ex
 obtain rfl:u=Value.ref a:=rx
 exact RT hu I3 g ry rv fun s4 I4=>⟨σ,H4,I4,q3⟩
end
theorem Up {P:Program} {w:World} {H:Hp} (h:Heap) (hb:sysModules<h.objs.size):eX P w H (h.push {cls:=.type "dict",data:=.dict #[]}) h.objs.size (.dK []) :=
 ⟨Nat.zero_le _,beq_eq_false_iff_ne.mpr (Ne.symm (Nat.ne_of_lt hb)),[],.nil,Heap.DictOf.new h⟩
theorem Uq {P:Program} {w:World} {H:Hp} (h:Heap) (hb:sysModules<h.objs.size):eX P w H (h.push {cls:=.type "dict",data:=.dict #[]}) h.objs.size (.dT []) :=
 ⟨Nat.zero_le _,beq_eq_false_iff_ne.mpr (Ne.symm (Nat.ne_of_lt hb)),[],.nil,_,#[],0,Heap.get?_push_size _ rfl,⟨rfl,rfl,rfl⟩,rfl,rfl,List.nodup_nil⟩
def aaQ:TE:=fun _ H Q=>∀p,H p=none→Q (.ref p) (upd H p (.dT []))
section
variable {X:Cx} {pos:Pos}
theorem Ur:PE X (.Dict [] [] pos) aaQ:=fun pins s σ H Q I h =>
 wpAny_Dict_empty ⟨.ref s.heap.objs.size,_,I.laid (a:=s.heap.objs.size) (o:=.dT []) (t':=s.toks) (fun _ _ q=>Heap.get?_push_of_some _ q) (Nat.le_refl _) (Uq s.heap I.big),rfl,h _ (I.cD.fresh (Nat.le_refl _))⟩
end
def Ot:List (TE×TE)→St→Hp→(List (V×V)→Hp→Prop)→Prop
 | [],_,H,Q=>Q [] H
 |(tk,tv)::r,σ,H,Q=>tk σ H fun x H1=>tv σ H1 fun y H2=>Ot r σ H2 fun ps H3=>Q ((x,y)::ps) H3
abbrev VV:List (V×V)→List (Value×Value)→Prop:=Paired fun p q=>RelV p.1 q.1∧RelV p.2 q.2
def PPs (X:Cx) (pos:Pos) (keys:List (Option Expr)) (values:List Expr) (Xl:List (TE×TE)):Prop :=
 ∀(pins:List (Addr×Obj)) (s:Shared) (σ:St) (H:Hp) (Q:List (V×V)→Hp→Prop),Inv X pins σ H s→Ot Xl σ H Q →
  wpAny (model X.prog X.w) X.A (evalPairs (pairTrees keys values X.env pos)) (fun vs s'=>∃ps H',Inv X pins σ H' s'∧VV ps vs∧Q ps H') X.xe s
theorem Xm {X:Cx} {pos:Pos}:PPs X pos [] [] []:=fun pins s σ H Q I h=>pairTrees_nil_walk ⟨[],H,I,.nil,h⟩
theorem Us {X:Cx} {pos:Pos} {k v:Expr} {ks:List (Option Expr)} {vs:List Expr} {tk tv:TE} {Xl:List (TE×TE)} (hk:PE X k tk) (hv:PE X v tv) (hr:PPs X pos ks vs Xl) :
 PPs X pos (some k::ks) (v::vs) ((tk,tv)::Xl):=fun pins s σ H Q I h =>
 pairTrees_cons_walk (dj (hk pins s σ H _ I h) fun u s1 ⟨x,H1,I1,rx,q1⟩=>dj (hv pins s1 σ H1 _ I1 q1) fun w2 s2 ⟨y,H2,I2,ry,q2⟩ =>
  dj (hr pins s2 σ H2 _ I2 q2) fun ws s3 ⟨ps,H3,I3,rel,q3⟩=>⟨(x,y)::ps,H3,I3,.cons ⟨rx,ry⟩ rel,q3⟩)
def kN (aZ more:List (Key×V)):List (Key×V):=more.foldl (fun acc kv=>putK acc kv.1 kv.2) aZ
theorem KV.merge:∀{more:List (Key×V)} {rs:List (Key×Value)} {aZ:List (Key×V)} {vs:List (Key×Value)},KV more rs→KV aZ vs→KV (kN aZ more) (merged vs rs):=by
 intro more rs aZ vs r
 unfold KV at r
 induction r generalizing aZ vs with
 |nil=>intro q;exact q
 |@cons p q ps qs h t ih =>
  intro r0
  have e:KV (putK aZ p.1 p.2) (stored vs q.1 q.2):=by
   have:=r0.put p.1 h.2
   rw[←h.1];exact this
  exact ih e
theorem pO:∀(more aZ:List (Key×V)),(kN aZ more).length≤aZ.length+more.length
 | [],aZ=>by show aZ.length≤aZ.length+0;omega
 |p::r,aZ=>by
  have h1:=pO r (putK aZ p.1 p.2)
  have h2:=uj aZ p.1 p.2
  show(kN (putK aZ p.1 p.2) r).length≤_
  rw[List.length_cons];omega
theorem Ff {P:Program} {w:World}:∀{aZ:List (Key×V)} {ws:List (Value×Value)},VV (aZ.map fun kv=>(kV kv.1,kv.2)) ws→∃rs,Carries (cj P w) ws rs∧KV aZ rs
 | [],_,r=>by rw[List.map_nil]at r;cases r;exact⟨[],True.intro,.nil⟩
 |p::aZ,_,r=>by
  rw[List.map_cons]at r
  cases r with
  |@cons a b as bs h t =>
   obtain⟨rs,c,q⟩:=Ff (P:=P) (w:=w) t
   obtain⟨b1,b2⟩:=b
   exact⟨(p.1,b2)::rs,⟨zW h.1,rfl,c⟩,.cons ⟨rfl,h.2⟩ q⟩
def adP (Xl:List (TE×TE)):TE:=fun σ H Q=>∀p,H p=none→Ot Xl σ (upd H p (.dK [])) fun ps H2=>H2 p=some (.dK [])∧∃aZ:List (Key×V),ps=aZ.map (fun kv=>(kV kv.1,kv.2))∧aZ.length≤15∧Q (.ref p) (upd H2 p (.dK (kN [] aZ)))
theorem Xn {X:Cx} {pos:Pos} {keys:List (Option Expr)} {values:List Expr} {Xl:List (TE×TE)} (h:PPs X pos keys values Xl) (Ml:keys.all (·.isSome)=true) (hl:keys.length=values.length) (h0:keys≠[])
 (h15:keys.length≤15):PE X (.Dict keys values pos) (adP Xl):=by
 intro pins s σ H Q I q
 have hn:=I.cD.fresh (Nat.le_refl s.heap.objs.size)
 have I1:=I.laid (a:=s.heap.objs.size) (o:=.dK []) (h':=s.heap.push {cls:=.type "dict",data:=.dict #[]}) (t':=s.toks) (fun _ _ q=>Heap.get?_push_of_some _ q) (Nat.le_refl _) (Up s.heap I.big)
 refine wpAny_Dict_walk (knd:=cj X.prog X.w) Ml hl h0 h15 (dj (h pins _ σ _ _ I1 (q _ hn)) fun ws s2 ⟨ps,H2,I2,rel,e,aZ,ep,lk,q2⟩=>?_)
 subst ep
 obtain⟨rs,c,rk⟩:=Ff (P:=X.prog) (w:=X.w) rel
 obtain⟨z,hd,vs0,r0,dd⟩:=Zl I2.cD e
 cases r0
 refine⟨rs,c,dd,fun h' dd' hs=>⟨.ref s.heap.objs.size,_,?_,rfl,q2⟩⟩
 have hz:(kN [] aZ).length≤sizeLine:=by
  have h1:=pO aZ []
  rw[List.length_nil]at h1
  rw[sizeLine_eq];omega
 have he:∃q,h'.get? s.heap.objs.size=some q:=let⟨q,_,_,hq,_⟩:=dd';⟨q,hq⟩
 exact J6 I2 (by rw[e];exact True.intro) hs he (Uo hz hd (rk.merge .nil) dd')
end L2
namespace L2
open PySem PySem.Spec PyProof.Rows
theorem Mm:entryFor table "dict.update.loop" = some Builtin.«dict.update.loop»:=entryFor_of_tree (by kernel_rfl)
theorem uk:plainId "dict.update.loop" = true:=by decide +kernel
end L2
namespace L2
open PySem PySem.Spec PyProof.Rows
theorem Fg:bootBuiltins "reversed" = some (.type "reversed"):=by decide +kernel
section
variable {X:Cx} {pins:List (Addr×Obj)} {σ:St} {H:Hp} {s:Shared} {h':Heap}
theorem Inv.Xo {t':Nat} {ch:List Addr} (I:Inv X pins σ H s) (k:∀b o,b∉ch→s.heap.get? b=some o→h'.get? b=some o) (hf:∀b∈ch,yo X pins H b):Inv X pins σ H {s with heap:=h',toks:=t'}:=by
 have Ze:∀b u,H b=some u→b∉ch:=fun b u e z=>by
  have q:=(hf b z).1
  rw[q]at e;cases e
 refine I.step (g':=s.gens) (d':=s.drawn) (ch:=ch) (fun b hb=>⟨(hf b hb).2.2.2.1,(hf b hb).2.1,(hf b hb).2.2.2.2.1,(hf b hb).2.2.2.2.2⟩) (fun b o _ _ hc e _=>k b o hc e) (fun b o _ _ hc e _=>⟨o.slots,k b o hc e⟩)
  (fun _ _ _ _ n=>n) (fun b o hc e=>⟨o,k b o hc e⟩) (fun _ _ e=>e) (fun _ _ _ e=>e) (fun b ps e=>⟨#[],by rw[e];simp⟩) (fun m hm=>?_) (fun b u e=>?_) I.bare
 ·obtain⟨o,es,ep,ho,r⟩:=hm
  exact⟨o,es,ep,k _ o (fun z=>(hf _ z).2.1 rfl) ho,r⟩
 ·refine(I.cD b u e).L1 (fun c v hc q=>k c v ?_ q) (fun _ q=>q) fun _ _ q=>q
  rcases hc with z|z
  ·rw[z];exact Ze b u e
  ·exact Ze c _ z
theorem Inv.Jh {t':Nat} {ch:List Addr} {T:Addr} {ob:HO} (I:Inv X pins σ H s) (k:∀b o,b∉ch→s.heap.get? b=some o→h'.get? b=some o) (hf:∀b∈ch,yo X pins H b) (hT:s.heap.objs.size≤T)
 (new:eX X.prog X.w (upd H T ob) h' T ob):Inv X pins σ (upd H T ob) {s with heap:=h',toks:=t'}:=by
 have hn:H T=none:=I.cD.fresh hT
 have Ze:∀b u,H b=some u→b∉ch:=fun b u e z=>by
  have q:=(hf b z).1
  rw[q]at e;cases e
 refine I.step (g':=s.gens) (d':=s.drawn) (ch:=ch) (fun b hb=>⟨(hf b hb).2.2.2.1,(hf b hb).2.1,(hf b hb).2.2.2.2.1,(hf b hb).2.2.2.2.2⟩) (fun b o _ _ hc e _=>k b o hc e) (fun b o _ _ hc e _=>⟨o.slots,k b o hc e⟩)
  (fun b o _ e n=>?_) (fun b o hc e=>⟨o,k b o hc e⟩) (fun b xs e=>?_) (fun b o u e=>?_) (fun b ps e=>⟨#[],?_⟩) (fun m hm=>?_) (fun b u e=>?_) I.bare
 ·rw[aj (Nat.ne_of_lt (Nat.lt_of_lt_of_le (Heap.lt_size e) hT))];exact n
 ·rw[aj (ao e hn)];exact e
 ·rw[aj (ao e hn)];exact e
 ·rw[aj (ao e hn),e];simp
 ·obtain⟨o,es,ep,ho,r⟩:=hm
  exact⟨o,es,ep,k _ o (fun z=>(hf _ z).2.1 rfl) ho,r⟩
 ·by_cases hb:b=T
  ·subst hb
   rw[af]at e
   cases e
   exact new
  ·rw[aj hb]at e
   refine(I.cD b u e).L1 (fun c v hc q=>k c v ?_ q) (fun c q=>by rw[aj (ao q hn)];exact q) fun c xs q=>by rw[aj (ao q hn)];exact q
   rcases hc with z|z
   ·rw[z];exact Ze b u e
   ·exact Ze c _ z
end
section
variable {X:Cx}
theorem aaR {tg:Expr} {pins:List (Addr×Obj)} {σ:St} {H:Hp} {s:Shared} {R:It→Hp→Prop} {J:It} {tn:Nat→Heap→Prop} {tk:Nat} (I:Inv X pins σ H s) (o:Obj)
 (T:Turn X.prog X.w X.K tg J [s.heap.objs.size] s.heap.objs.size tn) (st:tn 0 (s.heap.push o)) (q:R J H):PIE X pins σ tg R (.ref s.heap.objs.size) {s with heap:=s.heap.push o,toks:=tk}:=by
 refine⟨s.heap.objs.size,[s.heap.objs.size],tn,J,H,rfl,I.kept fun b ob e=>Heap.get?_push_of_some _ e,T,st,fun b hb=>?_,q⟩
 have e:b=s.heap.objs.size:=by simpa using hb
 subst e
 exact I.L6 (Nat.le_refl _) (I.cD.fresh (Nat.le_refl _))
end
def Itv (K:PySem.W.Frag) (a:Addr) (n:Nat):It :=
 ⟨fun i H=>i<n∧∃(xs:List V) (x:V),bO K H a xs∧xs[n-1-i]?=some x,fun i H x H'=>H'=H∧∀xs,bO K H a xs→xs[n-1-i]?=some x,fun i _=>n≤i⟩
theorem Ut {P:Program} {w:World} {K:PySem.W.Frag} {tg:Expr} (a it:Addr) (n:Nat):Turn P w K tg (Itv K a n) [it] it (fun i h=>i≤n∧h.IsRevIter it a ((n:Int)-1-(i:Nat))) where
 mem:=by simp
 obj:=fun i h st b hb=>by
  have e:b=it:=by simpa using hb
  subst e
  obtain⟨_,o,e,c,d⟩:=st
  exact⟨o,e,fun v z=>by rw[d]at z;cases z⟩
 keep:=fun i h h' st k=>⟨st.1,st.2.at fun o e=>k it (by simp) o e⟩
 item:=by
  intro X hP hw hK hc i pins s σ H E I hf st hg
  subst hP hw hK
  obtain⟨Uu,xs,x,hq,hx⟩:=hg
  obtain⟨bt,rv,p,hz⟩:=I.list hq
  obtain⟨u,hu,ru⟩:=rv.get hx
  obtain⟨f0,f1,f2,f3,f4,f5⟩:=hf it (by simp)
  obtain⟨_,hit⟩:=st
  have e1:(n:Int)-1-((i:Nat):Int)=((n-1-i:Nat):Int):=by omega
  rw[e1]at hit
  refine wpAny_pyNext_rev_item hit p.isList (x:=u) (by simpa using hu) fun h' JY sb=>?_
  have e2:((n-1-i:Nat):Int)-1=(n:Int)-1-((i+1:Nat):Int):=by omega
  rw[e2]at JY
  have I1:Inv X pins σ H {s with heap:=h'}:=I.turned (t':=s.toks) (fun b o hb e=>(sb.2 b hb).trans e) f0 f1 f3 f4 f5
  obtain⟨o,e,c,d⟩:=id JY
  exact⟨u,rfl,QB (s:={s with heap:=h'}) e c d (by decide) ⟨x,H,I1,ru,⟨rfl,fun ys hy=>by rw[I.zL hy hq];exact hx⟩,⟨Uu,JY⟩,fun b hb=>(hf b hb).1⟩⟩
 done:=by
  intro X hP hw hK hc i pins s σ H E I hf st hg
  subst hP hw hK
  obtain⟨f0,f1,f2,f3,f4,f5⟩:=hf it (by simp)
  obtain⟨Uu,hit⟩:=st
  have hge:n≤i:=hg
  have e1:(n:Int)-1-((i:Nat):Int) = -1:=by omega
  rw[e1]at hit
  exact wpAny_pyNext_rev_end (I.ok.hd hc) hit fun h' eb=>⟨rfl,I.turned (t':=s.toks) (fun b o hb e=>eb b o hb e) f0 f1 f3 f4 f5⟩
 self:=fun A i s Q E st h=>wpAny_pyIter_revIter st.2 h
def ahm (K:PySem.W.Frag) (ta:TA):TI:=fun σ H R=>ta σ H fun vs H1=>∃(a:Addr) (xs:List V),vs=[.ref a]∧bO K H1 a xs∧R (Itv K a xs.length) H1
section
variable {X:Cx} {tg:Expr}
theorem CN {e:Expr} {ta:TA} {p pos:Pos} (hg:Gl X "reversed") (hm:X.mg "reversed" = none) (ha:PA X [e] ta) (hs:starEach [e] X.env=[(false,eval e X.env)]:=by rfl):PI X tg (.Call (.Name "reversed" p) [e] [] pos) (ahm X.K ta):=by
 intro pins s σ H R I h
 refine Call_ (rp I hg hm Fg (PyProof.Rows.callWith_type1 (dj (ha pos pins s σ H _ I h) fun us s1 ⟨vs,H1,I1,r1,q1⟩=>?_) hs rfl))
 obtain⟨a,xs,e,hq,q⟩:=q1
 subst e
 cases r1 with
 |cons r rr =>
  cases rr
  cases r
  obtain⟨bt,rv,p',hz⟩:=I1.list hq
  have hl:=rv.length
  have e1:((bt.toArray.size:Nat):Int)-1=(xs.length:Int)-1-((0:Nat):Int):=by simp only[List.size_toArray];omega
  refine call_reversed_list p'.isList (wpAny_pyIter_revIter (l:=a) (i:=((bt.toArray.size:Nat):Int)-1) ⟨_,Heap.get?_push_size _ rfl,rfl,rfl⟩ ?_)
  refine aaR (tk:=s1.toks) I1 _ (Ut a _ xs.length) ⟨Nat.zero_le _,?_⟩ q
  rw[←e1]
  exact⟨_,Heap.get?_push_size _ rfl,rfl,rfl⟩
end
theorem Ji:bootBuiltins "zip" = some (.type "zip"):=by decide +kernel
def Itz (K:PySem.W.Frag) (a b:Addr):It :=
 ⟨fun i H=>∃(xs ys:List V) (x y:V),bO K H a xs∧bO K H b ys∧xs[i]?=some x∧ys[i]?=some y,
  fun i H v H'=>∃T x y,v = .ref T∧H T=none∧H'=upd H T (.tup [x,y])∧(∀xs,bO K H a xs→xs[i]?=some x)∧∀ys,bO K H b ys→ys[i]?=some y,
  fun i H=>∃xs ys:List V,bO K H a xs∧bO K H b ys∧(xs.length≤i∨ys.length≤i)⟩
theorem Uv {P:Program} {w:World} {K:PySem.W.Frag} {elts:List Expr} {kk:Nat} {RO:Pos} {a b z TI TO i1 i2:Addr} (D:ZipApart z TI TO i1 i2 a b) :
 Turn P w K (.Tuple elts kk RO) (Itz K a b) [z,TI,TO,i1,i2] z (fun i h=>IsZip h z TI TO .none∧IsPair h TI (.ref i1) (.ref i2)∧(∃x y,IsPair h TO x y)∧h.IsListIter i1 a i∧h.IsListIter i2 b i) where
 mem:=by simp
 obj:=fun i h st c hc=>by
  obtain⟨hz,yq,⟨x,y,Hd⟩,⟨o1,e1,_,d1⟩,⟨o2,e2,_,d2⟩⟩:=st
  have e':c=z∨c=TI∨c=TO∨c=i1∨c=i2:=by simpa using hc
  rcases e' with q|q|q|q|q
  ·rw[q];exact⟨_,hz,fun v q=>nomatch q⟩
  ·rw[q];exact⟨_,yq,fun v q=>nomatch q⟩
  ·rw[q];exact⟨_,Hd,fun v q=>nomatch q⟩
  ·rw[q];exact⟨o1,e1,fun v q=>by rw[d1]at q;cases q⟩
  ·rw[q];exact⟨o2,e2,fun v q=>by rw[d2]at q;cases q⟩
 keep:=fun i h h' st k=>by
  obtain⟨hz,yq,⟨x,y,Hd⟩,h1,h2⟩:=st
  exact⟨k z (by simp) _ hz,k TI (by simp) _ yq,⟨x,y,k TO (by simp) _ Hd⟩,h1.at fun o q=>k i1 (by simp) o q,h2.at fun o q=>k i2 (by simp) o q⟩
 item:=by
  intro X hP hw hK hc i pins s σ H E I hf st hg
  subst hP hw hK
  obtain⟨hz,yq,⟨x0,y0,Hd⟩,h1,h2⟩:=st
  obtain⟨xs,ys,x,y,Zn,Zo,hx,hy⟩:=hg
  obtain⟨bt,rv,p,_⟩:=I.list Zn
  obtain⟨rB,rv2,p2,_⟩:=I.list Zo
  obtain⟨u,hu,ru⟩:=rv.get hx
  obtain⟨u2,hu2,ru2⟩:=rv2.get hy
  have hzl:z<s.heap.objs.size:=Heap.lt_size hz
  refine wpAny_pyNext_zip_item D hz yq Hd h1 h2 p.isList p2.isList (x:=u) (y:=u2) (by simpa using hu) (by simpa using hu2) fun h' z' TO' h1' h2' hT hsz hk=>?_
  refine⟨_,rfl,wpAny_letOwnedTupleGo_zip (s:={s with heap:=h'}) z' fun h'' z'' sb=>?_⟩
  have hT2:h''.get? s.heap.objs.size=some {cls:=.type "tuple",data:=.seq #[u,u2]}:=(sb.2 _ (Nat.ne_of_gt hzl)).trans hT
  have new:eX X.prog X.w (upd H s.heap.objs.size (.tup [x,y])) h'' s.heap.objs.size (.tup [x,y]) :=
   ⟨by show 2≤sizeLine;decide,[u,u2],.cons ru (.cons ru2 .nil),⟨_,hT2,rfl,_,rfl⟩⟩
  have I1:Inv X pins σ (upd H s.heap.objs.size (.tup [x,y])) {s with heap:=h''} :=
   I.Jh (t':=s.toks) (ch:=[z,TI,TO,i1,i2]) (fun c o hb q=>(sb.2 c (fun q'=>hb (by simp[q']))).trans (hk c o (fun q'=>hb (by simp[q'])) (fun q'=>hb (by simp[q'])) (fun q'=>hb (by simp[q'])) (fun q'=>hb (by simp[q'])) q)) hf (Nat.le_refl _) new
  refine⟨.ref s.heap.objs.size,_,I1,rfl,⟨_,x,y,rfl,I.cD.fresh (Nat.le_refl _),rfl,fun l hl=>by rw[I.zL hl Zn];exact hx,fun l hl=>by rw[I.zL hl Zo];exact hy⟩,⟨z'',?_,⟨u,u2,?_⟩,?_,?_⟩,fun c hcm=>?_⟩
  ·exact(sb.2 _ D.TIz).trans (hk _ _ D.TIz D.TITO D.TIi1 D.TIi2 yq)
  ·exact(sb.2 _ D.TOz).trans TO'
  ·exact h1'.at fun o q=>(sb.2 _ D.i1z).trans q
  ·exact h2'.at fun o q=>(sb.2 _ D.i2z).trans q
  ·have oQ:c<s.heap.objs.size:=by
    have e':c=z∨c=TI∨c=TO∨c=i1∨c=i2:=by simpa using hcm
    rcases e' with q|q|q|q|q
    ·rw[q];exact hzl
    ·rw[q];exact Heap.lt_size yq
    ·rw[q];exact Heap.lt_size Hd
    ·rw[q];obtain⟨_,e1,_⟩:=h1;exact Heap.lt_size e1
    ·rw[q];obtain⟨_,e2,_⟩:=h2;exact Heap.lt_size e2
   rw[aj (Nat.ne_of_lt oQ)]
   exact(hf c hcm).1
 done:=by
  intro X hP hw hK hc i pins s σ H E I hf st hg
  subst hP hw hK
  obtain⟨hz,yq,⟨x0,y0,Hd⟩,h1,h2⟩:=st
  obtain⟨xs,ys,Zn,Zo,RU⟩:=hg
  obtain⟨bt,rv,p,_⟩:=I.list Zn
  obtain⟨rB,rv2,p2,_⟩:=I.list Zo
  have l1:=rv.length
  have l2:=rv2.length
  have he:bt.toArray[i]?=none∨rB.toArray[i]?=none:=by
   rcases RU with q|q
   ·exact .inl (by simp;omega)
   ·exact .inr (by simp;omega)
  exact wpAny_pyNext_zip_end (I.ok.hd hc) D hz yq Hd h1 h2 p.isList p2.isList he fun h' hk=>⟨rfl,I.Xo (t':=s.toks) (ch:=[z,TI,TO,i1,i2]) (fun c o hb q =>
   hk c o (fun q'=>hb (by simp[q'])) (fun q'=>hb (by simp[q'])) (fun q'=>hb (by simp[q'])) (fun q'=>hb (by simp[q'])) q) hf⟩
 self:=fun A i s Q E st h=>wpAny_pyIter_zip st.1 h
def ahn (K:PySem.W.Frag) (ta:TA):TI:=fun σ H R=>ta σ H fun vs H1=>∃a b xs ys,vs=[.ref a,.ref b]∧bO K H1 a xs∧bO K H1 b ys∧R (Itz K a b) H1
theorem aaU {X:Cx} {e e2:Expr} {ta:TA} {p pos RO:Pos} {elts:List Expr} {kk:Nat} (hg:Gl X "zip") (hm:X.mg "zip" = none) (ha:PA X [e,e2] ta)
 (hs:starEach [e,e2] X.env=(false,eval e X.env)::starEach [e2] X.env:=by rfl) (oI:(backTo pos (starEach [e2] X.env)).any (·.1)=false:=by rfl) :
 PI X (.Tuple elts kk RO) (.Call (.Name "zip" p) [e,e2] [] pos) (ahn X.K ta):=by
 intro pins s σ H R I h
 refine Call_ (rp I hg hm Ji (PyProof.Rows.callWith_type1 (dj (ha pos pins s σ H _ I h) fun us s1 ⟨vs,H1,I1,r1,q1⟩=>?_) hs oI))
 obtain⟨a,b,xs,ys,ex,Zn,Zo,q⟩:=q1
 subst ex
 cases r1 with
 |cons r rr =>
  cases rr with
  |cons r' rr =>
   cases rr
   cases r
   cases r'
   obtain⟨bt,rv,p1,_⟩:=I1.list Zn
   obtain⟨rB,rv2,p2,_⟩:=I1.list Zo
   have la:a<s1.heap.objs.size:=p1.lt
   have lb:b<s1.heap.objs.size:=p2.lt
   refine call_zip_2 p1.isList p2.isList fun h' hz yq Hd h1 h2 hsz hk=>wpAny_pyIter_zip hz ?_
   have I2:Inv X pins σ H1 {s1 with heap:=h'}:=I1.kept (t':=s1.toks) hk
   refine⟨s1.heap.objs.size+4,[s1.heap.objs.size+4,s1.heap.objs.size+2,s1.heap.objs.size+3,s1.heap.objs.size,s1.heap.objs.size+1],_,_,H1,rfl,I2,Uv (PySem.W.ktu_apart s1.heap.objs.size a b la lb),⟨hz,yq,⟨_,_,Hd⟩,h1,h2⟩,fun c hcm=>?_,q⟩
   have e':c=s1.heap.objs.size+4∨c=s1.heap.objs.size+2∨c=s1.heap.objs.size+3∨c=s1.heap.objs.size∨c=s1.heap.objs.size+1:=by simpa using hcm
   have hle:s1.heap.objs.size≤c:=by
    rcases e' with z|z|z|z|z
    ·rw[z];exact Nat.le_add_right _ _
    ·rw[z];exact Nat.le_add_right _ _
    ·rw[z];exact Nat.le_add_right _ _
    ·rw[z];exact Nat.le_refl _
    ·rw[z];exact Nat.le_add_right _ _
   exact I1.L6 hle (I1.cD.fresh hle)
end L2
section
namespace Bits
open PySem PyProof.Rows
end Bits
end
section
namespace TL
open PySem PySem.Builtin PySem.Builtin.Str PySem.StrLaws
end TL
end
namespace L2
open PySem PySem.Spec PyProof.Rows
end L2
namespace L2
open PySem PySem.Spec PyProof.Rows
end L2
namespace Att
open PySem PySem.W PySem.Calls PyProof.Rows
theorem DK {P:Params} {h:Heap}:∀(ns:List Int) (vs:List Value),WellAll P h vs (ns.map WData.int)→IntsAre vs ns:=by
 intro ns
 induction ns with
 |nil =>
  intro vs w
  rw[List.map_nil]at w
  cases w
  exact .nil
 |cons n ns ih =>
  intro vs w
  rw[List.map_cons]at w
  cases w with
  |cons a b =>
   cases a
   exact .cons _ _ (ih _ b)
end Att
namespace L2
open PySem PySem.Spec PyProof.Rows
theorem Jj:∀{vs:List Value} {ns:List Int},IntsAre vs ns→Vals (ns.map V.int) vs
 |_,_,.nil=>.nil
 |_,_,.cons n t h=>.cons ⟨t,rfl⟩ (Jj h)
def aaV (H:Hp):Prop:=∀b,H b=none∨∃o xs,H b=some (.TB o (.lst xs))
end L2
namespace L2
open PySem PySem.Spec PyProof.Rows
end L2
namespace L2
open PySem PySem.Spec PyProof.Rows
def inClass (s:Stmt) (j:Nat):Stmt:=match s with
 | .ClassDef _ _ _ body _ _ _ _ _ _ _=>body.getD j (.Pass ⟨0,0,0,0⟩)
 |_=>.Pass ⟨0,0,0,0⟩
def oV (s:Stmt):Arguments:=match s with
 | .FunctionDef _ a _ _ _ _ _ _ _ _=>a
 |_=>{posonlyargs:=[],args:=[],vararg:=none,kwonlyargs:=[],kw_defaults:=[],kwarg:=none,defaults:=[]}
def lq (s:Stmt):List Stmt:=match s with
 | .FunctionDef _ _ b _ _ _ _ _ _ _=>b
 |_=>[]
def aq (s:Stmt):Scope:=match s with
 | .FunctionDef _ _ _ _ _ _ sc _ _ _=>sc
 |_=>{kind:=.function,names:=[],isGenerator:=false,isCoroutine:=false}
structure Fun (K:PySem.W.Frag) (x qual:Str) (st:Stmt) (f:Addr) (fd:FuncData):Prop where
 ex:∃(oc:Value) (od:Option Addr) (kV doc pm:Value) (an:Option Addr) (cF ct:Value) (Jb:Array (Option Value)),
  fd=PySem.W.fnOf x qual (oV st) (lq st) (aq st) .none kV doc pm an cF ct∧K.lookup f=some ⟨oc,od,.func fd,Jb⟩∧PySem.W.codeIn K cF qual=true
 kp:PySem.W.keepIn K (.ref f)=true
section
variable {P:Program} {w:World} {K:PySem.W.Frag} {mg:Str→Option Value} {base:Heap}
theorem Fun.binds {x qual:Str} {st:Stmt} {f:Addr} {fd:FuncData} {ps:List Str} (F:Fun K x qual st f fd)
 (h:∀(kV doc pm:Value) (an:Option Addr) (cF ct:Value) (us:List Value),us.length=ps.length→bindArgs (PySem.W.fnOf x qual (oV st) (lq st) (aq st) .none kV doc pm an cF ct) ⟨us,[]⟩=pure (ps.zip us)):Binds K fd ps []:=by
 obtain⟨oc,od,kV,doc,pm,an,cF,ct,Jb,rfl,lk,Wv⟩:=F.ex
 exact .all (h kV doc pm an cF ct)
theorem Uw {x qual:Str} {st:Stmt} {f:Addr} {oc:Value} {od an:Option Addr} {Jb:Array (Option Value)} {kV doc pm cF ct:Value} (l:K.lookup f=some ⟨oc,od,.func (PySem.W.fnOf x qual (oV st) (lq st) (aq st) .none kV doc pm an cF ct),Jb⟩)
 (c:PySem.W.codeIn K cF qual=true) (k:PySem.W.keepIn K (.ref f)=true):Fun K x qual st f (PySem.W.fnOf x qual (oV st) (lq st) (aq st) .none kV doc pm an cF ct):=⟨⟨oc,od,kV,doc,pm,an,cF,ct,Jb,rfl,l,c⟩,k⟩
end
theorem Fh {A:Around} {k:Nat} (hr:ia k A):A.units+1<cLine:=Nat.lt_of_le_of_lt (Nat.add_le_add_left (by decide:1≤64) _) hr.units
section
variable {X:Cx}
theorem pv (i:Nat) {x:Str} {pos:Pos} (hN:X.N[i]?=some x:=by rfl) (hv:Vis X.env.scope x:=by first|exact Or.inl rfl|exact Or.inr (Or.inl rfl)|exact Or.inr (Or.inr rfl)) (hd:(x==("__debug__" : Str))=false:=by decide)
 (Wv:(x==("__classdict__" : Str))=false:=by decide):PE X (.Name x pos) (zK i):=aaf hN hv hd Wv
theorem RV:oR X (.builtin "len") (fun xs H Q=>∃a aZ,xs=[V.ref a]∧H a=some (.dK aZ)∧Q (.int aZ.length) H):=by
 intro pins s σ H xs us Q I r h
 obtain⟨a,aZ,rfl,ha,q⟩:=h
 obtain⟨u,rfl,ru⟩:=vals1 r
 cases ru
 exact adM I (.inl ha) fun t s' I'=>⟨.int aZ.length,H,I',⟨t,rfl⟩,q⟩
end
theorem eg {A B:Prop} (h:B):if false=true then A else B:=by
 rw[if_neg Bool.false_ne_true]
 exact h
theorem iA {A B:Prop} (h:A):if true=true then A else B:=by
 rw[if_pos rfl]
 exact h
def ax (H H':Hp):Prop:=∀b o,H b=some o→H' b=some o
theorem ax.refl (H:Hp):ax H H:=fun _ _ h=>h
theorem ax.trans {H H1 H2:Hp} (a:ax H H1) (b:ax H1 H2):ax H H2:=fun c o h=>b c o (a c o h)
theorem ax.free {H H':Hp} (e:ax H H') {l:Addr} (h:H' l=Option.none):H l=Option.none:=by
 cases q:H l with
 |none=>rfl
 |some o =>
  rw[e l o q]at h
  cases h
theorem at_of {xs:List V} {z:Int} {j:Nat} {v:V} (e:z=(j:Int)) (h:xs[j]?=some v):Ww xs z=some v:=by
 rw[e]
 exact QK h
theorem ax.made {H H1:Hp} {x dx C:Addr} (nx:H x=Option.none) (nd:H dx=Option.none) (k:∀b o,(upd (upd H dx (.own x)) x (.ins C dx [])) b=some o→b≠x→H1 b=some o):ax H H1:=fun b o e =>
 k b o (by rw[aj (ao e nx),aj (ao e nd)];exact e) (ao e nx)
end L2
namespace L2
open PySem PySem.Spec PyProof.Rows
theorem eX.adS {P:Program} {w:World} {H:Hp} {h:Heap} {a:Addr} {o:HO} (x:eX P w H h a o):∃ob,h.get? a=some ob:=by
 cases o with
 |lst xs=>obtain⟨_,_,_,_,e⟩:=x;exact⟨_,e⟩
 |tup xs=>obtain⟨_,_,_,ob,e,_⟩:=x;exact⟨_,e⟩
 |dK aZ=>obtain⟨_,_,_,_,o,_,_,e,_⟩:=x;exact⟨_,e⟩
 |dT aZ=>obtain⟨_,_,_,_,o,_,_,e,_⟩:=x;exact⟨_,e⟩
 |set S n=>obtain⟨o,_,_,_,e,_⟩:=x;exact⟨_,e⟩
 |ins C dx fs=>obtain⟨_,_,_,e,_⟩:=x;exact⟨_,e⟩
 |own y=>obtain⟨_,e⟩:=x;exact⟨_,e⟩
 |xd fs=>obtain⟨_,⟨_,_,_,e,_⟩,_⟩:=x;exact⟨_,e⟩
 |rng lo hi=>obtain⟨_,_,_,e⟩:=x;exact⟨_,e⟩
 |TB ob u=>obtain⟨e,_⟩:=x;exact⟨_,e⟩
 |Zc ps=>exact⟨_,x⟩
 |met f y=>exact⟨_,x⟩
 |ext φ=>obtain⟨_,⟨_,e⟩,_⟩:=x;exact⟨_,e⟩
theorem t6.Zp {P:Program} {w:World} {H:Hp} {h h':Heap} (x:t6 P w H h) (k:∀b u,(∃o,H b=some o)→h.get? b=some u→h'.get? b=some u):t6 P w H h':=fun a o e =>
 (x a o e).L1 (fun b u hb q=>k b u (by rcases hb with rfl|hb;exact⟨_,e⟩;exact⟨_,hb⟩) q) (fun _ q=>q) (fun _ _ q=>q)
def t7 (P:Program) (w:World):RP:=fun outer H s E e s'=>∃(a C:Addr) (a0:Value) (B:Heap) (H':Hp),e = .ref a∧Heap.FlyingW B outer a (.ref C) a0 s'.heap∧s'.os=s.os∧AllBare s'.gens ∧
 Un (wq outer) [] H H' s.heap s'.heap∧t6 P w H' s'.heap∧(∀b o,s.heap.get? b=some o→b∉wq outer→∃o',B.get? b=some o')∧(∀b o,H' b=some o→∃o',B.get? b=some o')∧E (.ref C) none H'
section
variable {X:Cx} {pins:List (Addr×Obj)} {σ:St} {H:Hp} {s:Shared}
theorem Inv.lie (I:Inv X pins σ H s) (hex:X.ex=[]) {B h'':Heap} (J7:∀b o,s.heap.get? b=some o→b∉wq X.stack→(X.s₀.heap.get? b).isSome=true→∃o',B.get? b=some o') (yr:∀b o,H b=some o→∃o',B.get? b=some o')
 (st:B.StaysIn s.heap) (JY:B.StaysIn h'') (up:s.heap.UpToSlots h''):Un X.fs [] X.H₀ H X.s₀.heap h''∧t6 X.prog X.w H h'':=by
 have inB:∀b o,s.heap.get? b=some o→(∃o',B.get? b=some o')→h''.get? b=some o:=fun b o e ⟨o',q⟩=>by
  have q1:=st b o' q
  rw[e]at q1
  cases q1
  exact JY b o q
 have N7:∀b,b∉X.fs→(X.s₀.heap.get? b).isSome=true→b∉wq X.stack:=fun b n hs hb=>by
  rcases List.mem_cons.mp (I.rm b hb) with rfl|q
  ·cases e:X.s₀.heap.get? X.env.locals with
   |none=>rw[e]at hs;cases hs
   |some o=>exact absurd (Heap.lt_size e) (Nat.not_lt.mpr I.ok.above)
  ·exact n q
 have Zq:∀b o,s.heap.get? b=some o→b∈X.fs→∃sl,h''.get? b=some {o with slots:=sl}:=fun b o e hb=>by
  obtain⟨_,o',e',nf⟩:=I.yn.mem hb
  rw[e]at e'
  cases e'
  exact up b o e nf
 refine⟨⟨fun b o q n hb _=>?_,fun b o q n hb _=>?_,fun b o q n _=>?_,fun b o q _=>?_,I.base.Hh,I.base.EN,I.base.Hi⟩,?_⟩
 ·have hx:b∉X.ex:=by rw[hex];simp
  have e:=I.base.keep b o q n hb hx
  have hs:(X.s₀.heap.get? b).isSome=true:=by rw[q];rfl
  exact inB b o e (J7 b o e (N7 b hb hs) hs)
 ·have hx:b∉X.ex:=by rw[hex];simp
  obtain⟨sl,e⟩:=I.base.slot b o q n hb hx
  obtain⟨sl',e'⟩:=Zq b _ e hb
  exact⟨sl',e'⟩
 ·exact I.base.free b o q n (by rw[hex];simp)
 ·have hx:b∉X.ex:=by rw[hex];simp
  obtain⟨o1,e⟩:=I.base.there b o q hx
  have hs:(X.s₀.heap.get? b).isSome=true:=by rw[q];rfl
  by_cases hb:b∈X.fs
  ·obtain⟨sl,e'⟩:=Zq b o1 e hb
   exact⟨_,e'⟩
  ·exact⟨o1,inB b o1 e (J7 b o1 e (N7 b hb hs) hs)⟩
 ·exact I.cD.Zp fun b u ⟨o,ho⟩ e=>inB b u e (yr b o ho)
end
section
variable {P:Program} {w:World} {K:PySem.W.Frag} {mg:Str→Option Value} {base:Heap} {N:List Str} {qual:Str} {scope:Scope} {f:Addr} {cd:Value} {A:Around} {outer:List Env} {s₀:Shared} {H₀:Hp} {E:XK}
theorem au:Passes (t7 P w) (nF (t7 P w) P w K mg base N qual scope f cd A outer s₀ H₀ E) E:=by
 intro pins σ H s e s' I h
 obtain⟨a,C,a0,B,H',rfl,fl,os,bare,un,cD,J7,yr,hE⟩:=h
 have I':Inv (nF (t7 P w) P w K mg base N qual scope f cd A outer s₀ H₀ E) pins σ H' s':=I.IQ os un cD bare (fun b z=>absurd z (by simp))
 show wpAny (model P w) _ (leaving _ (.ref a)) _ _ s'
 refine wpAny_leaves_onW I.ok.frames rfl fl fun h'' Zr up=>?_
 have noF:∀b o,s₀.heap.get? b=some o→b∉wq outer→b∉wq (nF (t7 P w) P w K mg base N qual scope f cd A outer s₀ H₀ E).stack:=fun b o q n hb=>by
  rcases List.mem_cons.mp (I.rm b hb) with rfl|q'
  ·exact absurd (Heap.lt_size q) (Nat.not_lt.mpr I.ok.above)
  ·exact n q'
 have hc:∀b o,s'.heap.get? b=some o→b∉wq (nF (t7 P w) P w K mg base N qual scope f cd A outer s₀ H₀ E).stack→(s₀.heap.get? b).isSome=true→∃o',B.get? b=some o':=fun b o e n hs=>by
  cases q:s₀.heap.get? b with
  |none =>
   rw[q]at hs
   cases hs
  |some o0 =>
   obtain⟨o1,e1⟩:=I.base.there b o0 q (by show b∉[];simp)
   exact J7 b o1 e1 n
 obtain⟨u,k⟩:=I'.lie rfl (B:=B) (h'':=h'') hc yr fl.1 Zr.1 up
 refine⟨a,C,a0,B,H',rfl,Zr,I'.os,I'.bare,u,k,fun b o q n=>?_,yr,hE⟩
 obtain⟨o1,e1⟩:=I.base.there b o q (by show b∉[];simp)
 exact J7 b o1 e1 (noF b o q n)
theorem tU {CX:RP}:PassesOwn (model P w) (nF CX P w K mg base N qual scope f cd A outer s₀ H₀ E).A (nF CX P w K mg base N qual scope f cd A outer s₀ H₀ E).env (nF CX P w K mg base N qual scope f cd A outer s₀ H₀ E).xe:=PassesOwn.leaving
theorem aaX {pins:List (Addr×Obj)} {σ:St} {H:Hp} {s:Shared} {h':Heap} {e C:Addr} {vs:List Value} (I:Inv (nF (t7 P w) P w K mg base N qual scope f cd A outer s₀ H₀ E) pins σ H s) (hx:Heap.MadeExcOf s.heap h' e (.ref C) vs) (hE:E (.ref C) none H) :
 (nF (t7 P w) P w K mg base N qual scope f cd A outer s₀ H₀ E).xe (.ref e) {s with heap:=h'}:=by
 show wpAny (model P w) _ (leaving _ (.ref e)) _ _ {s with heap:=h'}
 have Uu:∀env∈(nF (t7 P w) P w K mg base N qual scope f cd A outer s₀ H₀ E).stack,∀b,env.frame=some b→b∈wq (nF (t7 P w) P w K mg base N qual scope f cd A outer s₀ H₀ E).stack:=fun env he b hb=>List.mem_filterMap.mpr ⟨env,he,hb⟩
 refine wpAny_leaves_madeW (base:=PySem.W.hideAll s.heap (wq (nF (t7 P w) P w K mg base N qual scope f cd A outer s₀ H₀ E).stack)) (h:=s.heap) I.ok.frames rfl (fun b o q=>PySem.W.of_hideAll _ q) (PySem.W.funFrames_hide I.stack Uu) hx fun h'' t fl _ _ up=>?_
 have J7:∀b o,s.heap.get? b=some o→b∉wq (nF (t7 P w) P w K mg base N qual scope f cd A outer s₀ H₀ E).stack→∃o',(PySem.W.hideAll s.heap (wq (nF (t7 P w) P w K mg base N qual scope f cd A outer s₀ H₀ E).stack)).get? b=some o':=fun b o q n=>⟨o,PySem.W.hideAll_get _ q n⟩
 have yr:∀b o,H b=some o→∃o',(PySem.W.hideAll s.heap (wq (nF (t7 P w) P w K mg base N qual scope f cd A outer s₀ H₀ E).stack)).get? b=some o':=fun b o q=>by
  obtain⟨ob,ho⟩:∃ob,s.heap.get? b=some ob:=(I.cD b o q).adS
  refine J7 b ob ho fun hb=>?_
  rw[I.JU b hb]at q
  cases q
 obtain⟨u,k⟩:=I.lie rfl (h'':=h'') (fun b o e n _=>J7 b o e n) yr (fun b o q=>PySem.W.of_hideAll _ q) fl.1 ((Heap.UpToSlots.of_keeps hx.keeps).trans up)
 refine⟨e,C,.ref t,_,H,rfl,fl,I.os,I.bare,u,k,fun b o q n=>?_,yr,hE⟩
 obtain⟨o1,e1⟩:=I.base.there b o q (by show b∉[];simp)
 refine J7 b o1 e1 fun hb=>?_
 rcases List.mem_cons.mp (I.rm b hb) with rfl|q'
 ·exact absurd (Heap.lt_size q) (Nat.not_lt.mpr I.ok.above)
 ·exact n q'
end
end L2
namespace L2
open PySem PySem.Spec PyProof.Rows
abbrev Zs:List Value:=[.type "Exception",.type "BaseException",.type "object"]
structure RW (K:PySem.W.Frag) (mg:Str→Option Value) (x:Str) (C:Addr):Prop where
 ns:mg x=some (.ref C)
 ex:PySem.W.excIn K C Zs "Exception.__new__" = true
theorem aaY {K:PySem.W.Frag} {h:Heap} {C:Addr} (X:K.In h) (q:PySem.W.excIn K C Zs "Exception.__new__" = true):∃bm N nm q bs hdct sn sub ab col dd k0 k1 k2 k3 k5 mN,
 h.get? C=some (excClassObj nm q C N bs bm hdct sn sub ab col dd k0 k1 k2 k3 k5 "Exception.__new__")∧h.Ns N mN∧mN "__init__" = none∧OwnTail h Zs bm:=by
 unfold PySem.W.excIn at q
 split at q
 ·rename_i dd cd sl ho
  split at q
  ·rename_i C' bm k0 k1 k2 k3 n k5 hm hs
   simp only[Bool.and_eq_true,beq_iff_eq,Bool.not_eq_true']at q
   obtain⟨⟨⟨⟨⟨rfl,rfl⟩,adT⟩,ht⟩,cD⟩,hni⟩:=q
   obtain⟨nm,bs,mro,ns,qn,hd,sn,sub,ab,col,del⟩:=cd
   dsimp only at hm adT cD hni
   subst hm adT
   have Zt:sl=#[k0,k1,k2,k3,some (.builtin "Exception.__new__"),k5]:=by
    obtain⟨l⟩:=sl
    simp only at hs
    rw[hs]
   subst Zt
   exact⟨bm,ns,nm,qn,bs,hd,sn,sub,ab,col,dd,k0,k1,k2,k3,k5,_,X _ _ ho,.of_isNs (PySem.W.isNs_of_in X cD),PySem.W.nsMap_none_of_in X cD hni,PySem.W.tail_of_in X ht⟩
  ·cases q
 ·cases q
def aaZ (C:Addr) (E:XK):TS:=fun _ _ H=>E (.ref C) none H
def Raises (X:Cx) (C:Addr) (E:XK):Prop:=∀(pins:List (Addr×Obj)) (σ:St) (H:Hp) (s:Shared) (h':Heap) (e:Addr),Inv X pins σ H s→Heap.MadeExcOf s.heap h' e (.ref C) []→E (.ref C) none H→X.xe (.ref e) {s with heap:=h'}
theorem nH {X:Cx} {x:Str} {C:Addr} {E:XK} {np Fb pos:Pos} (c:RW X.K X.mg x C) (hc:X.calm=true) (hx:Raises X C E) (hg:Gl X x) (hd:(x==("__debug__" : Str))=false:=by decide) :
 PS X (.Raise (some (.Call (.Name x np) [] [] Fb)) none pos) (aaZ C E):=by
 intro pins s σ H D I h
 obtain⟨tl,N,nm,q,bs,hdct,sn,sub,ab,col,dd,k0,k1,k2,k3,k5,mN,hC,hN,hni,T⟩:=aaY I.EO c.ex
 refine wpAny_Raise_call_subT (C:=C) (nm:=nm) (q:=q) (N:=N) (bs:=bs) (bm:=tl) (hdct:=hdct) (sn:=sn) (sub:=sub) (ab:=ab) (col:=col) (dd:=dd) (k0:=k0) (k1:=k1) (k2:=k2) (k3:=k3) (k5:=k5)
  PySem.F.excBase_Exception (mN:=mN) (T.hasType PySem.F.excBase_Exception.hasBase) (I.ok.hd hc) rfl hni (rn I hg c.ns ⟨rfl,?_⟩ hd)
 exact evalArgs_empty ⟨rfl,Nat.zero_le _,hC,hN,T,fun h' e hm=>hx pins σ H s h' e I hm h⟩
theorem rC {P:Program} {w:World} {K:PySem.W.Frag} {mg:Str→Option Value} {base:Heap} {N:List Str} {qual:Str} {scope:Scope} {f:Addr} {cd:Value} {A:Around} {outer:List Env} {s₀:Shared} {H₀:Hp} {E:XK} {C:Addr} :
 Raises (nF (t7 P w) P w K mg base N qual scope f cd A outer s₀ H₀ E) C E:=fun _ _ _ _ _ _ I hm hE=>aaX I hm hE
structure Zu (X:Cx) (pins:List (Addr×Obj)) (σ:St) (H:Hp) (a C:Addr) (s:Shared):Prop where
 inv:Inv X pins σ H s
 fl:∃B a0,Heap.FlyingW B X.stack a (.ref C) a0 s.heap∧(∀b,(X.s₀.heap.get? b).isSome=true→b∉wq X.stack→∃o',B.get? b=some o')∧(∀b o,H b=some o→∃o',B.get? b=some o')∧(∀p∈X.pn++pins,∃o',B.get? p.1=some o')
section
variable {X:Cx} {pins:List (Addr×Obj)} {σ:St} {H:Hp} {s:Shared} {a C:Addr}
theorem Inv.Ux (I:Inv X pins σ H s) (hex:X.ex=[]) (oJ:X.env.cells=[]) {B h'':Heap} (J7:∀b,(X.s₀.heap.get? b).isSome=true→b∉wq X.stack→∃o',B.get? b=some o') (yr:∀b o,H b=some o→∃o',B.get? b=some o')
 (ahp:∀p∈X.pn++pins,∃o',B.get? p.1=some o') (st:B.StaysIn s.heap) (JY:B.StaysIn h'') (up:s.heap.UpToSlots h''):Inv X pins σ H {s with heap:=h''}:=by
 obtain⟨u,k⟩:=I.lie hex (fun b o _ n hs=>J7 b hs n) yr st JY up
 have noc:∀x c,X.env.cells.lookup x=some c→False:=fun x c e=>by rw[oJ]at e;cases e
 obtain⟨m,hm,hl⟩:=I.loc
 refine⟨I.ok,I.os,I.bare,by rw[hex];exact u,⟨m,up.ns hm,fun i x v h1 h2 h3=>?_⟩,fun x c e=>(noc x c e).elim,I.free,fun x c e=>(noc x c e).elim,fun p hp=>?_,k,I.len⟩
 ·obtain⟨u,r,q⟩:=hl i x v h1 h2 h3
  refine⟨u,r,?_⟩
  rcases q with q|⟨_,c,e,_⟩
  ·exact .inl q
  ·exact(noc x c e).elim
 ·obtain⟨e,q⟩:=I.pin p hp
  obtain⟨o',ho⟩:=ahp p hp
  have e1:=st _ _ ho
  rw[e]at e1
  cases e1
  exact⟨JY _ _ ho,q⟩
theorem Zu.step (F:Zu X pins σ H a C s) (hex:X.ex=[]) (oJ:X.env.cells=[]) {M:Model} {A:Around} {E:Value→Shared→Prop} {Q:Unit→Shared→Prop} (h:∀h'',Zu X pins σ H a C {s with heap:=h''}→Q () {s with heap:=h''}):wpAny M A (setFlight (.ref a) none) Q E s:=by
 obtain⟨I,B,a0,fl,c1,c2,c3⟩:=F
 refine lands_againW fl fun h'' Zr up=>h h'' ⟨I.Ux hex oJ c1 c2 c3 fl.1 Zr.1 up,B,a0,Zr,c1,c2,c3⟩
theorem Zu.adU (F:Zu X pins σ H a C s) (hex:X.ex=[]) (oJ:X.env.cells=[]) (jf:X.stack=X.env::X.outer) (hf:X.env.frame=some X.env.locals) {M:Model} {E E':Value→Shared→Prop} {Q:Unit→Shared→Prop}
 (h:∀h'',Zu X pins σ H a C {s with heap:=h''}→Q () {s with heap:=h''}):wpAny M X.A (noteFrame (.ref a) X.env) (fun _ s2=>wpAny M X.A (setFlight (.ref a) none) Q E s2) E' s:=by
 obtain⟨I,B,a0,fl,c1,c2,c3⟩:=F
 have fl1:Heap.FlyingW B (X.env::X.outer) a (.ref C) a0 s.heap:=by rw[←jf];exact fl
 refine wpAny_looks_onW (by rw[I.ok.frames,jf]) hf fl1 fun h1 hh up1=>?_
 refine wpAny_landsW hh fun h'' Zr up2=>?_
 have up:=up1.trans up2
 exact h h'' ⟨I.Ux hex oJ c1 c2 c3 fl.1 Zr.1 up,B,a0,by rw[jf];exact Zr,c1,c2,c3⟩
abbrev Cx.mark (X:Cx) (a:Addr):Cx:={X with A:=X.A.mark (some (.ref a)),calm:=false,xe:=fun _ _=>False}
theorem Inv.mark (I:Inv X pins σ H s) (a:Addr):Inv (X.mark a) pins σ H s :=
 ⟨⟨I.ok.mod,I.ok.kind,I.ok.glob,I.ok.blt,I.ok.above,I.ok.inj,I.ok.has,I.ok.cab,fun h=>(nomatch h),I.ok.frames,I.ok.stk,I.ok.exf,I.ok.bs,I.ok.Wt,I.ok.RG,I.ok.N6,I.ok.yn,I.ok.Zd⟩,I.os,I.bare,I.base,I.loc,I.cell,I.free,I.oP,I.pin,I.cD,I.len⟩
theorem Inv.unmark {a:Addr} (ok:X.Ok) (I:Inv (X.mark a) pins σ H s):Inv X pins σ H s:=⟨ok,I.os,I.bare,I.base,I.loc,I.cell,I.free,I.oP,I.pin,I.cD,I.len⟩
theorem SP.unmark {a:Addr} {D:Ends} {f:Flow} (ok:X.Ok) (h:SP (X.mark a) pins D f s):SP X pins D f s:=by
 cases f with
 |next=>obtain⟨σ',H',I,q⟩:=h;exact⟨σ',H',I.unmark ok,q⟩
 |brk=>obtain⟨σ',H',I,q⟩:=h;exact⟨σ',H',I.unmark ok,q⟩
 |cont=>obtain⟨σ',H',I,q⟩:=h;exact⟨σ',H',I.unmark ok,q⟩
 |ret u=>obtain⟨v,σ',H',I,r,q⟩:=h;exact⟨v,σ',H',I.unmark ok,r,q⟩
end
def PH (X:Cx) (hs:List ExceptHandler) (t:Addr→TS):Prop:=∀(pins:List (Addr×Obj)) (s:Shared) (σ:St) (H:Hp) (D:Ends) (a C:Addr),Zu X pins σ H a C s→t C D σ H→wpAny (model X.prog X.w) X.A (handleBy (.ref a) X.env hs) (SP X pins D) X.xe s
def aht:Addr→TS:=fun _ _ _ _=>False
def adV (K:PySem.W.Frag) (C1:Addr) (th:TS) (r:Addr→TS):Addr→TS:=fun C D σ H=>∃b,PySem.W.exmOne K (.ref C) (.ref C1)=some b∧if b=true then th D σ H else r C D σ H
theorem aa0 {X:Cx}:PH X [] aht:=fun _ _ _ _ _ _ _ _ h=>h.elim
theorem zX {X:Cx} {x:Str} {C1:Addr} {b₀:Stmt} {Zv:List Stmt} {np pos:Pos} {hs:List ExceptHandler} {th:TS} {r:Addr→TS} (hex:X.ex=[]) (oJ:X.env.cells=[]) (hg:Gl X x) (hm:X.mg x=some (.ref C1)) (hsu:∀a,RH (X.mark a) (b₀::Zv) th) (hr:PH X hs r)
 (hd:(x==("__debug__" : Str))=false:=by decide):PH X (.ExceptHandler (some (.Name x np)) none (b₀::Zv) pos::hs) (adV X.K C1 th r):=by
 intro pins s σ H D a C F h
 obtain⟨b,hb,h⟩:=h
 have I:=F.inv
 have LT:PySem.W.Looks (model X.prog X.w) s.heap (typeOf (.ref a)) (.ref C):=by
  obtain⟨B,a0,fl,_⟩:=F.fl
  obtain⟨ob,hob,hc⟩:=fl.there
  rw[←hc]
  exact(PySem.W.Looks.ld hob).andThen .now
 refine wpAny_handleBy_cons (codeAny_handlers_test (rn (X:=X.mark a) (I.mark a) hg hm ?_ hd)) (by intro q;cases q)
 refine(PySem.W.exm_one I.EO LT hb).here ?_
 cases b with
 |true =>
  rw[if_pos rfl]at h
  refine codeAny_handlers_suite (F.step hex oJ fun h'' F'=>?_)
  exact wpAny_mono (hsu a pins _ σ H D (F'.inv.mark a) h) (fun f s2 q=>q.unmark I.ok) fun _ _ z=>z.elim
 |false =>
  rw[if_neg Bool.false_ne_true]at h
  exact hr pins s σ H D a C F h
def ahv (t:XK→TS) (th:Addr→TS):TS:=fun D σ H=>t (fun v _ H'=>∃C,v = .ref C∧∀σ',th C D σ' H') D σ H
abbrev Cx.CO (X:Cx) (W:Value→Shared→Prop) (pn:List (Addr×Obj)):Cx:={X with xe:=W,pn:=pn}
section
variable {X:Cx} {pins ER:List (Addr×Obj)} {σ:St} {H:Hp} {s:Shared} {W:Value→Shared→Prop}
theorem Inv.CO (I:Inv X pins σ H s) (W:Value→Shared→Prop):Inv (X.CO W (X.pn++pins)) [] σ H s :=
 ⟨⟨I.ok.mod,I.ok.kind,I.ok.glob,I.ok.blt,I.ok.above,I.ok.inj,I.ok.has,I.ok.cab,I.ok.hd,I.ok.frames,I.ok.stk,I.ok.exf,I.ok.bs,I.ok.Wt,I.ok.RG,I.ok.N6,I.ok.yn,I.ok.Zd⟩,I.os,I.bare,I.base,I.loc,I.cell,I.free,I.oP,fun p hp=>I.pin p (by simpa using hp),I.cD,I.len⟩
theorem Inv.yt (ok:X.Ok) (I:Inv (X.CO W (X.pn++pins)) ER σ H s):Inv X pins σ H s:=⟨ok,I.os,I.bare,I.base,I.loc,I.cell,I.free,I.oP,fun p hp=>I.pin p (List.mem_append_left _ hp),I.cD,I.len⟩
theorem SP.yt {D:Ends} {f:Flow} (ok:X.Ok) (h:SP (X.CO W (X.pn++pins)) ER D f s):SP X pins D f s:=by
 cases f with
 |next=>obtain⟨σ',H',I,q⟩:=h;exact⟨σ',H',I.yt ok,q⟩
 |brk=>obtain⟨σ',H',I,q⟩:=h;exact⟨σ',H',I.yt ok,q⟩
 |cont=>obtain⟨σ',H',I,q⟩:=h;exact⟨σ',H',I.yt ok,q⟩
 |ret u=>obtain⟨v,σ',H',I,r,q⟩:=h;exact⟨v,σ',H',I.yt ok,r,q⟩
end
theorem aa1 {X:Cx} {P:Program} {w:World} {body:List Stmt} {h₀:ExceptHandler} {hs:List ExceptHandler} {pos:Pos} {t:XK→TS} {th:Addr→TS} (hP:X.prog=P) (hw:X.w=w) (hex:X.ex=[]) (oJ:X.env.cells=[]) (jf:X.stack=X.env::X.outer) (hf:X.env.frame=some X.env.locals)
 (hb:∀(W:Value→Shared→Prop) (pn:List (Addr×Obj)) (E:XK),Passes (t7 P w) (X.CO W pn) E→RH (X.CO W pn) body (t E)) (hh:PH X (h₀::hs) th):PS X (.Try body (h₀::hs) [] [] pos) (ahv t th):=by
 subst hP hw
 intro pins s σ H D I h
 refine wpAny_Try_except ?_
 have pass:Passes (t7 X.prog X.w) (X.CO (fun e s₁=>∃σ' H' a C,e = .ref a∧Zu X pins σ' H' a C s₁∧th C D σ' H') (X.pn++pins)) (fun v _ H'=>∃C,v = .ref C∧∀σ',th C D σ' H'):=by
  intro ER σ' H1 s1 e s2 I1 hc
  obtain⟨a,C,a0,B,H2,rfl,fl,os,bare,un,cD,J7,yr,C',eC,hE⟩:=hc
  cases eC
  have I2:=I1.IQ (H':=H2) (s':=s2) (ch:=[]) os un cD bare (fun b z=>absurd z (by simp))
  refine⟨σ',H2,a,C,rfl,⟨I2.yt I.ok,B,a0,fl,fun b hs n=>?_,yr,fun p hp=>?_⟩,hE σ'⟩
  ·cases q:X.s₀.heap.get? b with
   |none=>rw[q]at hs;cases hs
   |some o0 =>
    obtain⟨o1,e1⟩:=I1.base.there b o0 q (by show b∉X.ex;rw[hex];simp)
    exact J7 b o1 e1 n
  ·obtain⟨e1,_,n1,n2,_⟩:=I1.pin p (List.mem_append_left _ hp)
   refine J7 p.1 p.2 e1 fun hb=>?_
   rcases List.mem_cons.mp (I.rm p.1 hb) with z|z
   ·exact n1 z
   ·exact n2 z
 refine wpAny_mono (hb _ _ _ pass [] s σ H D (I.CO _) h) (fun f s1 q=>?_) fun e s1 q=>?_
 ·have q':=SP.yt I.ok q
  cases f with
  |next =>
   obtain⟨σ',H',I',q⟩:=q'
   exact wpAny_execs_nil ⟨σ',H',I',q⟩
  |brk=>exact q'
  |cont=>exact q'
  |ret u=>exact q'
 ·obtain⟨σ',H',a,C,rfl,F,q⟩:=q
  refine F.adU hex oJ jf hf fun h'' F'=>?_
  exact hh pins _ σ' H' D a C F' q
end L2
namespace L2
open PySem PySem.Spec PyProof.Rows
def FA (K:PySem.W.Frag) (x qual:Str) (st:Stmt) (ps:List Str) (f:Addr):Prop:=∃fd,Fun K x qual st f fd∧Binds K fd ps []
def GI (mg:Str→Option Value) (x:Str) (v:Int):Prop:=∃t,mg x=some (.int v t)
structure Gm where
 P:Program
 w:World
 K:PySem.W.Frag
 mg:Str→Option Value
 base:Heap
abbrev Cx.gm (X:Cx):Gm:=⟨X.prog,X.w,X.K,X.mg,X.base⟩
def Pr (g:Gm) (k:Nat) (f:Addr) (ps:List Str) (sp:Sp):Prop:=∃fd,tT g.P g.w g.K g.mg g.base (t7 g.P g.w) k f fd ps sp∧Binds g.K fd ps []∧PySem.W.keepIn g.K (.ref f)=true∧∃oc od Jb,g.K.lookup f=some ⟨oc,od,.func fd,Jb⟩
abbrev Uy (g:Gm) (N:List Str) (qual:Str) (st:Stmt) (f:Addr) (cF:Value) (A:Around) (outer:List Env) (s:Shared) (H:Hp) (E:XK):Cx:=nF (t7 g.P g.w) g.P g.w g.K g.mg g.base N qual (aq st) f cF A outer s H E
theorem Pr.of {g:Gm} {x qual:Str} {st:Stmt} {f:Addr} {N ps:List Str} {k:Nat} {sp:Sp} (F:FA g.K x qual st ps f) (S:ay N ps (aq st)) (len:∀vs H Q E,sp vs H Q E→vs.length=ps.length)
 (Mb:∀(cF:Value) (A:Around) (outer:List Env) (s:Shared) (H:Hp) (vs:List V) (Q:VK) (E:XK),ia k (A.deeper (envOfC qual (aq st) s.heap.objs.size f cF))→sp vs H Q E →
  ∃t,RH (Uy g N qual st f cF A outer s H E) (lq st) t∧t {nx:=fun _ H'=>Q .de H',rt:=Q} (start N vs) H):Pr g (k+1) f ps sp:=by
 obtain⟨fd,F,hb⟩:=F
 have kp:=F.kp
 obtain⟨oc,od,kV,doc,pm,an,cF,ct,Jb,rfl,lk,Wv⟩:=F.ex
 refine⟨_,?_,hb,kp,oc,od,Jb,lk⟩
 exact ady lk Wv S len fun A outer s H vs Q E hr QH=>Mb cF A outer s H vs Q E hr QH
theorem Pr.on {g:Gm} {x qual:Str} {st:Stmt} {f:Addr} {N ps:List Str} {k:Nat} {sp:Sp} (F:FA g.K x qual st ps f) (S:ay N ps (aq st))
 (Mb:∀(cF:Value) (A:Around) (outer:List Env) (s:Shared) (H:Hp) (vs:List V) (Q:VK) (E:XK),ia k (A.deeper (envOfC qual (aq st) s.heap.objs.size f cF))→sp vs H Q E →
  ∃t,RH (Uy g N qual st f cF A outer s H E) (lq st) t∧t {nx:=fun _ H'=>Q .de H',rt:=Q} (start N vs) H) (len:∀vs H Q E,sp vs H Q E→vs.length=ps.length:=by intro _ _ _ _ h;(repeat obtain⟨_,h⟩:=h)<;>(subst_vars;rfl)):Pr g (k+1) f ps sp:=Pr.of F S len Mb
theorem Pr.mono {g:Gm} {j k:Nat} {f:Addr} {ps:List Str} {sp:Sp} (G:Pr g j f ps sp) (h:j≤k):Pr g k f ps sp:=by
 obtain⟨fd,F,b,kp,lk⟩:=G
 exact⟨fd,F.mono h,b,kp,lk⟩
theorem Pr.imp {g:Gm} {k:Nat} {f:Addr} {ps:List Str} {sp Zj:Sp} (G:Pr g k f ps sp) (h:∀vs H Q E,Zj vs H Q E→sp vs H Q E):Pr g k f ps Zj:=by
 obtain⟨fd,F,b,kp,lk⟩:=G
 exact⟨fd,F.imp h,b,kp,lk⟩
theorem Pr.ex {ι:Type} {g:Gm} {k:Nat} {f:Addr} {ps:List Str} {sp:ι→Sp} (i0:ι) (h:∀i,Pr g k f ps (sp i)):Pr g k f ps (fun vs H Q E=>∃i,sp i vs H Q E):=by
 obtain⟨fd,F0,b,kp,oc,od,Jb,lk⟩:=h i0
 have all:∀i,tT g.P g.w g.K g.mg g.base (t7 g.P g.w) k f fd ps (sp i):=fun i=>by
  obtain⟨fd',F',_,_,oc',od',ahw,lk'⟩:=h i
  rw[lk]at lk'
  cases lk'
  exact F'
 exact⟨fd,⟨fun vs H Q E ⟨i,q⟩=>(all i).len vs H Q E q,fun A outer s H args us vs Q E hr he hb hv ⟨i,q⟩=>(all i).run A outer s H args us vs Q E hr he hb hv q⟩,b,kp,oc,od,Jb,lk⟩
section
variable {X:Cx} {k j:Nat} {f C:Addr} {ps:List Str} {sp:Sp} {E:XK} {x m:Str} {p pos apos:Pos} {e o:Expr} {es:List Expr} {ta:TE} {t:TA}
theorem aU (G:Pr X.gm k f ps sp) (hx:Passes (t7 X.prog X.w) X E) (hr:ia j X.A) (hk:k≤j) (hm:X.mg x=some (.ref f)) (ha:PA X (e::es) t) (hg:Gl X x:=by rfl)
 (J2:(x==("__debug__" : Str))=false:=by decide) (he:starEach (e::es) X.env=(false,eval e X.env)::starEach es X.env:=by rfl) (oI:(backTo pos (starEach es X.env)).any (·.1)=false:=by rfl) :
 PE X (.Call (.Name x p) (e::es) [] pos) (E5 sp [] E t):=by
 obtain⟨fd,F,b,kp,_⟩:=G
 exact WY F (hr.mono hk) hg hm kp b .nil hx ha J2 he oI
theorem kO (G:Pr X.gm k f ps sp) (M:Mk X.K C f) (hx:Passes (t7 X.prog X.w) X E) (hr:ia j X.A) (hk:k+1≤j) (hm:X.mg x=some (.ref C)) (ha:PA X (e::es) t) (hg:Gl X x:=by rfl)
 (J2:(x==("__debug__" : Str))=false:=by decide) (he:starEach (e::es) X.env=(false,eval e X.env)::starEach es X.env:=by rfl) (oI:(backTo pos (starEach es X.env)).any (·.1)=false:=by rfl) :
 PE X (.Call (.Name x p) (e::es) [] pos) (QG C sp [] E t):=by
 obtain⟨fd,F,b,kp,_⟩:=G
 exact W3 M F (hr.mono hk) hg hm b .nil hx ha J2 he oI
theorem QP (G:Pr X.gm k f ps sp) (M:Mk X.K C f) (hx:Passes (t7 X.prog X.w) X E) (hr:ia j X.A) (hk:k+1≤j) (hm:X.mg x=some (.ref C)) (hg:Gl X x:=by rfl) (J2:(x==("__debug__" : Str))=false:=by decide) :
 PE X (.Call (.Name x p) [] [] pos) (QG C sp [] E Hj):=by
 obtain⟨fd,F,b,kp,_⟩:=G
 exact T6 M F (hr.mono hk) hg hm b .nil hx J2
theorem cK {pl:Sem Bool} (he:PE X o ta) (G:Pr X.gm k f ps sp) (c:CI X.K C) (hm:Meth X.K C m f) (hx:Passes (t7 X.prog X.w) X E) (hr:ia j X.A) (hk:k≤j) (ha:PA X (e::es) t)
 (jf:starEach (e::es) X.env=(false,eval e X.env)::starEach es X.env:=by rfl) (oI:(backTo pos (starEach es X.env)).any (·.1)=false:=by rfl)
 (ht:eval (.Call (.Attribute o m apos) (e::es) [] pos) X.env=(do
  let ov ←eval o X.env
  standAt apos.atName
  let(f,first) ←holding [ov] (getMethod ov m pl)
  callWith pos f first (backTo pos (starEach (e::es) X.env)) (backToKw pos (keywordEach [] X.env))):=by rfl) :
 PE X (.Call (.Attribute o m apos) (e::es) [] pos) (QF C m sp [] E ta t):=by
 obtain⟨fd,F,b,kp,_⟩:=G
 exact WZ he c hm F (hr.mono hk) b .nil hx ha jf oI ht
theorem a6 {pl:Sem Bool} (he:PE X o ta) (G:Pr X.gm k f ps sp) (c:CI X.K C) (hm:Meth X.K C m f) (hx:Passes (t7 X.prog X.w) X E) (hr:ia j X.A) (hk:k≤j)
 (ht:eval (.Call (.Attribute o m apos) [] [] pos) X.env=(do
  let ov ←eval o X.env
  standAt apos.atName
  let(f,first) ←holding [ov] (getMethod ov m pl)
  callWith pos f first (backTo pos (starEach [] X.env)) (backToKw pos (keywordEach [] X.env))):=by rfl) :
 PE X (.Call (.Attribute o m apos) [] [] pos) (QF C m sp [] E ta Hj):=by
 obtain⟨fd,F,b,kp,_⟩:=G
 exact T5 he c hm F (hr.mono hk) b .nil hx ht
theorem pk {v:Int} (h:GI X.mg x v) (hg:Gl X x:=by rfl) (hd:(x==("__debug__" : Str))=false:=by decide):PE X (.Name x pos) (tC (.int v)):=by
 obtain⟨t,e⟩:=h
 exact Qz hg e ⟨t,rfl⟩ hd
theorem pkr {a:Addr} (h:X.mg x=some (.ref a)) (hg:Gl X x:=by rfl) (hd:(x==("__debug__" : Str))=false:=by decide):PE X (.Name x pos) (tC (.ref a)):=Qz hg h rfl hd
end
structure Zw (K:PySem.W.Frag) (C f:Addr) (m:Str):Prop where
 ga:PySem.W.specialIn K (.ref C) "__getattribute__" = some (some (.builtin "type.__getattribute__"))
 rd:PySem.W.readsIn K C (.type "type")=true
 fc:PySem.W.findCls K (.ref C) (.type "type") m=some (.val (.ref f))
theorem Zx {X:Cx} {k j:Nat} {f C:Addr} {ps:List Str} {sp:Sp} {E:XK} {x m:Str} {p pos apos:Pos} {e:Expr} {es:List Expr} {t:TA} {pl:Sem Bool} (c:Zw X.K C f m) (G:Pr X.gm k f ps sp) (hx:Passes (t7 X.prog X.w) X E) (hr:ia j X.A) (hk:k≤j) (hm:X.mg x=some (.ref C)) (ha:PA X (e::es) t) (hg:Gl X x:=by rfl)
 (J2:(x==("__debug__" : Str))=false:=by decide) (jf:starEach (e::es) X.env=(false,eval e X.env)::starEach es X.env:=by rfl) (oI:(backTo pos (starEach es X.env)).any (·.1)=false:=by rfl)
 (ht:eval (.Call (.Attribute (.Name x p) m apos) (e::es) [] pos) X.env=(do
  let ov ←eval (.Name x p) X.env
  standAt apos.atName
  let(f,first) ←holding [ov] (getMethod ov m pl)
  callWith pos f first (backTo pos (starEach (e::es) X.env)) (backToKw pos (keywordEach [] X.env))):=by rfl) :
 PE X (.Call (.Attribute (.Name x p) m apos) (e::es) [] pos) (E5 sp [] E t):=by
 obtain⟨fd,F,b,kp,_⟩:=G
 intro pins s σ H Q I h
 refine PySem.W.methodCall_KW (pl:=pl) (rn I hg hm ?_ J2) ht
 refine PySem.W.method_cls I.EO c.ga (PySem.W.cls_value I.EO c.rd c.fc rfl ?_)
 refine PySem.W.callWith_K (first:=[]) (h₀:=X.base) I.ok.mod.RF kp (dj (ha pos pins _ σ H _ (I.tok _) h) fun us s2 ⟨vs,H2,I2,r,q2⟩=>⟨I2.EO,?_⟩) jf oI
 exact E7 F (hr.mono hk) b .nil hx I2 r q2
def Kp (S:Addr→Prop) (H H':Hp):Prop:=∀b o,H b=some o→¬S b→H' b=some o
theorem Kp.refl {S:Addr→Prop} {H:Hp}:Kp S H H:=fun _ _ e _=>e
theorem Kp.same {S:Addr→Prop} {H H':Hp} (s:ax H H'):Kp S H H':=fun b o e _=>s b o e
theorem Kp.step {S S2:Addr→Prop} {H H1 H2:Hp} (a:Kp S H H1) (b:Kp S2 H1 H2) (h:∀c,S2 c→S c∨H c=none):Kp S H H2:=fun c o e n=>b c o (a c o e n) fun z=>(h c z).elim n fun q=>by rw[q]at e;cases e
theorem Kp.upd {S:Addr→Prop} {H:Hp} {a:Addr} {o:HO} (h:S a∨H a=none):Kp S H (upd H a o):=fun b u e n=>by
 by_cases hb:b=a
 ·subst hb
  exact h.elim (fun z=>absurd z n) fun z=>by rw[z]at e;cases e
 ·rw[aj hb]
  exact e
theorem ax.upd {H:Hp} {a:Addr} {o:HO} (h:H a=none):ax H (upd H a o):=fun b u e=>by
 have hb:b≠a:=ao e h
 rw[aj hb]
 exact e
abbrev At (c:Addr):Addr→Prop:=fun b=>b=c
theorem Kp.lst {H H':Hp} {a c C dx:Addr} {xs:List V} {fs:List (Str×V)} (k:Kp (At c) H H') (h:H a=some (.lst xs)) (hc:H c=some (.ins C dx fs)):H' a=some (.lst xs):=k a _ h (cQ h hc (by intro z;cases z))
theorem QQ {f:Str} {v:V} {r:List (Str×V)}:List.lookup f ((f,v)::r)=some v:=by
 rw[List.lookup_cons]
 simp
theorem cY {f g:Str} {v:V} {r:List (Str×V)} (h:¬f=g):List.lookup f ((g,v)::r)=List.lookup f r:=by
 rw[List.lookup_cons]
 have e:(f==g)=false:=by simpa using h
 rw[e]
theorem QR {f:Str} {v:V}:aF f v []=[(f,v)]:=rfl
theorem ahx {f:Str} {v u:V} {r:List (Str×V)}:aF f v ((f,u)::r)=(f,v)::r:=by
 show(if f=f then _ else _)=_
 rw[if_pos rfl]
theorem aa2 {f g:Str} {v u:V} {r:List (Str×V)} (h:¬g=f):aF f v ((g,u)::r)=(g,u)::aF f v r:=by
 show(if g=f then _ else _)=_
 rw[if_neg h]
def zY (C:Addr):Sp:=fun vs H Q E=>∃b,vs=[.bl b]∧if b=true then Q .de H else E (.ref C) none H
theorem az {X:Cx} {k j:Nat} {f C:Addr} {ps:List Str} {E:XK} {x:Str} {p pos pos':Pos} {c:Expr} {tc:TE} (G:Pr X.gm k f ps (zY C)) (hx:Passes (t7 X.prog X.w) X E) (hr:ia j X.A) (hk:k≤j) (hm:X.mg x=some (.ref f)) (hc:PE X c tc) (hg:Gl X x:=by rfl)
 (J2:(x==("__debug__" : Str))=false:=by decide) (he:starEach [c] X.env=(false,eval c X.env)::starEach [] X.env:=by rfl) (oI:(backTo pos (starEach [] X.env)).any (·.1)=false:=by rfl) (hs:swapsWith (.Call (.Name x p) [c] [] pos) none pos'.line X.env=pure false:=by rfl) :
 PS X (.Expr (.Call (.Name x p) [c] [] pos) pos') (TK (E5 (zY C) [] E (CJ tc Hj))):=aR (aU G hx hr hk hm (aa hc ai he) hg J2 he oI) hs
theorem aw {A B:Prop} {c:Prop} [Decidable c] (h1:c→A) (h2:¬c→B):if decide c=true then A else B:=by
 by_cases h:c
 ·rw[if_pos (decide_eq_true h)]
  exact h1 h
 ·rw[if_neg (by simpa using h)]
  exact h2 h
theorem QS {K:PySem.W.Frag} {a:Addr} {xs:List V} {g:TG} {tb:TS} {D:Ends} {σ:St} {H:Hp} (Pv:Nat→St→Hp→Prop) (h0:Pv xs.length σ H) (hl:∀i σ H,i≤xs.length→Pv i σ H→bO K H a xs)
 (hs:∀i x σ H,xs[i]?=some x→Pv (i+1) σ H→g x σ H fun σ2 H2=>tb {D with nx:=Pv i,ct:=Pv i,bk:=D.nx} σ2 H2) (hd:∀σ H,Pv 0 σ H→D.nx σ H) :
 ∃W:Nat→Nat→St→Hp→Prop,(∃m,W 0 m σ H)∧∀i m σ H,W i m σ H →
  ((Itv K a xs.length).stop i H∧D.nx σ H)∨((Itv K a xs.length).go i H∧∃N:St→Hp→Prop,(∀σ' H',N σ' H'→∃m',m'<m∧W (i+1) m' σ' H')∧∀x H',(Itv K a xs.length).WQ i H x H'→g x σ H' fun σ2 H2=>tb {D with nx:=N,ct:=N,bk:=D.nx} σ2 H2):=by
 refine⟨fun i m σ H=>m=xs.length-i∧i≤xs.length∧Pv (xs.length-i) σ H,⟨xs.length,by simp,Nat.zero_le _,h0⟩,?_⟩
 rintro i m σ H ⟨rfl,hi,p⟩
 by_cases oQ:i<xs.length
 ·have e1:xs.length-i=(xs.length-1-i)+1:=by omega
  have hj:xs.length-1-i<xs.length:=by omega
  have q:=hl _ σ H (Nat.sub_le _ _) p
  refine .inr ⟨⟨oQ,xs,xs[xs.length-1-i],q,by simp[hj]⟩,Pv (xs.length-1-i),fun σ' H' p'=>⟨xs.length-(i+1),by omega,rfl,oQ,by rw[show xs.length-(i+1)=xs.length-1-i by omega];exact p'⟩,fun x H' y=>?_⟩
  obtain⟨e,y⟩:=y
  subst e
  exact hs _ x σ _ (y xs q) (by rw[←e1];exact p)
 ·have e:i=xs.length:=by omega
  subst e
  exact .inl ⟨Nat.le_refl _,hd σ H (by rw[Nat.sub_self]at p;exact p)⟩
end L2
namespace L2
open PySem PySem.Spec PyProof.Rows
section
variable {X:Cx} {ι:Type} {k j:Nat} {fa:ι→Addr} {ps:ι→List Str} {sp:ι→Sp} {E:XK} {fe e:Expr} {es:List Expr} {tf:TE} {t:TA} {pos:Pos}
def aa3 (fa:ι→Addr) (sp:ι→Sp) (E:XK) (tf:TE) (t:TA):TE:=fun σ H Q=>tf σ H fun v H1=>∃i,v = .ref (fa i)∧t σ H1 fun vs H2=>sp i vs H2 Q E
theorem Xp (hf:PE X fe tf) (G:∀i,Pr X.gm k (fa i) (ps i) (sp i)) (hx:Passes (t7 X.prog X.w) X E) (hr:ia j X.A) (hk:k≤j) (ha:PA X (e::es) t)
 (hev:eval (.Call fe (e::es) [] pos) X.env=(do callWith pos (←eval fe X.env) [] (backTo pos (starEach (e::es) X.env)) (backToKw pos (keywordEach [] X.env))):=by rfl)
 (he:starEach (e::es) X.env=(false,eval e X.env)::starEach es X.env:=by rfl) (oI:(backTo pos (starEach es X.env)).any (·.1)=false:=by rfl) :
 PE X (.Call fe (e::es) [] pos) (aa3 fa sp E tf t):=by
 intro pins s σ H Q I h
 refine Call_ (dj (hf pins s σ H _ I h) fun u s1 ⟨v,H1,I1,r1,i,ev,q1⟩=>?_) hev
 subst ev
 cases r1
 obtain⟨fd,F,b,kp,_⟩:=G i
 refine PySem.W.callWith_K (first:=[]) (h₀:=X.base) I1.ok.mod.RF kp (dj (ha pos pins s1 σ H1 _ I1 q1) fun us s2 ⟨vs,H2,I2,r,q⟩=>⟨I2.EO,?_⟩) he oI
 exact E7 F (hr.mono hk) b .nil hx I2 r (by rw[List.append_nil];exact q)
end
structure Uz (K:PySem.W.Frag) (a:Addr) (ps:List (Int×Int)):Prop where
 ob:∃(es:Array DictEntry) (ep:Nat),K.lookup a=some ⟨.type "dict",none,.dict es ep,#[]⟩∧Paired (fun(p:Int×Int) (e:DictEntry)=>(∃t,e.key = .int p.1 t)∧e.hash=hashInt p.1∧∃t,e.val = .int p.2 t) ps es.toList
 sys:(a==sysModules)=false
 nd:(ps.map fun p=>p.1).Nodup
def Xq (ps:List (Int×Int)):List (Key×V):=ps.map fun p=>((Sum.inl p.1:Key),V.int p.2)
theorem Fi {P:Program} {w:World}:∀{ps:List (Int×Int)} {es:List DictEntry},Paired (fun(p:Int×Int) (e:DictEntry)=>(∃t,e.key = .int p.1 t)∧e.hash=hashInt p.1∧∃t,e.val = .int p.2 t) ps es →
 ∃vs,KV (Xq ps) vs∧Pairs (cj P w) es vs∧(∀e∈es,∃k,(cj P w).is k e.key=true∧e.hash=(cj P w).hash k)∧vs.map (·.1)=ps.map fun p=>(Sum.inl p.1:Key)
 |_,_,.nil=>⟨[],.nil,.nil,(fun _ h=>nomatch h),rfl⟩
 |_,_,.cons (a:=p) (b:=e) h t=>by
  obtain⟨vs,h1,h2,h3,h4⟩:=Fi (P:=P) (w:=w) t
  obtain⟨⟨t1,e1⟩,e2,t2,e3⟩:=h
  have hk:(cj P w).is (Sum.inl p.1) e.key=true:=by rw[e1];exact CG P w _ _
  refine⟨((Sum.inl p.1:Key),e.val)::vs,.cons ⟨rfl,⟨t2,e3⟩⟩ h1,.cons hk rfl h2,fun x hx=>?_,by rw[List.map_cons,h4];rfl⟩
  rcases List.mem_cons.mp hx with rfl|hx
  ·exact⟨Sum.inl p.1,hk,e2⟩
  ·exact h3 x hx
theorem Uz.dict {K:PySem.W.Frag} {a:Addr} {ps:List (Int×Int)} (k:Uz K a ps) {P:Program} {w:World} {h:Heap} (hK:K.In h):∃vs,KV (Xq ps) vs∧h.DictOf (cj P w) a vs:=by
 obtain⟨es,ep,lk,pr⟩:=k.ob
 obtain⟨vs,h1,h2,h3,h4⟩:=Fi (P:=P) (w:=w) pr
 refine⟨vs,h1,_,es,ep,hK a _ lk,⟨rfl,rfl,rfl⟩,rfl,(fun e he=>h3 e (by simpa using he)),h2,?_⟩
 rw[h4]
 have e:(ps.map fun p=>(Sum.inl p.1:Key))=(ps.map fun p=>p.1).map Sum.inl:=by rw[List.map_map];rfl
 rw[e]
 exact List.Pairwise.map _ (fun a b n z=>n (by injection z)) k.nd
section
variable {X:Cx} {a:Addr} {Xr:List (Int×Int)} {o i:Expr} {ty:TE} {pos:Pos}
def ahy (Xr:List (Int×Int)) (ty:TE):TE:=fun σ H Q=>ty σ H fun y H1=>∃k:Int,y = .int k∧Q (.bl (jo (Xq Xr) (Sum.inl k)).isSome) H1
theorem Xs (hk:Uz X.K a Xr) (hi:PE X i ty) (ho:PE X o (tC (.ref a))):PC X .In i o (ahy Xr ty):=by
 intro pins s σ H Q I h
 refine dj (hi pins s σ H _ I h) fun iv s1 ⟨y,H1,I1,ry,k,ey,q1⟩=>dj (ho pins s1 σ H1 (fun x H2=>x = .ref a∧H2=H1) I1 ⟨rfl,rfl⟩) fun u s2 ⟨x,H2,I2,rx,ex,eH⟩=>?_
 subst ex ey eH
 obtain rfl:u=Value.ref a:=rx
 obtain⟨vs,rel,dd⟩:=hk.dict (P:=X.prog) (w:=X.w) I2.EO
 refine wpAny_in_of (zW (k:=Sum.inl k) ry) hk.sys dd.mapOf ?_
 rw[←(rel.val (Sum.inl k)).nt]
 exact⟨.bl (jo (Xq Xr) (Sum.inl k)).isSome,H2,I2.tok _,rfl,q1⟩
def adX (Xr:List (Int×Int)) (ty:TE):TE:=fun σ H Q=>ty σ H fun y H1=>∃(k:Int) (v:V),y = .int k∧jo (Xq Xr) (Sum.inl k)=some v∧Q v H1
theorem UA (hk:Uz X.K a Xr) (ho:PE X o (tC (.ref a))) (hi:PE X i ty) (hs:aaO i):PE X (.Subscript o i pos) (adX Xr ty):=by
 intro pins s σ H Q I h
 refine QN PySem.F.slot_dict_getitem.lookup hs (dj (ho pins s σ H (fun x H2=>x = .ref a∧H2=H) I ⟨rfl,rfl⟩) fun u s1 ⟨x,H1,I1,rx,ex,eH⟩=>?_)
 subst ex eH
 obtain rfl:u=Value.ref a:=rx
 refine dj (hi pins s1 σ H1 _ I1 h) fun iv s2 ⟨y,H2,I2,ry,k,v,ey,l,q2⟩=>?_
 subst ey
 obtain⟨vs,rel,dd⟩:=hk.dict (P:=X.prog) (w:=X.w) I2.EO
 obtain⟨w',hw,T9⟩:=t9.some_of (v:=v) (o:=valueAt vs (Sum.inl k)) (by rw[←l];exact rel.val (Sum.inl k))
 exact⟨dd.typeIs,wpAny_getItem_of (zW (k:=Sum.inl k) ry) dd.mapOf hw ⟨v,H2,I2.tok _,T9,q2⟩⟩
end
end L2
namespace MI
open PySem L2
def top (i:Nat):Stmt:=PySem.Challenge.pw_mendedimage_s01_answers.main.body.getD i (.Pass ⟨0,0,0,0⟩)
abbrev Fj:Stmt:=top 6
abbrev um:Stmt:=top 11
abbrev yu:Stmt:=top 12
abbrev pP:Stmt:=inClass (top 13) 0
abbrev nI:Stmt:=inClass (top 13) 1
abbrev pQ:Stmt:=inClass (top 13) 2
abbrev l8:Stmt:=inClass (top 13) 3
abbrev l9:Stmt:=inClass (top 13) 4
abbrev gy:Stmt:=inClass (top 13) 5
abbrev pR:Stmt:=inClass (top 13) 6
abbrev yy:Stmt:=inClass (top 17) 0
abbrev rD:Stmt:=inClass (top 17) 1
abbrev iU:Stmt:=inClass (top 17) 2
abbrev rE:Stmt:=inClass (top 17) 3
abbrev uo:Stmt:=top 18
abbrev pS:Stmt:=top 19
abbrev nJ:Stmt:=top 20
abbrev zZ:Stmt:=top 21
abbrev uq:Stmt:=top 22
abbrev jg:Stmt:=top 23
abbrev ur:Stmt:=inClass (top 25) 0
abbrev iV:Stmt:=inClass (top 25) 1
abbrev jq:Stmt:=inClass (top 25) 2
abbrev kP:Stmt:=inClass (top 25) 3
abbrev nK:Stmt:=inClass (top 25) 4
abbrev rF:Stmt:=inClass (top 25) 5
abbrev gR:Stmt:=inClass (top 25) 6
abbrev yz:Stmt:=inClass (top 25) 7
abbrev uu:Stmt:=inClass (top 28) 0
abbrev nL:Stmt:=inClass (top 29) 0
abbrev iW:Stmt:=inClass (top 29) 1
abbrev jr:Stmt:=inClass (top 29) 2
abbrev iX:Stmt:=inClass (top 29) 3
abbrev uv:Stmt:=top 30
abbrev nM:Stmt:=inClass (top 48) 0
abbrev ma:Stmt:=inClass (top 49) 0
abbrev rG:Stmt:=top 50
abbrev nN:Stmt:=top 51
abbrev nO:Stmt:=top 52
abbrev kQ:Stmt:=top 53
abbrev BI:Stmt:=top 54
abbrev mY:Stmt:=top 55
abbrev nP:Stmt:=top 56
abbrev pT:Stmt:=top 57
abbrev lr:Stmt:=inClass (top 63) 0
abbrev jI:Stmt:=inClass (top 63) 1
abbrev ib:Stmt:=inClass (top 63) 2
abbrev BJ:Stmt:=top 64
abbrev BK:Stmt:=top 65
abbrev BL:Stmt:=top 66
abbrev uw:Stmt:=top 67
abbrev pU:Stmt:=top 68
abbrev ux:Stmt:=top 69
abbrev yB:Stmt:=top 72
abbrev rH:Stmt:=top 73
abbrev jJ:Stmt:=inClass (top 74) 0
abbrev rJ:Stmt:=inClass (top 75) 0
abbrev uy:Stmt:=inClass (top 75) 1
abbrev rK:Stmt:=inClass (top 75) 2
abbrev iY:Stmt:=inClass (top 75) 3
abbrev iZ:Stmt:=inClass (top 75) 4
abbrev i3:Stmt:=inClass (top 75) 5
abbrev i4:Stmt:=inClass (top 75) 6
abbrev rL:Stmt:=inClass (top 75) 7
abbrev lu:Stmt:=inClass (top 75) 8
abbrev nQ:Stmt:=inClass (top 78) 0
abbrev js:Stmt:=inClass (top 78) 1
abbrev i5:Stmt:=inClass (top 78) 2
abbrev uz:Stmt:=top 79
abbrev uA:Stmt:=inClass (top 81) 0
abbrev rM:Stmt:=top 82
abbrev pV:Stmt:=top 83
abbrev pW:Stmt:=top 84
abbrev yC:Stmt:=top 87
abbrev nR:Stmt:=top 88
abbrev rN:Stmt:=top 89
abbrev uB:Stmt:=inClass (top 92) 0
abbrev jt:Stmt:=inClass (top 92) 1
abbrev J8:Stmt:=top 93
abbrev uC:Stmt:=top 94
abbrev UB:Stmt:=top 95
abbrev Ou:Stmt:=top 96
abbrev Ov:Stmt:=top 97
abbrev Ow:Stmt:=top 98
abbrev Ox:Stmt:=top 99
abbrev J9:Stmt:=top 100
abbrev Fl:Stmt:=top 102
abbrev uD:Stmt:=top 103
abbrev nu:Stmt:=top 104
theorem fi {N P:List Str} {sc:Scope} (k:sc.kind = .function:=by rfl) (c:sc.isCoroutine=false:=by rfl) (g:sc.isGenerator=false:=by rfl) (n:N.Nodup:=by decide +kernel) (p:N.take P.length=P:=by rfl) (q:∀x∈P,sc.names.lookup x=some .local∨sc.names.lookup x=some .cell:=by decide +kernel) (r:∀y∈sc.names,y.2≠.free:=by decide +kernel):ay N P sc:=⟨k,c,g,n,p,q,r⟩
theorem RX:ay ["held"] ["held"] (aq Fj):=fi
theorem mZ:ay ["row","at","size","value","byte"] ["row","at","size"] (aq um):=fi
theorem oW:ay ["digits","beginning","value","digit"] ["digits","beginning"] (aq yu):=fi
theorem Fm:ay ["self","row","at"] ["self","row","at"] (aq pP):=fi
theorem DL:ay ["self"] ["self"] (aq nI):=fi
theorem Fn:ay ["self"] ["self"] (aq pQ):=fi
theorem f9:ay ["self","found","more","byte"] ["self"] (aq l8):=fi
theorem qw:ay ["self","value"] ["self"] (aq l9):=fi
theorem gc:ay ["self","digits","beginning"] ["self"] (aq gy):=fi
theorem jK:ay ["self","letters","letter"] ["self"] (aq pR):=fi
theorem Mn:ay ["self","place","count","stride"] ["self","place","count","stride"] (aq yy):=fi
theorem Hm:ay ["self"] ["self"] (aq rD):=fi
theorem uE:ay ["self","k"] ["self","k"] (aq iU):=fi
theorem Hn:ay ["self"] ["self"] (aq rE):=fi
theorem z9:ay ["count","between","stride"] ["count","between"] (aq uo):=fi
theorem Fo:ay ["run","bound"] ["run","bound"] (aq pS):=fi
theorem DM:ay ["run","span"] ["run","span"] (aq nJ):=fi
theorem wz:ay ["ground","place","count","between","run","span"] ["ground","place","count","between"] (aq zZ):=fi
theorem rO:ay ["runs","places","run"] ["runs"] (aq uq):=fi
theorem eo:ay ["runs","length","places","close","run","before","after"] ["runs","length"] (aq jg):=fi
theorem Ka:ay ["self","part","ground"] ["self","part","ground"] (aq ur):=fi
theorem lN:ay ["self","byte"] ["self"] (aq iV):=fi
theorem wI:ay ["self"] ["self"] (aq jq):=fi
theorem Aa:ay ["self","n"] ["self","n"] (aq kP):=fi
theorem DN:ay ["self","n"] ["self","n"] (aq nK):=fi
theorem Ho:ay ["self","far"] ["self","far"] (aq rF):=fi
theorem gz:ay ["self","count","between"] ["self"] (aq gR):=fi
theorem CP:ay ["self","count","between","run"] ["self","count","between"] (aq yz):=fi
theorem Kb:ay ["self","run","library","library_name","name","added"] ["self","run","library","library_name","name","added"] (aq uu):=fi
theorem DO:ay ["self","part","ground","libraries"] ["self","part","ground","libraries"] (aq nL):=fi
theorem uF:ay ["self"] ["self"] (aq iW):=fi
theorem i6:ay ["self","count","between","run","library_name"] ["self","count","between"] (aq jr):=fi
theorem uG:ay ["self","what","n"] ["self","what","n"] (aq iX):=fi
theorem Ab:ay ["part","ground","libraries","walk"] ["part","ground","libraries"] (aq uv):=fi
theorem DP:ay ["self","command"] ["self","command"] (aq nM):=fi
theorem BM:ay ["self"] ["self"] (aq ma):=fi
theorem Hq:ay ["file"] ["file"] (aq rG):=fi
theorem tq:ay ["contents","command","file","segment"] ["contents","command","file"] (aq nN):=fi
theorem DQ:ay ["contents","command"] ["contents","command"] (aq nO):=fi
theorem Ac:ay ["contents","command"] ["contents","command"] (aq kQ):=fi
theorem yD:ay ["command","at","file","place","size"] ["command","at","file"] (aq BI):=fi
theorem pX:ay ["contents","command","file","at"] ["contents","command","file"] (aq mY):=fi
theorem tu:ay ["contents","command","file","kind"] ["contents","command","file"] (aq nP):=fi
theorem ic:ay ["file","contents","end","turn","length"] ["file"] (aq pT):=fi
theorem nT:ay ["self","segments","laid","segment"] ["self","segments","laid"] (aq lr):=fi
theorem nU:ay ["self","index","segment"] ["self","index"] (aq jI):=fi
theorem du:ay ["self","file","held","segment","begin","k"] ["self","file"] (aq ib):=fi
theorem Oy:ay ["segment","home"] ["segment","home"] (aq BJ):=fi
theorem Oz:ay ["segment"] ["segment"] (aq BK):=fi
theorem OB:ay ["segments"] ["segments"] (aq BL):=fi
theorem m4:ay ["laid","end","segment"] ["laid"] (aq uw):=fi
theorem Fp:ay ["first","contents"] ["first","contents"] (aq pU):=fi
theorem Ae:ay ["contents","laid"] ["contents"] (aq ux):=fi
theorem uH:ay ["row","at","value","k"] ["row","at","value"] (aq yB):=fi
theorem Hr:ay ["letters"] ["letters"] (aq rH):=fi
theorem yE:ay ["self","place","want"] ["self","place","want"] (aq jJ):=fi
theorem Hs:ay ["self","ground","beginning","held","mended","wanted","names"] ["self","ground","beginning","held","mended","wanted","names"] (aq rJ):=fi
theorem Kc:ay ["self","base"] ["self","base"] (aq uy):=fi
theorem pY:ay ["self","at","most","found","place"] ["self","at","most"] (aq rK):=fi
theorem uI:ay ["self","place"] ["self","place"] (aq iY):=fi
theorem uJ:ay ["self","name"] ["self","name"] (aq iZ):=fi
theorem fj:ay ["self","k","behind","want"] ["self","k"] (aq i3):=fi
theorem fk:ay ["self","k","word","want","numbers"] ["self","k"] (aq i4):=fi
theorem xx:ay ["self","k","value","word"] ["self","k","value"] (aq rL):=fi
theorem ie:ay ["self","lies","wanted","want"] ["self"] (aq lu):=fi
theorem DR:ay ["self","part","ground"] ["self","part","ground"] (aq nQ):=fi
theorem wJ:ay ["self","count","between"] ["self","count","between"] (aq js):=fi
theorem uK:ay ["self","what","n"] ["self","what","n"] (aq i5):=fi
theorem Af:ay ["part","ground","walk"] ["part","ground"] (aq uz):=fi
theorem Kd:ay ["self","at","name"] ["self","at","name"] (aq uA):=fi
theorem ly:ay ["cursor","node","given","length","size","end","place"] ["cursor","node","given","length"] (aq rM):=fi
theorem ig:ay ["cursor","node","below","turn","letters","name"] ["cursor","node"] (aq pV):=fi
theorem eA:ay ["part","length","given","waiting","met","node","cursor","below"] ["part","length"] (aq pW):=fi
theorem Mo:ay ["contents"] ["contents"] (aq yC):=fi
theorem DT:ay ["contents"] ["contents"] (aq nR):=fi
theorem dE:ay ["file","contents","ground","parts","runs_mended","wanted","names","places","mended","want"] ["file"] (aq rN):=fi
theorem Ke:ay ["self"] ["self"] (aq uB):=fi
theorem wK:ay ["self"] ["self"] (aq jt):=fi
theorem UC:ay ["desk","call"] ["desk","call"] (aq J8):=fi
theorem Kf:ay ["desk","call"] ["desk","call"] (aq uC):=fi
theorem aa4:ay ["desk","call"] ["desk","call"] (aq UB):=fi
theorem QT:ay ["desk","call","found"] ["desk","call"] (aq Ou):=fi
theorem Xt:ay ["desk","call"] ["desk","call"] (aq Ov):=fi
theorem Xu:ay ["desk","call"] ["desk","call"] (aq Ow):=fi
theorem Xv:ay ["desk","call"] ["desk","call"] (aq Ox):=fi
theorem UD:ay ["desk","call"] ["desk","call"] (aq J9):=fi
theorem RY:ay ["desk","call"] ["desk","call"] (aq Fl):=fi
theorem Kg:ay ["calls","at"] ["calls","at"] (aq uD):=fi
theorem ju:ay ["calls","desk","answered","at","length","told"] ["calls"] (aq nu):=fi
structure Ad0 where
 cn:Addr
 aE:Addr
 dI:Addr
 bI:Addr
 bL:Addr
 bz:Addr
 tw:Addr
 i7:Addr
 me:Addr
 aP:Addr
 cA:Addr
 bU:Addr
 cZ:Addr
 fm:Addr
 bR:Addr
 a8:Addr
 kR:Addr
 fA:Addr
 OC:Addr
 BN:Addr
 Fq:Addr
 uL:Addr
 rP:Addr
 uM:Addr
 pZ:Addr
 p6:Addr
 ij:Addr
 uN:Addr
 Fs:Addr
 yF:Addr
 jL:Addr
 yG:Addr
 BO:Addr
 uO:Addr
 rQ:Addr
 OD:Addr
 BP:Addr
 uP:Addr
 wA:Addr
 cx:Addr
 dY:Addr
 gf:Addr
 iB:Addr
 kS:Addr
 bT:Addr
 qx:Addr
 BQ:Addr
 rR:Addr
 jM:Addr
 iC:Addr
 jN:Addr
 BR:Addr
 rS:Addr
 p7:Addr
 yH:Addr
 rT:Addr
 rV:Addr
 nV:Addr
 part_of:Addr
 yI:Addr
 rW:Addr
 uQ:Addr
 uR:Addr
 mf:Addr
 jv:Addr
 Kh:Addr
 Ki:Addr
 Kj:Addr
 BS:Addr
 uS:Addr
 BU:Addr
 Ft:Addr
 yJ:Addr
 mh:Addr
 yL:Addr
 BV:Addr
 yM:Addr
 jO:Addr
 jP:Addr
 jQ:Addr
 jR:Addr
 yN:Addr
 uT:Addr
 rX:Addr
 iD:Addr
 jS:Addr
 BW:Addr
 BX:Addr
 yO:Addr
 uU:Addr
 uV:Addr
 Fu:Addr
 rY:Addr
 Ag:Addr
 BY:Addr
 kT:Addr
 begin:Addr
 qy:Addr
 lay:Addr
 read:Addr
 find:Addr
 want:Addr
 fill:Addr
 about:Addr
 answer:Addr
 BZ:Addr
 answers:Addr
 c8:Addr
 jT:Addr
 c9:Addr
 oX:Addr
 nA:Addr
structure Ad extends Ad0 where
 new:Addr→Prop
structure Tx0 (K:PySem.W.Frag) (mg:Str→Option Value) (a:Ad0):Prop where
 Mp:FA K "demand" "demand" Fj ["held"] a.OC
 aA:mg "demand" = some (.ref a.OC)
 CQ:FA K "number_at" "number_at" um ["row","at","size"] a.BN
 a7:mg "number_at" = some (.ref a.BN)
 Fv:FA K "value_of" "value_of" yu ["digits","beginning"] a.Fq
 yQ:mg "value_of" = some (.ref a.Fq)
 xy:FA K "__init__" "Cursor.__init__" pP ["self","row","at"] a.uL
 uW:FA K "ended" "Cursor.ended" nI ["self"] a.rP
 xA:FA K "byte" "Cursor.byte" pQ ["self"] a.uM
 tD:FA K "digits" "Cursor.digits" l8 ["self"] a.pZ
 tE:FA K "sevens" "Cursor.sevens" l9 ["self"] a.p6
 jU:FA K "signed_sevens" "Cursor.signed_sevens" gy ["self"] a.ij
 xB:FA K "text" "Cursor.text" pR ["self"] a.uN
 Fw:FA K "__init__" "Run.__init__" yy ["self","place","count","stride"] a.Fs
 Ah:FA K "lowest" "Run.lowest" rD ["self"] a.yF
 mq:FA K "place_of_word" "Run.place_of_word" iU ["self","k"] a.jL
 Ai:FA K "places" "Run.places" rE ["self"] a.yG
 CS:FA K "stride_of" "stride_of" uo ["count","between"] a.BO
 CT:mg "stride_of" = some (.ref a.BO)
 xC:FA K "words_up_to" "words_up_to" pS ["run","bound"] a.uO
 p8:mg "words_up_to" = some (.ref a.uO)
 uX:FA K "words_within" "words_within" nJ ["run","span"] a.rQ
 uY:mg "words_within" = some (.ref a.rQ)
 Mq:FA K "run_of" "run_of" zZ ["ground","place","count","between"] a.OD
 Mr:mg "run_of" = some (.ref a.OD)
 CU:FA K "places_of" "places_of" uq ["runs"] a.BP
 uZ:mg "places_of" = some (.ref a.BP)
 xD:FA K "check_apart" "check_apart" jg ["runs","length"] a.uP
 xE:mg "check_apart" = some (.ref a.uP)
 CV:FA K "__init__" "Walk.__init__" ur ["self","part","ground"] a.wA
 mr:FA K "walk_through" "Walk.walk_through" iV ["self"] a.cx
 nW:FA K "check_zeros" "Walk.check_zeros" jq ["self"] a.dY
 qz:FA K "tell_kind" "Walk.tell_kind" kP ["self","n"] a.gf
 u0:FA K "go_into" "Walk.go_into" nK ["self","n"] a.iB
 Aj:FA K "go_on" "Walk.go_on" rF ["self","far"] a.kS
 kD:FA K "do_words_apart" "Walk.do_words_apart" gR ["self"] a.bT
 Fx:FA K "run" "Walk.run" yz ["self","count","between"] a.qx
 CW:FA K "__init__" "Want.__init__" uu ["self","run","library","library_name","name","added"] a.BQ
 u1:FA K "__init__" "Binding.__init__" nL ["self","part","ground","libraries"] a.rR
 mv:FA K "tell_name" "Binding.tell_name" iW ["self"] a.jM
 nX:FA K "do_words" "Binding.do_words" jr ["self","count","between"] a.iC
 mw:FA K "take_step" "Binding.take_step" iX ["self","what","n"] a.jN
 CY:FA K "wanted_by" "wanted_by" uv ["part","ground","libraries"] a.BR
 CZ:mg "wanted_by" = some (.ref a.BR)
 u3:FA K "__init__" "Segment.__init__" nM ["self","command"] a.rS
 tF:FA K "__init__" "Contents.__init__" ma ["self"] a.p7
 Ak:FA K "check_head" "check_head" rG ["file"] a.yH
 Al:mg "check_head" = some (.ref a.yH)
 u4:FA K "take_segment" "take_segment" nN ["contents","command","file"] a.rT
 u5:mg "take_segment" = some (.ref a.rT)
 u6:FA K "take_library" "take_library" nO ["contents","command"] a.rV
 u7:mg "take_library" = some (.ref a.rV)
 qA:FA K "take_beginning" "take_beginning" kQ ["contents","command"] a.nV
 qB:mg "take_beginning" = some (.ref a.nV)
 Jk:FA K "part_of" "part_of" BI ["command","at","file"] a.part_of
 Jl:mg "part_of" = some (.ref a.part_of)
 Am:FA K "take_parts" "take_parts" mY ["contents","command","file"] a.yI
 An:mg "take_parts" = some (.ref a.yI)
 u9:FA K "take_command" "take_command" nP ["contents","command","file"] a.rW
 vc:mg "take_command" = some (.ref a.rW)
 xF:FA K "contents_of" "contents_of" pT ["file"] a.uQ
 xG:mg "contents_of" = some (.ref a.uQ)
 xH:FA K "__init__" "Ground.__init__" lr ["self","segments","laid"] a.uR
 oY:FA K "place_of" "Ground.place_of" jI ["self","index"] a.mf
 lO:FA K "filled_with" "Ground.filled_with" ib ["self","file"] a.jv
 Jm:FA K "span_of" "span_of" BJ ["segment","home"] a.Kh
 Jn:mg "span_of" = some (.ref a.Kh)
 Jo:FA K "is_bare" "is_bare" BK ["segment"] a.Ki
 B0:mg "is_bare" = some (.ref a.Ki)
 Jp:FA K "laid_of" "laid_of" BL ["segments"] a.Kj
 Jq:mg "laid_of" = some (.ref a.Kj)
 C7:FA K "check_row" "check_row" uw ["laid"] a.BS
 Dc:mg "check_row" = some (.ref a.BS)
 xI:FA K "check_first" "check_first" pU ["first","contents"] a.uS
 xJ:mg "check_first" = some (.ref a.uS)
 Dd:FA K "ground_of" "ground_of" ux ["contents"] a.BU
 De:mg "ground_of" = some (.ref a.BU)
 Fy:FA K "put_word" "put_word" yB ["row","at","value"] a.Ft
 yR:mg "put_word" = some (.ref a.Ft)
 Ao:FA K "with_zeros" "with_zeros" rH ["letters"] a.yJ
 rZ:mg "with_zeros" = some (.ref a.yJ)
 oZ:FA K "__init__" "WantedWord.__init__" jJ ["self","place","want"] a.mh
 Ap:FA K "__init__" "Image.__init__" rJ ["self","ground","beginning","held","mended","wanted","names"] a.yL
 Df:FA K "lay" "Image.lay" uy ["self","base"] a.BV
 Aq:FA K "read" "Image.read" rK ["self","at","most"] a.yM
 mx:FA K "mended_word" "Image.mended_word" iY ["self","place"] a.jO
 my:FA K "place_named" "Image.place_named" iZ ["self","name"] a.jP
 mz:FA K "wanted_word" "Image.wanted_word" i3 ["self","k"] a.jQ
 mB:FA K "tell_wanted" "Image.tell_wanted" i4 ["self","k"] a.jR
 Ar:FA K "fill" "Image.fill" rL ["self","k","value"] a.yN
 xK:FA K "about" "Image.about" lu ["self"] a.uT
 vd:FA K "__init__" "Mending.__init__" nQ ["self","part","ground"] a.rX
 nY:FA K "do_words" "Mending.do_words" js ["self","count","between"] a.iD
 mC:FA K "take_step" "Mending.take_step" i5 ["self","what","n"] a.jS
 Dg:FA K "mended_by" "mended_by" uz ["part","ground"] a.BW
 Dh:mg "mended_by" = some (.ref a.BW)
 Di:FA K "__init__" "Node.__init__" uA ["self","at","name"] a.BX
 As:FA K "take_place" "take_place" rM ["cursor","node","given","length"] a.yO
 Au:mg "take_place" = some (.ref a.yO)
 xM:FA K "nodes_below" "nodes_below" pV ["cursor","node"] a.uU
 xN:mg "nodes_below" = some (.ref a.uU)
 xO:FA K "names_given" "names_given" pW ["part","length"] a.uV
 xP:mg "names_given" = some (.ref a.uV)
 Fz:FA K "parts_of" "parts_of" yC ["contents"] a.Fu
 FC:mg "parts_of" = some (.ref a.Fu)
 ve:FA K "beginning_of" "beginning_of" nR ["contents"] a.rY
 vf:mg "beginning_of" = some (.ref a.rY)
 FD:FA K "image_of" "image_of" rN ["file"] a.Ag
 FE:mg "image_of" = some (.ref a.Ag)
 Dj:FA K "__init__" "Desk.__init__" uB ["self"] a.BY
 nZ:FA K "image_there" "Desk.image_there" jt ["self"] a.kT
 QU:FA K "begin" "begin" J8 ["desk","call"] a.begin
 Xw:mg "begin" = some (.ref a.begin)
 Dk:FA K "take_file" "take_file" uC ["desk","call"] a.qy
 Ms:mg "take_file" = some (.ref a.qy)
 Zy:FA K "lay" "lay" UB ["desk","call"] a.lay
 adY:mg "lay" = some (.ref a.lay)
 UE:FA K "read" "read" Ou ["desk","call"] a.read
 aa5:mg "read" = some (.ref a.read)
 UG:FA K "find" "find" Ov ["desk","call"] a.find
 aa6:mg "find" = some (.ref a.find)
 UH:FA K "want" "want" Ow ["desk","call"] a.want
 aa7:mg "want" = some (.ref a.want)
 UI:FA K "fill" "fill" Ox ["desk","call"] a.fill
 aa8:mg "fill" = some (.ref a.fill)
 QV:FA K "about" "about" J9 ["desk","call"] a.about
 Xx:mg "about" = some (.ref a.about)
 Mt:FA K "answer" "answer" Fl ["desk","call"] a.answer
 Mu:mg "answer" = some (.ref a.answer)
 Dl:FA K "length_of" "length_of" uD ["calls","at"] a.BZ
 Dm:mg "length_of" = some (.ref a.BZ)
 B3:FA K "answers" "answers" nu ["calls"] a.answers
 Jr:mg "answers" = some (.ref a.answers)
 B4:RW K mg "NoImage" a.cn
 qC:RW K mg "BadFile" a.aE
 B5:RW K mg "BadBase" a.dI
 p9:RW K mg "UnknownName" a.bI
 vg:RW K mg "NotWanted" a.bL
 o3:PySem.W.exmOne K (.ref a.cn) (.ref a.cn)=some true
 Av:PySem.W.exmOne K (.ref a.cn) (.ref a.aE)=some false
 Aw:PySem.W.exmOne K (.ref a.cn) (.ref a.dI)=some false
 tV:PySem.W.exmOne K (.ref a.cn) (.ref a.bI)=some false
 wL:PySem.W.exmOne K (.ref a.cn) (.ref a.bL)=some false
 o4:PySem.W.exmOne K (.ref a.aE) (.ref a.cn)=some false
 o5:PySem.W.exmOne K (.ref a.aE) (.ref a.aE)=some true
 Ax:PySem.W.exmOne K (.ref a.aE) (.ref a.dI)=some false
 tW:PySem.W.exmOne K (.ref a.aE) (.ref a.bI)=some false
 wM:PySem.W.exmOne K (.ref a.aE) (.ref a.bL)=some false
 o6:PySem.W.exmOne K (.ref a.dI) (.ref a.cn)=some false
 o7:PySem.W.exmOne K (.ref a.dI) (.ref a.aE)=some false
 o8:PySem.W.exmOne K (.ref a.dI) (.ref a.dI)=some true
 tX:PySem.W.exmOne K (.ref a.dI) (.ref a.bI)=some false
 wO:PySem.W.exmOne K (.ref a.dI) (.ref a.bL)=some false
 kF:PySem.W.exmOne K (.ref a.bI) (.ref a.cn)=some false
 kG:PySem.W.exmOne K (.ref a.bI) (.ref a.aE)=some false
 kH:PySem.W.exmOne K (.ref a.bI) (.ref a.dI)=some false
 iL:PySem.W.exmOne K (.ref a.bI) (.ref a.bI)=some true
 qD:PySem.W.exmOne K (.ref a.bI) (.ref a.bL)=some false
 mD:PySem.W.exmOne K (.ref a.bL) (.ref a.cn)=some false
 mE:PySem.W.exmOne K (.ref a.bL) (.ref a.aE)=some false
 mF:PySem.W.exmOne K (.ref a.bL) (.ref a.dI)=some false
 jz:PySem.W.exmOne K (.ref a.bL) (.ref a.bI)=some false
 kI:PySem.W.exmOne K (.ref a.bL) (.ref a.bL)=some true
 Ay:mg "Cursor" = some (.ref a.bz)
 aL:CI K a.bz
 nB:Mk K a.bz a.uL
 jV:Meth K a.bz "ended" a.rP
 fB:Meth K a.bz "byte" a.uM
 mi:Meth K a.bz "digits" a.pZ
 bp:Meth K a.bz "sevens" a.p6
 jW:Meth K a.bz "signed_sevens" a.ij
 lA:Meth K a.bz "text" a.uN
 gO:aK K a.bz "row"
 dQ:aK K a.bz "at"
 Zz:mg "Run" = some (.ref a.tw)
 dR:CI K a.tw
 Kk:Mk K a.tw a.Fs
 Az:Meth K a.tw "lowest" a.yF
 fO:Meth K a.tw "place_of_word" a.jL
 AA:Meth K a.tw "places" a.yG
 gA:aK K a.tw "place"
 cH:aK K a.tw "count"
 dW:aK K a.tw "stride"
 OE:mg "Walk" = some (.ref a.i7)
 Xy:CI K a.i7
 Kl:Mk K a.i7 a.wA
 wQ:Meth K a.i7 "walk_through" a.cx
 yS:Meth K a.i7 "check_zeros" a.dY
 B6:Meth K a.i7 "tell_kind" a.gf
 FF:Meth K a.i7 "go_into" a.iB
 Km:Meth K a.i7 "go_on" a.kS
 tY:Meth K a.i7 "do_words_apart" a.bT
 OF:Meth K a.i7 "run" a.qx
 n8:aK K a.i7 "cursor"
 n9:aK K a.i7 "ground"
 jX:aK K a.i7 "kind_told"
 jw:aK K a.i7 "place_told"
 qa:aK K a.i7 "place"
 UJ:mg "Want" = some (.ref a.me)
 eP:CI K a.me
 EB:Mk K a.me a.BQ
 bB:aK K a.me "run_wanted"
 gL:aK K a.me "library"
 dF:aK K a.me "library_name"
 iE:aK K a.me "name"
 gP:aK K a.me "added"
 Js:mg "Binding" = some (.ref a.aP)
 aQ:CI K a.aP
 r6:Mk K a.aP a.rR
 mG:Meth K a.aP "tell_name" a.jM
 eB:Meth K a.aP "do_words" a.iC
 mH:Meth K a.aP "take_step" a.jN
 gB:Meth K a.aP "walk_through" a.cx
 kJ:Meth K a.aP "check_zeros" a.dY
 i8:Meth K a.aP "tell_kind" a.gf
 jY:Meth K a.aP "go_into" a.iB
 mj:Meth K a.aP "go_on" a.kS
 fC:Meth K a.aP "do_words_apart" a.bT
 qb:Meth K a.aP "run" a.qx
 cR:aK K a.aP "libraries"
 bN:aK K a.aP "library"
 dq:aK K a.aP "name"
 dZ:aK K a.aP "added"
 dJ:aK K a.aP "wanted"
 gW:aK K a.aP "cursor"
 gX:aK K a.aP "ground"
 fo:aK K a.aP "kind_told"
 eQ:aK K a.aP "place_told"
 iF:aK K a.aP "place"
 Jt:mg "Segment" = some (.ref a.cA)
 aG:CI K a.cA
 r9:Mk K a.cA a.rS
 aX:aK K a.cA "place"
 cg:aK K a.cA "size"
 cy:aK K a.cA "source"
 bK:aK K a.cA "filled"
 da:aK K a.cA "rights"
 dP:aK K a.cA "sections"
 FG:mg "Contents" = some (.ref a.bU)
 aM:CI K a.bU
 o9:Mk K a.bU a.p7
 bA:aK K a.bU "reach"
 b6:aK K a.bU "segments"
 bV:aK K a.bU "libraries"
 ba:aK K a.bU "beginning"
 cz:aK K a.bU "parts"
 Mv:mg "Ground" = some (.ref a.cZ)
 bH:CI K a.cZ
 wB:Mk K a.cZ a.uR
 pb:Meth K a.cZ "place_of" a.mf
 lP:Meth K a.cZ "filled_with" a.jv
 dv:aK K a.cZ "segments"
 gh:aK K a.cZ "laid"
 cE:aK K a.cZ "home"
 cS:aK K a.cZ "length"
 gM:aK K a.cZ "spans"
 AB:mg "WantedWord" = some (.ref a.fm)
 fD:CI K a.fm
 lB:Mk K a.fm a.mh
 df:aK K a.fm "place"
 dw:aK K a.fm "want"
 QW:mg "Image" = some (.ref a.bR)
 a9:CI K a.bR
 AD:Mk K a.bR a.yL
 Dn:Meth K a.bR "lay" a.BV
 AE:Meth K a.bR "read" a.yM
 mI:Meth K a.bR "mended_word" a.jO
 mK:Meth K a.bR "place_named" a.jP
 i9:Meth K a.bR "wanted_word" a.jQ
 mL:Meth K a.bR "tell_wanted" a.jR
 AF:Meth K a.bR "fill" a.yN
 xQ:Meth K a.bR "about" a.uT
 dO:aK K a.bR "ground"
 fE:aK K a.bR "base"
 eE:aK K a.bR "beginning"
 fF:aK K a.bR "held"
 eZ:aK K a.bR "mended"
 ff:aK K a.bR "wanted"
 eI:aK K a.bR "names"
 Ju:mg "Mending" = some (.ref a.a8)
 cM:CI K a.a8
 sd:Mk K a.a8 a.rX
 eJ:Meth K a.a8 "do_words" a.iD
 mM:Meth K a.a8 "take_step" a.jS
 gC:Meth K a.a8 "walk_through" a.cx
 kK:Meth K a.a8 "check_zeros" a.dY
 ja:Meth K a.a8 "tell_kind" a.gf
 jZ:Meth K a.a8 "go_into" a.iB
 ji:Meth K a.a8 "go_on" a.kS
 fG:Meth K a.a8 "do_words_apart" a.bT
 qc:Meth K a.a8 "run" a.qx
 dM:aK K a.a8 "mended"
 gY:aK K a.a8 "cursor"
 gZ:aK K a.a8 "ground"
 fq:aK K a.a8 "kind_told"
 eU:aK K a.a8 "place_told"
 iG:aK K a.a8 "place"
 OG:mg "Node" = some (.ref a.kR)
 lC:CI K a.kR
 AG:Mk K a.kR a.BX
 ik:aK K a.kR "at"
 gD:aK K a.kR "name"
 UK:mg "Desk" = some (.ref a.fA)
 jj:CI K a.fA
 EC:Mk K a.fA a.BY
 cN:Meth K a.fA "image_there" a.kT
 dX:aK K a.fA "image"
 Kn:Zw K a.i7 a.wA "__init__"
 gQ:GI mg "MODULUS" 18446744073709551616
 xR:GI mg "MOST_DIGITS" 10
 pd:GI mg "MOST_TEXT" 255
 mm:GI mg "WORD" 8
 AH:GI mg "MOST_WORDS" 65536
 lQ:GI mg "HEAD_SIZE" 32
 QX:GI mg "MAGIC" 4277009103
 Dp:GI mg "PROCESSOR" 16777223
 tG:GI mg "MOST_COMMANDS" 256
 Jv:GI mg "SEGMENT" 25
 Jw:GI mg "LIBRARY" 12
 Dq:GI mg "BEGINNING" 2147483688
 QY:GI mg "PARTS" 2147483682
 FH:GI mg "PAGE" 4096
 vh:GI mg "SEGMENT_SIZE" 72
 vi:GI mg "SECTION_SIZE" 80
 j7:GI mg "LIBRARY_NAME" 24
 qE:GI mg "MOST_LIBRARIES" 64
 qF:GI mg "BEGINNING_SIZE" 24
 AI:GI mg "PARTS_SIZE" 48
 Dr:GI mg "MOST_LAID" 16
 se:GI mg "MOST_REACH" 4194304
 UL:GI mg "TOP" 140737488355328
 Jx:GI mg "WRITTEN" 2
 Ds:GI mg "MOST_READ" 4194304
 Dt:GI mg "MOST_FILE" 1048576
 c8:mg "STEPS_WITH_N_binding" = some (.ref a.c8)
 j8:∀H,tS K H a.c8 [.int 1,.int 5,.int 7,.int 11]
 jT:mg "FILE_KINDS" = some (.ref a.jT)
 AJ:∀H,tS K H a.jT [.int 2,.int 6,.int 8]
 c9:mg "STEPS_WITH_N_mending" = some (.ref a.c9)
 j9:∀H,tS K H a.c9 [.int 1,.int 2,.int 4,.int 5]
 oX:mg "CALLS" = some (.ref a.oX)
 QZ:∀H,tS K H a.oX [.ref a.begin,.ref a.qy,.ref a.lay,.ref a.read,.ref a.find,.ref a.want,.ref a.fill,.ref a.about]
 nA:mg "LENGTHS" = some (.ref a.nA)
 yT:Uz K a.nA [(0,1),(2,2),(3,3),(5,2),(6,3),(7,1)]
 UM:mg "abs" = none
 UN:mg "dict" = none
 eL:mg "len" = none
 OH:mg "list" = none
 ZA:mg "max" = none
 UO:mg "min" = none
 sf:mg "range" = none
 yU:mg "reversed" = none
 Mw:mg "sorted" = none
 Q0:mg "sum" = none
 Ko:mg "tuple" = none
 UP:mg "zip" = none
abbrev Tx (K:PySem.W.Frag) (mg:Str→Option Value) (a:Ad):Prop:=Tx0 K mg a.toAd0
theorem Ht:¬(("place" : Str) = "size"):=by decide +kernel
theorem RZ:¬(("row" : Str) = "at"):=by decide +kernel
def bW (x0 x1:V):List (Str×V):=("row",x0)::("at",x1)::[]
theorem si {x0 x1:V}:(bW x0 x1).lookup ("row" : Str)=some x0:=by kernel_rfl
theorem lR {x0 x1:V}:(bW x0 x1).lookup ("at" : Str)=some x1:=by kernel_rfl
theorem DU {x0 x1:V} {y:V}:aF "at" y (bW x0 x1)=bW x0 y:=by kernel_rfl
theorem d7 {x0 x1:V}:(bW x0 x1).lookup ("byte" : Str)=none:=by kernel_rfl
theorem oa {x0 x1:V}:(bW x0 x1).lookup ("digits" : Str)=none:=by kernel_rfl
theorem kc {x0 x1:V}:(bW x0 x1).lookup ("ended" : Str)=none:=by kernel_rfl
theorem aY {x0 x1:V}:(bW x0 x1).lookup ("sevens" : Str)=none:=by kernel_rfl
theorem oK {x0 x1:V}:(bW x0 x1).lookup ("signed_sevens" : Str)=none:=by kernel_rfl
theorem kU {x0 x1:V}:(bW x0 x1).lookup ("text" : Str)=none:=by kernel_rfl
theorem Kq {x0 x1:V}:(bW x0 x1).length=2:=rfl
theorem Mx {x0 x1:V}:(aF "at" x1 (aF "row" x0 []))=bW x0 x1:=by kernel_rfl
def xS (x0 x1 x2:V):List (Str×V):=("place",x0)::("count",x1)::("stride",x2)::[]
theorem vj {x0 x1 x2:V}:(xS x0 x1 x2).lookup ("place" : Str)=some x0:=by kernel_rfl
theorem gu {x0 x1 x2:V}:(xS x0 x1 x2).lookup ("count" : Str)=some x1:=by kernel_rfl
theorem m5 {x0 x1 x2:V}:(xS x0 x1 x2).lookup ("stride" : Str)=some x2:=by kernel_rfl
theorem DV {x0 x1 x2:V}:(xS x0 x1 x2).lookup ("lowest" : Str)=none:=by kernel_rfl
theorem gE {x0 x1 x2:V}:(xS x0 x1 x2).lookup ("place_of_word" : Str)=none:=by kernel_rfl
theorem DW {x0 x1 x2:V}:(xS x0 x1 x2).lookup ("places" : Str)=none:=by kernel_rfl
theorem UQ {x0 x1 x2:V}:(aF "stride" x2 (aF "count" x1 (aF "place" x0 [])))=xS x0 x1 x2:=by kernel_rfl
def bC (x0 x1 x2 x3 x4:V) (ext:List (Str×V)):List (Str×V):=("cursor",x0)::("ground",x1)::("kind_told",x2)::("place_told",x3)::("place",x4)::ext
theorem bE {x0 x1 x2 x3 x4:V} {ext:List (Str×V)}:(bC x0 x1 x2 x3 x4 ext).lookup ("cursor" : Str)=some x0:=by kernel_rfl
theorem xT {x0 x1 x2 x3 x4:V} {ext:List (Str×V)}:(bC x0 x1 x2 x3 x4 ext).lookup ("ground" : Str)=some x1:=by kernel_rfl
theorem B7 {x0 x1 x2 x3 x4:V} {ext:List (Str×V)}:(bC x0 x1 x2 x3 x4 ext).lookup ("kind_told" : Str)=some x2:=by kernel_rfl
theorem vk {x0 x1 x2 x3 x4:V} {ext:List (Str×V)} {y:V}:aF "kind_told" y (bC x0 x1 x2 x3 x4 ext)=bC x0 x1 y x3 x4 ext:=by kernel_rfl
theorem AK {x0 x1 x2 x3 x4:V} {ext:List (Str×V)}:(bC x0 x1 x2 x3 x4 ext).lookup ("place_told" : Str)=some x3:=by kernel_rfl
theorem tZ {x0 x1 x2 x3 x4:V} {ext:List (Str×V)} {y:V}:aF "place_told" y (bC x0 x1 x2 x3 x4 ext)=bC x0 x1 x2 y x4 ext:=by kernel_rfl
theorem AL {x0 x1 x2 x3 x4:V} {ext:List (Str×V)}:(bC x0 x1 x2 x3 x4 ext).lookup ("place" : Str)=some x4:=by kernel_rfl
theorem qG {x0 x1 x2 x3 x4:V} {ext:List (Str×V)} {y:V}:aF "place" y (bC x0 x1 x2 x3 x4 ext)=bC x0 x1 x2 x3 y ext:=by kernel_rfl
theorem R0 {x0 x1 x2 x3 x4:V}:(aF "place" x4 (aF "place_told" x3 (aF "kind_told" x2 (aF "ground" x1 (aF "cursor" x0 [])))))=bC x0 x1 x2 x3 x4 []:=by kernel_rfl
def sj (x0 x1 x2 x3 x4:V):List (Str×V):=("run_wanted",x0)::("library",x1)::("library_name",x2)::("name",x3)::("added",x4)::[]
theorem dN {x0 x1 x2 x3 x4:V}:(sj x0 x1 x2 x3 x4).lookup ("run_wanted" : Str)=some x0:=by kernel_rfl
theorem FI {x0 x1 x2 x3 x4:V}:(sj x0 x1 x2 x3 x4).lookup ("library" : Str)=some x1:=by kernel_rfl
theorem wR {x0 x1 x2 x3 x4:V}:(sj x0 x1 x2 x3 x4).lookup ("library_name" : Str)=some x2:=by kernel_rfl
theorem Du {x0 x1 x2 x3 x4:V}:(sj x0 x1 x2 x3 x4).lookup ("name" : Str)=some x3:=by kernel_rfl
theorem AM {x0 x1 x2 x3 x4:V}:(sj x0 x1 x2 x3 x4).lookup ("added" : Str)=some x4:=by kernel_rfl
theorem R1 {x0 x1 x2 x3 x4:V}:(aF "added" x4 (aF "name" x3 (aF "library_name" x2 (aF "library" x1 (aF "run_wanted" x0 [])))))=sj x0 x1 x2 x3 x4:=by kernel_rfl
def d8 (x0 x1 x2 x3 x4 x5 x6 x7 x8 x9:V):List (Str×V):=bC x0 x1 x2 x3 x4 [("libraries",x5),("library",x6),("name",x7),("added",x8),("wanted",x9)]
theorem mO {x0 x1 x2 x3 x4 x5 x6 x7 x8 x9:V}:(d8 x0 x1 x2 x3 x4 x5 x6 x7 x8 x9).lookup ("libraries" : Str)=some x5:=by kernel_rfl
theorem kd {x0 x1 x2 x3 x4 x5 x6 x7 x8 x9:V}:(d8 x0 x1 x2 x3 x4 x5 x6 x7 x8 x9).lookup ("library" : Str)=some x6:=by kernel_rfl
theorem kL {x0 x1 x2 x3 x4 x5 x6 x7 x8 x9:V} {y:V}:aF "library" y (d8 x0 x1 x2 x3 x4 x5 x6 x7 x8 x9)=d8 x0 x1 x2 x3 x4 x5 y x7 x8 x9:=by kernel_rfl
theorem og {x0 x1 x2 x3 x4 x5 x6 x7 x8 x9:V}:(d8 x0 x1 x2 x3 x4 x5 x6 x7 x8 x9).lookup ("name" : Str)=some x7:=by kernel_rfl
theorem yV {x0 x1 x2 x3 x4 x5 x6 x7 x8 x9:V} {y:V}:aF "name" y (d8 x0 x1 x2 x3 x4 x5 x6 x7 x8 x9)=d8 x0 x1 x2 x3 x4 x5 x6 y x8 x9:=by kernel_rfl
theorem DX {x0 x1 x2 x3 x4 x5 x6 x7 x8 x9:V}:(d8 x0 x1 x2 x3 x4 x5 x6 x7 x8 x9).lookup ("added" : Str)=some x8:=by kernel_rfl
theorem wU {x0 x1 x2 x3 x4 x5 x6 x7 x8 x9:V} {y:V}:aF "added" y (d8 x0 x1 x2 x3 x4 x5 x6 x7 x8 x9)=d8 x0 x1 x2 x3 x4 x5 x6 x7 y x9:=by kernel_rfl
theorem qH {x0 x1 x2 x3 x4 x5 x6 x7 x8 x9:V}:(d8 x0 x1 x2 x3 x4 x5 x6 x7 x8 x9).lookup ("wanted" : Str)=some x9:=by kernel_rfl
theorem Kr {x0 x1 x2 x3 x4 x5 x6 x7 x8 x9:V}:(aF "wanted" x9 (aF "added" x8 (aF "name" x7 (aF "library" x6 (aF "libraries" x5 (bC x0 x1 x2 x3 x4 []))))))=d8 x0 x1 x2 x3 x4 x5 x6 x7 x8 x9:=by kernel_rfl
def jA (x0 x1 x2 x3 x4 x5:V):List (Str×V):=("place",x0)::("size",x1)::("source",x2)::("filled",x3)::("rights",x4)::("sections",x5)::[]
theorem bP {x0 x1 x2 x3 x4 x5:V}:(jA x0 x1 x2 x3 x4 x5).lookup ("place" : Str)=some x0:=by kernel_rfl
theorem gi {x0 x1 x2 x3 x4 x5:V}:(jA x0 x1 x2 x3 x4 x5).lookup ("size" : Str)=some x1:=by kernel_rfl
theorem iH {x0 x1 x2 x3 x4 x5:V}:(jA x0 x1 x2 x3 x4 x5).lookup ("source" : Str)=some x2:=by kernel_rfl
theorem d9 {x0 x1 x2 x3 x4 x5:V}:(jA x0 x1 x2 x3 x4 x5).lookup ("filled" : Str)=some x3:=by kernel_rfl
theorem kW {x0 x1 x2 x3 x4 x5:V}:(jA x0 x1 x2 x3 x4 x5).lookup ("rights" : Str)=some x4:=by kernel_rfl
theorem yW {x0 x1 x2 x3 x4 x5:V}:(jA x0 x1 x2 x3 x4 x5).lookup ("sections" : Str)=some x5:=by kernel_rfl
theorem Ks {x0 x1 x2 x3 x4 x5:V}:(aF "sections" x5 (aF "rights" x4 (aF "filled" x3 (aF "source" x2 (aF "size" x1 (aF "place" x0 []))))))=jA x0 x1 x2 x3 x4 x5:=by kernel_rfl
def cO (x0 x1 x2 x3 x4:V):List (Str×V):=("reach",x0)::("segments",x1)::("libraries",x2)::("beginning",x3)::("parts",x4)::[]
theorem dA {x0 x1 x2 x3 x4:V}:(cO x0 x1 x2 x3 x4).lookup ("reach" : Str)=some x0:=by kernel_rfl
theorem vm {x0 x1 x2 x3 x4:V} {y:V}:aF "reach" y (cO x0 x1 x2 x3 x4)=cO y x1 x2 x3 x4:=by kernel_rfl
theorem jb {x0 x1 x2 x3 x4:V}:(cO x0 x1 x2 x3 x4).lookup ("segments" : Str)=some x1:=by kernel_rfl
theorem il {x0 x1 x2 x3 x4:V}:(cO x0 x1 x2 x3 x4).lookup ("libraries" : Str)=some x2:=by kernel_rfl
theorem dG {x0 x1 x2 x3 x4:V}:(cO x0 x1 x2 x3 x4).lookup ("beginning" : Str)=some x3:=by kernel_rfl
theorem qd {x0 x1 x2 x3 x4:V} {y:V}:aF "beginning" y (cO x0 x1 x2 x3 x4)=cO x0 x1 x2 y x4:=by kernel_rfl
theorem kX {x0 x1 x2 x3 x4:V}:(cO x0 x1 x2 x3 x4).lookup ("parts" : Str)=some x4:=by kernel_rfl
theorem vn {x0 x1 x2 x3 x4:V} {y:V}:aF "parts" y (cO x0 x1 x2 x3 x4)=cO x0 x1 x2 x3 y:=by kernel_rfl
theorem oh {x0 x1 x2 x3 x4:V}:(cO x0 x1 x2 x3 x4).length=5:=rfl
theorem Hu {x0 x1 x2 x3 x4:V}:(aF "parts" x4 (aF "beginning" x3 (aF "libraries" x2 (aF "segments" x1 (aF "reach" x0 [])))))=cO x0 x1 x2 x3 x4:=by kernel_rfl
def gN (x0 x1 x2 x3 x4:V):List (Str×V):=("segments",x0)::("laid",x1)::("home",x2)::("length",x3)::("spans",x4)::[]
theorem pf {x0 x1 x2 x3 x4:V}:(gN x0 x1 x2 x3 x4).lookup ("segments" : Str)=some x0:=by kernel_rfl
theorem xU {x0 x1 x2 x3 x4:V}:(gN x0 x1 x2 x3 x4).lookup ("laid" : Str)=some x1:=by kernel_rfl
theorem lD {x0 x1 x2 x3 x4:V}:(gN x0 x1 x2 x3 x4).lookup ("home" : Str)=some x2:=by kernel_rfl
theorem jk {x0 x1 x2 x3 x4:V}:(gN x0 x1 x2 x3 x4).lookup ("length" : Str)=some x3:=by kernel_rfl
theorem FJ {x0 x1 x2 x3 x4:V}:(gN x0 x1 x2 x3 x4).lookup ("spans" : Str)=some x4:=by kernel_rfl
theorem qI {x0 x1 x2 x3 x4:V}:(gN x0 x1 x2 x3 x4).lookup ("filled_with" : Str)=none:=by kernel_rfl
theorem vo {x0 x1 x2 x3 x4:V}:(gN x0 x1 x2 x3 x4).lookup ("place_of" : Str)=none:=by kernel_rfl
theorem My {x0 x1 x2 x3 x4:V}:(aF "spans" x4 (aF "length" x3 (aF "home" x2 (aF "laid" x1 (aF "segments" x0 [])))))=gN x0 x1 x2 x3 x4:=by kernel_rfl
def ke (x0 x1:V):List (Str×V):=("place",x0)::("want",x1)::[]
theorem oi {x0 x1:V}:(ke x0 x1).lookup ("place" : Str)=some x0:=by kernel_rfl
theorem ph {x0 x1:V}:(ke x0 x1).lookup ("want" : Str)=some x1:=by kernel_rfl
theorem DY {x0 x1:V}:(aF "want" x1 (aF "place" x0 []))=ke x0 x1:=by kernel_rfl
def cJ (x0 x1 x2 x3 x4 x5 x6:V):List (Str×V):=("ground",x0)::("base",x1)::("beginning",x2)::("held",x3)::("mended",x4)::("wanted",x5)::("names",x6)::[]
theorem vp {x0 x1 x2 x3 x4 x5 x6:V}:(cJ x0 x1 x2 x3 x4 x5 x6).lookup ("ground" : Str)=some x0:=by kernel_rfl
theorem AN {x0 x1 x2 x3 x4 x5 x6:V}:(cJ x0 x1 x2 x3 x4 x5 x6).lookup ("base" : Str)=some x1:=by kernel_rfl
theorem B8 {x0 x1 x2 x3 x4 x5 x6:V} {y:V}:aF "base" y (cJ x0 x1 x2 x3 x4 x5 x6)=cJ x0 y x2 x3 x4 x5 x6:=by kernel_rfl
theorem AO {x0 x1 x2 x3 x4 x5 x6:V}:(cJ x0 x1 x2 x3 x4 x5 x6).lookup ("beginning" : Str)=some x2:=by kernel_rfl
theorem AQ {x0 x1 x2 x3 x4 x5 x6:V}:(cJ x0 x1 x2 x3 x4 x5 x6).lookup ("held" : Str)=some x3:=by kernel_rfl
theorem vq {x0 x1 x2 x3 x4 x5 x6:V}:(cJ x0 x1 x2 x3 x4 x5 x6).lookup ("mended" : Str)=some x4:=by kernel_rfl
theorem FK {x0 x1 x2 x3 x4 x5 x6:V}:(cJ x0 x1 x2 x3 x4 x5 x6).lookup ("wanted" : Str)=some x5:=by kernel_rfl
theorem xV {x0 x1 x2 x3 x4 x5 x6:V}:(cJ x0 x1 x2 x3 x4 x5 x6).lookup ("names" : Str)=some x6:=by kernel_rfl
theorem B9 {x0 x1 x2 x3 x4 x5 x6:V}:(cJ x0 x1 x2 x3 x4 x5 x6).lookup ("about" : Str)=none:=by kernel_rfl
theorem DZ {x0 x1 x2 x3 x4 x5 x6:V}:(cJ x0 x1 x2 x3 x4 x5 x6).lookup ("fill" : Str)=none:=by kernel_rfl
theorem FL {x0 x1 x2 x3 x4 x5 x6:V}:(cJ x0 x1 x2 x3 x4 x5 x6).lookup ("lay" : Str)=none:=by kernel_rfl
theorem sk {x0 x1 x2 x3 x4 x5 x6:V}:(cJ x0 x1 x2 x3 x4 x5 x6).lookup ("mended_word" : Str)=none:=by kernel_rfl
theorem sm {x0 x1 x2 x3 x4 x5 x6:V}:(cJ x0 x1 x2 x3 x4 x5 x6).lookup ("place_named" : Str)=none:=by kernel_rfl
theorem D0 {x0 x1 x2 x3 x4 x5 x6:V}:(cJ x0 x1 x2 x3 x4 x5 x6).lookup ("read" : Str)=none:=by kernel_rfl
theorem so {x0 x1 x2 x3 x4 x5 x6:V}:(cJ x0 x1 x2 x3 x4 x5 x6).lookup ("tell_wanted" : Str)=none:=by kernel_rfl
theorem kf {x0 x1 x2 x3 x4 x5 x6:V}:(cJ x0 x1 x2 x3 x4 x5 x6).lookup ("wanted_word" : Str)=none:=by kernel_rfl
theorem Mz {x0 x1 x2 x3 x4 x5 x6:V}:(cJ x0 x1 x2 x3 x4 x5 x6).length=7:=rfl
theorem OI {x0 x1 x2 x3 x4 x5 x6:V}:(aF "names" x6 (aF "wanted" x5 (aF "mended" x4 (aF "held" x3 (aF "beginning" x2 (aF "base" x1 (aF "ground" x0 [])))))))=cJ x0 x1 x2 x3 x4 x5 x6:=by kernel_rfl
def R3 (x0 x1 x2 x3 x4 x5:V):List (Str×V):=bC x0 x1 x2 x3 x4 [("mended",x5)]
theorem Kt {x0 x1 x2 x3 x4 x5:V}:(aF "mended" x5 (bC x0 x1 x2 x3 x4 []))=R3 x0 x1 x2 x3 x4 x5:=by kernel_rfl
def kY (x0 x1:V):List (Str×V):=("at",x0)::("name",x1)::[]
theorem wC {x0 x1:V}:(kY x0 x1).lookup ("at" : Str)=some x0:=by kernel_rfl
theorem vt {x0 x1:V}:(kY x0 x1).lookup ("name" : Str)=some x1:=by kernel_rfl
theorem R4 {x0 x1:V}:(aF "name" x1 (aF "at" x0 []))=kY x0 x1:=by kernel_rfl
def fH (x0:V):List (Str×V):=("image",x0)::[]
theorem AR {x0:V}:(fH x0).lookup ("image" : Str)=some x0:=by kernel_rfl
theorem qJ {x0:V} {y:V}:aF "image" y (fH x0)=fH y:=by kernel_rfl
theorem cB {x0:V}:(fH x0).lookup ("image_there" : Str)=none:=by kernel_rfl
theorem FN {x0:V}:(fH x0).length=1:=rfl
theorem R5 {x0:V}:(aF "image" x0 [])=fH x0:=by kernel_rfl
end MI
namespace MI
open PySem L2
structure FnAt (K:PySem.W.Frag) (x qual:Str) (st:Stmt) (f:Addr):Prop where
 ex:∃(oc:Value) (od:Option Addr) (kV doc pm:Value) (an:Option Addr) (cF ct:Value) (Jb:Array (Option Value)),K.lookup f=some ⟨oc,od,.func (PySem.W.fnOf x qual (oV st) (lq st) (aq st) .none kV doc pm an cF ct),Jb⟩∧PySem.W.codeIn K cF qual=true
 kp:PySem.W.keepIn K (.ref f)=true
theorem fnAt {K:PySem.W.Frag} {x qual:Str} {st:Stmt} {f:Addr} {oc:Value} {od:Option Addr} {kV doc pm:Value} {an:Option Addr} {cF ct:Value} {Jb:Array (Option Value)} (l:K.lookup f=some ⟨oc,od,.func (PySem.W.fnOf x qual (oV st) (lq st) (aq st) .none kV doc pm an cF ct),Jb⟩) (c:PySem.W.codeIn K cF qual=true) (k:PySem.W.keepIn K (.ref f)=true):FnAt K x qual st f:=⟨⟨oc,od,kV,doc,pm,an,cF,ct,Jb,l,c⟩,k⟩
theorem FnAt.fa {K:PySem.W.Frag} {x qual:Str} {st:Stmt} {ps:List Str} {f:Addr} (l:FnAt K x qual st f)
 (h:∀(kV doc pm:Value) (an:Option Addr) (cF ct:Value) (us:List Value),us.length=ps.length→bindArgs (PySem.W.fnOf x qual (oV st) (lq st) (aq st) .none kV doc pm an cF ct) ⟨us,[]⟩=pure (ps.zip us)):FA K x qual st ps f:=by
 obtain⟨oc,od,kV,doc,pm,an,cF,ct,Jb,lk,c⟩:=l.ex
 exact⟨_,Uw lk c l.kp,(Uw lk c l.kp).binds h⟩
theorem adZ {K:PySem.W.Frag} {h:Heap} {mg:Str→Option Value} (X:K.In h) (G:h.Ns mainGlobals mg) {cT cU cV bw bS b7 gF bX ft aN b8 bY cw b9 bF aW ip iq FO vv yX lE kg lF jl jm dS lG sr m6 fP m7 vw qe oj FP vx qf lS dh dB ef gj iI cC kZ pj kh fQ gG fR vy ki jn sv om oo k7 Ca sx oq qg lH g9 fu Cb Cc Cd vz qh vA yY sy hU m8 px m9 fS fT fU fV ng lI kj gH fW vB pz sE qi qj yZ ot y2 pA gI ED pB Q1 Ku Kv Kw Kx EE FQ vC Ce fI ou fJ Cf pC:Addr}
 {FR:Tok}
 {vD:Tok}
 {AS:Tok}
 {Q2:Tok}
 {xW:Tok}
 {AU:Tok}
 {MA:Tok}
 {AV:Tok}
 {qK:Tok}
 {FT:Tok}
 {FU:Tok}
 {AW:Tok}
 {MB:Tok}
 {Q3:Tok}
 {tH:Tok}
 {tI:Tok}
 {tJ:Tok}
 {pD:Tok}
 {pE:Tok}
 {xX:Tok}
 {AX:Tok}
 {xY:Tok}
 {UR:Tok}
 {FV:Tok}
 {AY:Tok}
 {AZ:Tok}
 {iM iN iO iP:Tok}
 {qL:Option Addr} {qM:Nat} {qN:Array (Option Value)}
 {tK tL tM:Tok}
 {Hv:Option Addr} {Hw:Nat} {Hx:Array (Option Value)}
 {iQ iR iS iT:Tok}
 {qO:Option Addr} {qP:Nat} {qQ:Array (Option Value)}
 {US:Option Addr} {UT:Nat} {UU:Array (Option Value)}
 {A0 A1 A2 A3 A4 A5 A6 A7 A8 A9 xZ ya:Tok} {OJ:Nat}
 (R6:PySem.W.nsIn K mainGlobals "NoImage" = some (some (.ref cT)))
 (R7:PySem.W.nsIn K mainGlobals "BadFile" = some (some (.ref cU)))
 (R8:PySem.W.nsIn K mainGlobals "BadBase" = some (some (.ref cV)))
 (Hy:PySem.W.nsIn K mainGlobals "UnknownName" = some (some (.ref bw)))
 (MC:PySem.W.nsIn K mainGlobals "NotWanted" = some (some (.ref bS)))
 (UW:PySem.W.nsIn K mainGlobals "Cursor" = some (some (.ref b7)))
 (ad0:PySem.W.nsIn K mainGlobals "Run" = some (some (.ref gF)))
 (aa9:PySem.W.nsIn K mainGlobals "Walk" = some (some (.ref bX)))
 (aba:PySem.W.nsIn K mainGlobals "Want" = some (some (.ref ft)))
 (R9:PySem.W.nsIn K mainGlobals "Binding" = some (some (.ref aN)))
 (Sa:PySem.W.nsIn K mainGlobals "Segment" = some (some (.ref b8)))
 (OK:PySem.W.nsIn K mainGlobals "Contents" = some (some (.ref bY)))
 (UX:PySem.W.nsIn K mainGlobals "Ground" = some (some (.ref cw)))
 (Ky:PySem.W.nsIn K mainGlobals "WantedWord" = some (some (.ref b9)))
 (Xz:PySem.W.nsIn K mainGlobals "Image" = some (some (.ref bF)))
 (Sb:PySem.W.nsIn K mainGlobals "Mending" = some (some (.ref aW)))
 (abb:PySem.W.nsIn K mainGlobals "Node" = some (some (.ref ip)))
 (abc:PySem.W.nsIn K mainGlobals "Desk" = some (some (.ref iq)))
 (UY:PySem.W.nsIn K mainGlobals "demand" = some (some (.ref FO)))
 (UZ:FnAt K "demand" "demand" Fj FO)
 (MD:PySem.W.nsIn K mainGlobals "number_at" = some (some (.ref vv)))
 (ME:FnAt K "number_at" "number_at" um vv)
 (OL:PySem.W.nsIn K mainGlobals "value_of" = some (some (.ref yX)))
 (OM:FnAt K "value_of" "value_of" yu yX)
 (Hz:PySem.W.findIn K (.ref b7) "__init__" = some (some (.ref lE)))
 (HA:PySem.W.isFn K (.ref lE)=true)
 (HB:FnAt K "__init__" "Cursor.__init__" pP lE)
 (FW:PySem.W.findIn K (.ref b7) "ended" = some (some (.ref kg)))
 (FX:PySem.W.isFn K (.ref kg)=true)
 (vE:FnAt K "ended" "Cursor.ended" nI kg)
 (HC:PySem.W.findIn K (.ref b7) "byte" = some (some (.ref lF)))
 (HD:PySem.W.isFn K (.ref lF)=true)
 (yb:FnAt K "byte" "Cursor.byte" pQ lF)
 (D9:PySem.W.findIn K (.ref b7) "digits" = some (some (.ref jl)))
 (Ea:PySem.W.isFn K (.ref jl)=true)
 (tN:FnAt K "digits" "Cursor.digits" l8 jl)
 (Eb:PySem.W.findIn K (.ref b7) "sevens" = some (some (.ref jm)))
 (Ec:PySem.W.isFn K (.ref jm)=true)
 (tO:FnAt K "sevens" "Cursor.sevens" l9 jm)
 (sF:PySem.W.findIn K (.ref b7) "signed_sevens" = some (some (.ref dS)))
 (sG:PySem.W.isFn K (.ref dS)=true)
 (kl:FnAt K "signed_sevens" "Cursor.signed_sevens" gy dS)
 (HE:PySem.W.findIn K (.ref b7) "text" = some (some (.ref lG)))
 (HF:PySem.W.isFn K (.ref lG)=true)
 (yd:FnAt K "text" "Cursor.text" pR lG)
 (ON:PySem.W.findIn K (.ref gF) "__init__" = some (some (.ref sr)))
 (OO:PySem.W.isFn K (.ref sr)=true)
 (OP:FnAt K "__init__" "Run.__init__" yy sr)
 (Kz:PySem.W.findIn K (.ref gF) "lowest" = some (some (.ref m6)))
 (KA:PySem.W.isFn K (.ref m6)=true)
 (Ba:FnAt K "lowest" "Run.lowest" rD m6)
 (wV:PySem.W.findIn K (.ref gF) "place_of_word" = some (some (.ref fP)))
 (wW:PySem.W.isFn K (.ref fP)=true)
 (mP:FnAt K "place_of_word" "Run.place_of_word" iU fP)
 (KC:PySem.W.findIn K (.ref gF) "places" = some (some (.ref m7)))
 (KD:PySem.W.isFn K (.ref m7)=true)
 (Bb:FnAt K "places" "Run.places" rE m7)
 (MF:PySem.W.nsIn K mainGlobals "stride_of" = some (some (.ref vw)))
 (MG:FnAt K "stride_of" "stride_of" uo vw)
 (HG:PySem.W.nsIn K mainGlobals "words_up_to" = some (some (.ref qe)))
 (HH:FnAt K "words_up_to" "words_up_to" pS qe)
 (FY:PySem.W.nsIn K mainGlobals "words_within" = some (some (.ref oj)))
 (FZ:FnAt K "words_within" "words_within" nJ oj)
 (U0:PySem.W.nsIn K mainGlobals "run_of" = some (some (.ref FP)))
 (U1:FnAt K "run_of" "run_of" zZ FP)
 (MH:PySem.W.nsIn K mainGlobals "places_of" = some (some (.ref vx)))
 (MJ:FnAt K "places_of" "places_of" uq vx)
 (HI:PySem.W.nsIn K mainGlobals "check_apart" = some (some (.ref qf)))
 (HJ:FnAt K "check_apart" "check_apart" jg qf)
 (MK:PySem.W.findIn K (.ref bX) "__init__" = some (some (.ref lS)))
 (ML:PySem.W.isFn K (.ref lS)=true)
 (MM:FnAt K "__init__" "Walk.__init__" ur lS)
 (wX:PySem.W.findIn K (.ref bX) "walk_through" = some (some (.ref dh)))
 (jc:PySem.W.isFn K (.ref dh)=true)
 (fX:FnAt K "walk_through" "Walk.walk_through" iV dh)
 (y3:PySem.W.findIn K (.ref bX) "check_zeros" = some (some (.ref dB)))
 (jx:PySem.W.isFn K (.ref dB)=true)
 (gJ:FnAt K "check_zeros" "Walk.check_zeros" jq dB)
 (Cg:PySem.W.findIn K (.ref bX) "tell_kind" = some (some (.ref ef)))
 (k9:PySem.W.isFn K (.ref ef)=true)
 (iJ:FnAt K "tell_kind" "Walk.tell_kind" kP ef)
 (F2:PySem.W.findIn K (.ref bX) "go_into" = some (some (.ref gj)))
 (ow:PySem.W.isFn K (.ref gj)=true)
 (km:FnAt K "go_into" "Walk.go_into" nK gj)
 (KG:PySem.W.findIn K (.ref bX) "go_on" = some (some (.ref iI)))
 (sI:PySem.W.isFn K (.ref iI)=true)
 (nh:FnAt K "go_on" "Walk.go_on" rF iI)
 (t4:PySem.W.findIn K (.ref bX) "do_words_apart" = some (some (.ref cC)))
 (gT:PySem.W.isFn K (.ref cC)=true)
 (eV:FnAt K "do_words_apart" "Walk.do_words_apart" gR cC)
 (OQ:PySem.W.findIn K (.ref bX) "run" = some (some (.ref kZ)))
 (y4:PySem.W.isFn K (.ref kZ)=true)
 (sJ:FnAt K "run" "Walk.run" yz kZ)
 (MN:PySem.W.findIn K (.ref ft) "__init__" = some (some (.ref pj)))
 (MO:PySem.W.isFn K (.ref pj)=true)
 (MP:FnAt K "__init__" "Want.__init__" uu pj)
 (F3:PySem.W.findIn K (.ref aN) "__init__" = some (some (.ref kh)))
 (F4:PySem.W.isFn K (.ref kh)=true)
 (F5:FnAt K "__init__" "Binding.__init__" nL kh)
 (wY:PySem.W.findIn K (.ref aN) "tell_name" = some (some (.ref fQ)))
 (wZ:PySem.W.isFn K (.ref fQ)=true)
 (mQ:FnAt K "tell_name" "Binding.tell_name" iW fQ)
 (y6:PySem.W.findIn K (.ref aN) "do_words" = some (some (.ref gG)))
 (y8:PySem.W.isFn K (.ref gG)=true)
 (ox:FnAt K "do_words" "Binding.do_words" jr gG)
 (w6:PySem.W.findIn K (.ref aN) "take_step" = some (some (.ref fR)))
 (w8:PySem.W.isFn K (.ref fR)=true)
 (mR:FnAt K "take_step" "Binding.take_step" iX fR)
 (MQ:PySem.W.nsIn K mainGlobals "wanted_by" = some (some (.ref vy)))
 (MR:FnAt K "wanted_by" "wanted_by" uv vy)
 (F6:PySem.W.findIn K (.ref b8) "__init__" = some (some (.ref ki)))
 (F7:PySem.W.isFn K (.ref ki)=true)
 (F8:FnAt K "__init__" "Segment.__init__" nM ki)
 (Ed:PySem.W.findIn K (.ref bY) "__init__" = some (some (.ref jn)))
 (Ee:PySem.W.isFn K (.ref jn)=true)
 (Ef:FnAt K "__init__" "Contents.__init__" ma jn)
 (KH:PySem.W.nsIn K mainGlobals "check_head" = some (some (.ref sv)))
 (KI:FnAt K "check_head" "check_head" rG sv)
 (F9:PySem.W.nsIn K mainGlobals "take_segment" = some (some (.ref om)))
 (Ga:FnAt K "take_segment" "take_segment" nN om)
 (Gb:PySem.W.nsIn K mainGlobals "take_library" = some (some (.ref oo)))
 (Gd:FnAt K "take_library" "take_library" nO oo)
 (Ci:PySem.W.nsIn K mainGlobals "take_beginning" = some (some (.ref k7)))
 (Cj:FnAt K "take_beginning" "take_beginning" kQ k7)
 (Sd:PySem.W.nsIn K mainGlobals "part_of" = some (some (.ref Ca)))
 (Se:FnAt K "part_of" "part_of" BI Ca)
 (KJ:PySem.W.nsIn K mainGlobals "take_parts" = some (some (.ref sx)))
 (KL:FnAt K "take_parts" "take_parts" mY sx)
 (Ge:PySem.W.nsIn K mainGlobals "take_command" = some (some (.ref oq)))
 (Gf:FnAt K "take_command" "take_command" nP oq)
 (HK:PySem.W.nsIn K mainGlobals "contents_of" = some (some (.ref qg)))
 (HL:FnAt K "contents_of" "contents_of" pT qg)
 (HM:PySem.W.findIn K (.ref cw) "__init__" = some (some (.ref lH)))
 (HN:PySem.W.isFn K (.ref lH)=true)
 (HP:FnAt K "__init__" "Ground.__init__" lr lH)
 (Bc:PySem.W.findIn K (.ref cw) "place_of" = some (some (.ref g9)))
 (Bd:PySem.W.isFn K (.ref g9)=true)
 (pF:FnAt K "place_of" "Ground.place_of" jI g9)
 (vF:PySem.W.findIn K (.ref cw) "filled_with" = some (some (.ref fu)))
 (vG:PySem.W.isFn K (.ref fu)=true)
 (lT:FnAt K "filled_with" "Ground.filled_with" ib fu)
 (Sf:PySem.W.nsIn K mainGlobals "span_of" = some (some (.ref Cb)))
 (Sg:FnAt K "span_of" "span_of" BJ Cb)
 (Sh:PySem.W.nsIn K mainGlobals "is_bare" = some (some (.ref Cc)))
 (Si:FnAt K "is_bare" "is_bare" BK Cc)
 (Sj:PySem.W.nsIn K mainGlobals "laid_of" = some (some (.ref Cd)))
 (Sk:FnAt K "laid_of" "laid_of" BL Cd)
 (MS:PySem.W.nsIn K mainGlobals "check_row" = some (some (.ref vz)))
 (MT:FnAt K "check_row" "check_row" uw vz)
 (HQ:PySem.W.nsIn K mainGlobals "check_first" = some (some (.ref qh)))
 (HR:FnAt K "check_first" "check_first" pU qh)
 (MU:PySem.W.nsIn K mainGlobals "ground_of" = some (some (.ref vA)))
 (MV:FnAt K "ground_of" "ground_of" ux vA)
 (OR:PySem.W.nsIn K mainGlobals "put_word" = some (some (.ref yY)))
 (OS:FnAt K "put_word" "put_word" yB yY)
 (KN:PySem.W.nsIn K mainGlobals "with_zeros" = some (some (.ref sy)))
 (KO:FnAt K "with_zeros" "with_zeros" rH sy)
 (Be:PySem.W.findIn K (.ref b9) "__init__" = some (some (.ref hU)))
 (Bf:PySem.W.isFn K (.ref hU)=true)
 (Bg:FnAt K "__init__" "WantedWord.__init__" jJ hU)
 (KP:PySem.W.findIn K (.ref bF) "__init__" = some (some (.ref m8)))
 (KQ:PySem.W.isFn K (.ref m8)=true)
 (KR:FnAt K "__init__" "Image.__init__" rJ m8)
 (MW:PySem.W.findIn K (.ref bF) "lay" = some (some (.ref px)))
 (MY:PySem.W.isFn K (.ref px)=true)
 (Dv:FnAt K "lay" "Image.lay" uy px)
 (KS:PySem.W.findIn K (.ref bF) "read" = some (some (.ref m9)))
 (KU:PySem.W.isFn K (.ref m9)=true)
 (Bh:FnAt K "read" "Image.read" rK m9)
 (w9:PySem.W.findIn K (.ref bF) "mended_word" = some (some (.ref fS)))
 (xc:PySem.W.isFn K (.ref fS)=true)
 (mS:FnAt K "mended_word" "Image.mended_word" iY fS)
 (xf:PySem.W.findIn K (.ref bF) "place_named" = some (some (.ref fT)))
 (xg:PySem.W.isFn K (.ref fT)=true)
 (mT:FnAt K "place_named" "Image.place_named" iZ fT)
 (xh:PySem.W.findIn K (.ref bF) "wanted_word" = some (some (.ref fU)))
 (xi:PySem.W.isFn K (.ref fU)=true)
 (mU:FnAt K "wanted_word" "Image.wanted_word" i3 fU)
 (xj:PySem.W.findIn K (.ref bF) "tell_wanted" = some (some (.ref fV)))
 (xk:PySem.W.isFn K (.ref fV)=true)
 (mV:FnAt K "tell_wanted" "Image.tell_wanted" i4 fV)
 (KW:PySem.W.findIn K (.ref bF) "fill" = some (some (.ref ng)))
 (KY:PySem.W.isFn K (.ref ng)=true)
 (Bi:FnAt K "fill" "Image.fill" rL ng)
 (HS:PySem.W.findIn K (.ref bF) "about" = some (some (.ref lI)))
 (HU:PySem.W.isFn K (.ref lI)=true)
 (yf:FnAt K "about" "Image.about" lu lI)
 (Gg:PySem.W.findIn K (.ref aW) "__init__" = some (some (.ref kj)))
 (Gh:PySem.W.isFn K (.ref kj)=true)
 (Gi:FnAt K "__init__" "Mending.__init__" nQ kj)
 (y9:PySem.W.findIn K (.ref aW) "do_words" = some (some (.ref gH)))
 (za:PySem.W.isFn K (.ref gH)=true)
 (oy:FnAt K "do_words" "Mending.do_words" js gH)
 (xm:PySem.W.findIn K (.ref aW) "take_step" = some (some (.ref fW)))
 (xn:PySem.W.isFn K (.ref fW)=true)
 (mW:FnAt K "take_step" "Mending.take_step" i5 fW)
 (MZ:PySem.W.nsIn K mainGlobals "mended_by" = some (some (.ref vB)))
 (M0:FnAt K "mended_by" "mended_by" uz vB)
 (M1:PySem.W.findIn K (.ref ip) "__init__" = some (some (.ref pz)))
 (M3:PySem.W.isFn K (.ref pz)=true)
 (M4:FnAt K "__init__" "Node.__init__" uA pz)
 (KZ:PySem.W.nsIn K mainGlobals "take_place" = some (some (.ref sE)))
 (K0:FnAt K "take_place" "take_place" rM sE)
 (HV:PySem.W.nsIn K mainGlobals "nodes_below" = some (some (.ref qi)))
 (HW:FnAt K "nodes_below" "nodes_below" pV qi)
 (HX:PySem.W.nsIn K mainGlobals "names_given" = some (some (.ref qj)))
 (HY:FnAt K "names_given" "names_given" pW qj)
 (OT:PySem.W.nsIn K mainGlobals "parts_of" = some (some (.ref yZ)))
 (OU:FnAt K "parts_of" "parts_of" yC yZ)
 (Gj:PySem.W.nsIn K mainGlobals "beginning_of" = some (some (.ref ot)))
 (Gk:FnAt K "beginning_of" "beginning_of" nR ot)
 (OV:PySem.W.nsIn K mainGlobals "image_of" = some (some (.ref y2)))
 (OW:FnAt K "image_of" "image_of" rN y2)
 (M5:PySem.W.findIn K (.ref iq) "__init__" = some (some (.ref pA)))
 (M6:PySem.W.isFn K (.ref pA)=true)
 (M7:FnAt K "__init__" "Desk.__init__" uB pA)
 (zb:PySem.W.findIn K (.ref iq) "image_there" = some (some (.ref gI)))
 (zc:PySem.W.isFn K (.ref gI)=true)
 (oz:FnAt K "image_there" "Desk.image_there" jt gI)
 (XA:PySem.W.nsIn K mainGlobals "begin" = some (some (.ref ED)))
 (XB:FnAt K "begin" "begin" J8 ED)
 (M8:PySem.W.nsIn K mainGlobals "take_file" = some (some (.ref pB)))
 (M9:FnAt K "take_file" "take_file" uC pB)
 (ad1:PySem.W.nsIn K mainGlobals "lay" = some (some (.ref Q1)))
 (ad2:FnAt K "lay" "lay" UB Q1)
 (abd:PySem.W.nsIn K mainGlobals "read" = some (some (.ref Ku)))
 (abe:FnAt K "read" "read" Ou Ku)
 (abf:PySem.W.nsIn K mainGlobals "find" = some (some (.ref Kv)))
 (abg:FnAt K "find" "find" Ov Kv)
 (abh:PySem.W.nsIn K mainGlobals "want" = some (some (.ref Kw)))
 (abi:FnAt K "want" "want" Ow Kw)
 (abj:PySem.W.nsIn K mainGlobals "fill" = some (some (.ref Kx)))
 (abk:FnAt K "fill" "fill" Ox Kx)
 (XC:PySem.W.nsIn K mainGlobals "about" = some (some (.ref EE)))
 (XD:FnAt K "about" "about" J9 EE)
 (U2:PySem.W.nsIn K mainGlobals "answer" = some (some (.ref FQ)))
 (U3:FnAt K "answer" "answer" Fl FQ)
 (Na:PySem.W.nsIn K mainGlobals "length_of" = some (some (.ref vC)))
 (Nb:FnAt K "length_of" "length_of" uD vC)
 (Sl:PySem.W.nsIn K mainGlobals "answers" = some (some (.ref Ce)))
 (Sm:FnAt K "answers" "answers" nu Ce)
 (OX:PySem.W.excIn K cT Zs "Exception.__new__" = true)
 (OY:PySem.W.excIn K cU Zs "Exception.__new__" = true)
 (OZ:PySem.W.excIn K cV Zs "Exception.__new__" = true)
 (Gn:PySem.W.excIn K bw Zs "Exception.__new__" = true)
 (K1:PySem.W.excIn K bS Zs "Exception.__new__" = true)
 (zd:PySem.W.exmOne K (.ref cT) (.ref cT)=some true)
 (zf:PySem.W.exmOne K (.ref cT) (.ref cU)=some false)
 (zg:PySem.W.exmOne K (.ref cT) (.ref cV)=some false)
 (sL:PySem.W.exmOne K (.ref cT) (.ref bw)=some false)
 (vH:PySem.W.exmOne K (.ref cT) (.ref bS)=some false)
 (zh:PySem.W.exmOne K (.ref cU) (.ref cT)=some false)
 (zi:PySem.W.exmOne K (.ref cU) (.ref cU)=some true)
 (zj:PySem.W.exmOne K (.ref cU) (.ref cV)=some false)
 (sM:PySem.W.exmOne K (.ref cU) (.ref bw)=some false)
 (vI:PySem.W.exmOne K (.ref cU) (.ref bS)=some false)
 (zk:PySem.W.exmOne K (.ref cV) (.ref cT)=some false)
 (zl:PySem.W.exmOne K (.ref cV) (.ref cU)=some false)
 (zm:PySem.W.exmOne K (.ref cV) (.ref cV)=some true)
 (sN:PySem.W.exmOne K (.ref cV) (.ref bw)=some false)
 (vJ:PySem.W.exmOne K (.ref cV) (.ref bS)=some false)
 (sO:PySem.W.exmOne K (.ref bw) (.ref cT)=some false)
 (sP:PySem.W.exmOne K (.ref bw) (.ref cU)=some false)
 (sQ:PySem.W.exmOne K (.ref bw) (.ref cV)=some false)
 (oA:PySem.W.exmOne K (.ref bw) (.ref bw)=some true)
 (qk:PySem.W.exmOne K (.ref bw) (.ref bS)=some false)
 (vK:PySem.W.exmOne K (.ref bS) (.ref cT)=some false)
 (vL:PySem.W.exmOne K (.ref bS) (.ref cU)=some false)
 (vM:PySem.W.exmOne K (.ref bS) (.ref cV)=some false)
 (qm:PySem.W.exmOne K (.ref bS) (.ref bw)=some false)
 (sR:PySem.W.exmOne K (.ref bS) (.ref bS)=some true)
 (Sn:PySem.W.plainGet K b7 Str.empty=true)
 (So:PySem.W.hasDictIn K b7=true)
 (Sq:PySem.W.plainOver K b7=true)
 (Sr:PySem.W.findIn K (.ref b7) "__setattr__" = some (some (.builtin "object.__setattr__")))
 (nB:PySem.W.makesIn K b7=true)
 (Ss:PySem.W.keepIn K (.ref b7)=true)
 (gO:PySem.W.findIn K (.ref b7) "row" = some none)
 (dQ:PySem.W.findIn K (.ref b7) "at" = some none)
 (abl:PySem.W.plainGet K gF Str.empty=true)
 (abm:PySem.W.hasDictIn K gF=true)
 (abn:PySem.W.plainOver K gF=true)
 (abo:PySem.W.findIn K (.ref gF) "__setattr__" = some (some (.builtin "object.__setattr__")))
 (Kk:PySem.W.makesIn K gF=true)
 (abp:PySem.W.keepIn K (.ref gF)=true)
 (gA:PySem.W.findIn K (.ref gF) "place" = some none)
 (cH:PySem.W.findIn K (.ref gF) "count" = some none)
 (dW:PySem.W.findIn K (.ref gF) "stride" = some none)
 (XE:PySem.W.plainGet K bX Str.empty=true)
 (XF:PySem.W.hasDictIn K bX=true)
 (XG:PySem.W.plainOver K bX=true)
 (XH:PySem.W.findIn K (.ref bX) "__setattr__" = some (some (.builtin "object.__setattr__")))
 (Kl:PySem.W.makesIn K bX=true)
 (XI:PySem.W.keepIn K (.ref bX)=true)
 (n8:PySem.W.findIn K (.ref bX) "cursor" = some none)
 (n9:PySem.W.findIn K (.ref bX) "ground" = some none)
 (jX:PySem.W.findIn K (.ref bX) "kind_told" = some none)
 (jw:PySem.W.findIn K (.ref bX) "place_told" = some none)
 (qa:PySem.W.findIn K (.ref bX) "place" = some none)
 (XJ:PySem.W.plainGet K ft Str.empty=true)
 (XM:PySem.W.hasDictIn K ft=true)
 (XN:PySem.W.plainOver K ft=true)
 (XO:PySem.W.findIn K (.ref ft) "__setattr__" = some (some (.builtin "object.__setattr__")))
 (EB:PySem.W.makesIn K ft=true)
 (XQ:PySem.W.keepIn K (.ref ft)=true)
 (bB:PySem.W.findIn K (.ref ft) "run_wanted" = some none)
 (gL:PySem.W.findIn K (.ref ft) "library" = some none)
 (dF:PySem.W.findIn K (.ref ft) "library_name" = some none)
 (iE:PySem.W.findIn K (.ref ft) "name" = some none)
 (gP:PySem.W.findIn K (.ref ft) "added" = some none)
 (O0:PySem.W.plainGet K aN Str.empty=true)
 (O1:PySem.W.hasDictIn K aN=true)
 (O2:PySem.W.plainOver K aN=true)
 (O3:PySem.W.findIn K (.ref aN) "__setattr__" = some (some (.builtin "object.__setattr__")))
 (r6:PySem.W.makesIn K aN=true)
 (O4:PySem.W.keepIn K (.ref aN)=true)
 (qR:PySem.W.findIn K (.ref aN) "walk_through" = some (some (.ref dh)))
 (sS:PySem.W.findIn K (.ref aN) "check_zeros" = some (some (.ref dB)))
 (vN:PySem.W.findIn K (.ref aN) "tell_kind" = some (some (.ref ef)))
 (zo:PySem.W.findIn K (.ref aN) "go_into" = some (some (.ref gj)))
 (Ck:PySem.W.findIn K (.ref aN) "go_on" = some (some (.ref iI)))
 (oM:PySem.W.findIn K (.ref aN) "do_words_apart" = some (some (.ref cC)))
 (Gp:PySem.W.findIn K (.ref aN) "run" = some (some (.ref kZ)))
 (cR:PySem.W.findIn K (.ref aN) "libraries" = some none)
 (bN:PySem.W.findIn K (.ref aN) "library" = some none)
 (dq:PySem.W.findIn K (.ref aN) "name" = some none)
 (dZ:PySem.W.findIn K (.ref aN) "added" = some none)
 (dJ:PySem.W.findIn K (.ref aN) "wanted" = some none)
 (gW:PySem.W.findIn K (.ref aN) "cursor" = some none)
 (gX:PySem.W.findIn K (.ref aN) "ground" = some none)
 (fo:PySem.W.findIn K (.ref aN) "kind_told" = some none)
 (eQ:PySem.W.findIn K (.ref aN) "place_told" = some none)
 (iF:PySem.W.findIn K (.ref aN) "place" = some none)
 (O5:PySem.W.plainGet K b8 Str.empty=true)
 (O6:PySem.W.hasDictIn K b8=true)
 (O7:PySem.W.plainOver K b8=true)
 (O8:PySem.W.findIn K (.ref b8) "__setattr__" = some (some (.builtin "object.__setattr__")))
 (r9:PySem.W.makesIn K b8=true)
 (O9:PySem.W.keepIn K (.ref b8)=true)
 (aX:PySem.W.findIn K (.ref b8) "place" = some none)
 (cg:PySem.W.findIn K (.ref b8) "size" = some none)
 (cy:PySem.W.findIn K (.ref b8) "source" = some none)
 (bK:PySem.W.findIn K (.ref b8) "filled" = some none)
 (da:PySem.W.findIn K (.ref b8) "rights" = some none)
 (dP:PySem.W.findIn K (.ref b8) "sections" = some none)
 (Nc:PySem.W.plainGet K bY Str.empty=true)
 (Nd:PySem.W.hasDictIn K bY=true)
 (Nf:PySem.W.plainOver K bY=true)
 (Ng:PySem.W.findIn K (.ref bY) "__setattr__" = some (some (.builtin "object.__setattr__")))
 (o9:PySem.W.makesIn K bY=true)
 (Nh:PySem.W.keepIn K (.ref bY)=true)
 (bA:PySem.W.findIn K (.ref bY) "reach" = some none)
 (b6:PySem.W.findIn K (.ref bY) "segments" = some none)
 (bV:PySem.W.findIn K (.ref bY) "libraries" = some none)
 (ba:PySem.W.findIn K (.ref bY) "beginning" = some none)
 (cz:PySem.W.findIn K (.ref bY) "parts" = some none)
 (Su:PySem.W.plainGet K cw Str.empty=true)
 (Sv:PySem.W.hasDictIn K cw=true)
 (Sw:PySem.W.plainOver K cw=true)
 (Sx:PySem.W.findIn K (.ref cw) "__setattr__" = some (some (.builtin "object.__setattr__")))
 (wB:PySem.W.makesIn K cw=true)
 (Sy:PySem.W.keepIn K (.ref cw)=true)
 (dv:PySem.W.findIn K (.ref cw) "segments" = some none)
 (gh:PySem.W.findIn K (.ref cw) "laid" = some none)
 (cE:PySem.W.findIn K (.ref cw) "home" = some none)
 (cS:PySem.W.findIn K (.ref cw) "length" = some none)
 (gM:PySem.W.findIn K (.ref cw) "spans" = some none)
 (HZ:PySem.W.plainGet K b9 Str.empty=true)
 (Ia:PySem.W.hasDictIn K b9=true)
 (Ib:PySem.W.plainOver K b9=true)
 (Ic:PySem.W.findIn K (.ref b9) "__setattr__" = some (some (.builtin "object.__setattr__")))
 (lB:PySem.W.makesIn K b9=true)
 (Ie:PySem.W.keepIn K (.ref b9)=true)
 (df:PySem.W.findIn K (.ref b9) "place" = some none)
 (dw:PySem.W.findIn K (.ref b9) "want" = some none)
 (U4:PySem.W.plainGet K bF Str.empty=true)
 (U5:PySem.W.hasDictIn K bF=true)
 (U6:PySem.W.plainOver K bF=true)
 (U7:PySem.W.findIn K (.ref bF) "__setattr__" = some (some (.builtin "object.__setattr__")))
 (AD:PySem.W.makesIn K bF=true)
 (U8:PySem.W.keepIn K (.ref bF)=true)
 (dO:PySem.W.findIn K (.ref bF) "ground" = some none)
 (fE:PySem.W.findIn K (.ref bF) "base" = some none)
 (eE:PySem.W.findIn K (.ref bF) "beginning" = some none)
 (fF:PySem.W.findIn K (.ref bF) "held" = some none)
 (eZ:PySem.W.findIn K (.ref bF) "mended" = some none)
 (ff:PySem.W.findIn K (.ref bF) "wanted" = some none)
 (eI:PySem.W.findIn K (.ref bF) "names" = some none)
 (Pa:PySem.W.plainGet K aW Str.empty=true)
 (Pb:PySem.W.hasDictIn K aW=true)
 (Pc:PySem.W.plainOver K aW=true)
 (Pd:PySem.W.findIn K (.ref aW) "__setattr__" = some (some (.builtin "object.__setattr__")))
 (sd:PySem.W.makesIn K aW=true)
 (Pe:PySem.W.keepIn K (.ref aW)=true)
 (qS:PySem.W.findIn K (.ref aW) "walk_through" = some (some (.ref dh)))
 (sT:PySem.W.findIn K (.ref aW) "check_zeros" = some (some (.ref dB)))
 (vO:PySem.W.findIn K (.ref aW) "tell_kind" = some (some (.ref ef)))
 (zp:PySem.W.findIn K (.ref aW) "go_into" = some (some (.ref gj)))
 (Cm:PySem.W.findIn K (.ref aW) "go_on" = some (some (.ref iI)))
 (oN:PySem.W.findIn K (.ref aW) "do_words_apart" = some (some (.ref cC)))
 (Gq:PySem.W.findIn K (.ref aW) "run" = some (some (.ref kZ)))
 (dM:PySem.W.findIn K (.ref aW) "mended" = some none)
 (gY:PySem.W.findIn K (.ref aW) "cursor" = some none)
 (gZ:PySem.W.findIn K (.ref aW) "ground" = some none)
 (fq:PySem.W.findIn K (.ref aW) "kind_told" = some none)
 (eU:PySem.W.findIn K (.ref aW) "place_told" = some none)
 (iG:PySem.W.findIn K (.ref aW) "place" = some none)
 (XR:PySem.W.plainGet K ip Str.empty=true)
 (XS:PySem.W.hasDictIn K ip=true)
 (XT:PySem.W.plainOver K ip=true)
 (XU:PySem.W.findIn K (.ref ip) "__setattr__" = some (some (.builtin "object.__setattr__")))
 (AG:PySem.W.makesIn K ip=true)
 (XW:PySem.W.keepIn K (.ref ip)=true)
 (ik:PySem.W.findIn K (.ref ip) "at" = some none)
 (gD:PySem.W.findIn K (.ref ip) "name" = some none)
 (XX:PySem.W.plainGet K iq Str.empty=true)
 (XY:PySem.W.hasDictIn K iq=true)
 (XZ:PySem.W.plainOver K iq=true)
 (X0:PySem.W.findIn K (.ref iq) "__setattr__" = some (some (.builtin "object.__setattr__")))
 (EC:PySem.W.makesIn K iq=true)
 (X1:PySem.W.keepIn K (.ref iq)=true)
 (dX:PySem.W.findIn K (.ref iq) "image" = some none)
 (X2:PySem.W.specialIn K (.ref bX) "__getattribute__" = some (some (.builtin "type.__getattribute__")))
 (X3:PySem.W.readsIn K bX (.type "type")=true)
 (X4:PySem.W.findCls K (.ref bX) (.type "type") "__init__" = some (.val (.ref lS)))
 (Pf:PySem.W.nsIn K mainGlobals "MODULUS" = some (some (.int 18446744073709551616 FR)))
 (Gr:PySem.W.nsIn K mainGlobals "MOST_DIGITS" = some (some (.int 10 vD)))
 (K2:PySem.W.nsIn K mainGlobals "MOST_TEXT" = some (some (.int 255 AS)))
 (X5:PySem.W.nsIn K mainGlobals "WORD" = some (some (.int 8 Q2)))
 (Ig:PySem.W.nsIn K mainGlobals "MOST_WORDS" = some (some (.int 65536 xW)))
 (K3:PySem.W.nsIn K mainGlobals "HEAD_SIZE" = some (some (.int 32 AU)))
 (U9:PySem.W.nsIn K mainGlobals "MAGIC" = some (some (.int 4277009103 MA)))
 (K4:PySem.W.nsIn K mainGlobals "PROCESSOR" = some (some (.int 16777223 AV)))
 (Cn:PySem.W.nsIn K mainGlobals "MOST_COMMANDS" = some (some (.int 256 qK)))
 (Pg:PySem.W.nsIn K mainGlobals "SEGMENT" = some (some (.int 25 FT)))
 (Ph:PySem.W.nsIn K mainGlobals "LIBRARY" = some (some (.int 12 FU)))
 (K5:PySem.W.nsIn K mainGlobals "BEGINNING" = some (some (.int 2147483688 AW)))
 (Va:PySem.W.nsIn K mainGlobals "PARTS" = some (some (.int 2147483682 MB)))
 (X6:PySem.W.nsIn K mainGlobals "PAGE" = some (some (.int 4096 Q3)))
 (Eg:PySem.W.nsIn K mainGlobals "SEGMENT_SIZE" = some (some (.int 72 tH)))
 (Eh:PySem.W.nsIn K mainGlobals "SECTION_SIZE" = some (some (.int 80 tI)))
 (Ei:PySem.W.nsIn K mainGlobals "LIBRARY_NAME" = some (some (.int 24 tJ)))
 (Bj:PySem.W.nsIn K mainGlobals "MOST_LIBRARIES" = some (some (.int 64 pD)))
 (Bk:PySem.W.nsIn K mainGlobals "BEGINNING_SIZE" = some (some (.int 24 pE)))
 (Ih:PySem.W.nsIn K mainGlobals "PARTS_SIZE" = some (some (.int 48 xX)))
 (K6:PySem.W.nsIn K mainGlobals "MOST_LAID" = some (some (.int 16 AX)))
 (Ii:PySem.W.nsIn K mainGlobals "MOST_REACH" = some (some (.int 4194304 xY)))
 (abq:PySem.W.nsIn K mainGlobals "TOP" = some (some (.int 140737488355328 UR)))
 (Pj:PySem.W.nsIn K mainGlobals "WRITTEN" = some (some (.int 2 FV)))
 (K7:PySem.W.nsIn K mainGlobals "MOST_READ" = some (some (.int 4194304 AY)))
 (K8:PySem.W.nsIn K mainGlobals "MOST_FILE" = some (some (.int 1048576 AZ)))
 (qT:PySem.W.nsIn K mainGlobals "STEPS_WITH_N_binding" = some (some (.ref fI)))
 (qU:K.lookup fI=some ⟨.type "tuple",qL,.seq #[.int 1 iM,.int 5 iN,.int 7 iO,.int 11 iP] qM,qN⟩)
 (Ij:PySem.W.nsIn K mainGlobals "FILE_KINDS" = some (some (.ref ou)))
 (Ik:K.lookup ou=some ⟨.type "tuple",Hv,.seq #[.int 2 tK,.int 6 tL,.int 8 tM] Hw,Hx⟩)
 (qV:PySem.W.nsIn K mainGlobals "STEPS_WITH_N_mending" = some (some (.ref fJ)))
 (qW:K.lookup fJ=some ⟨.type "tuple",qO,.seq #[.int 1 iQ,.int 2 iR,.int 4 iS,.int 5 iT] qP,qQ⟩)
 (Vb:PySem.W.nsIn K mainGlobals "CALLS" = some (some (.ref Cf)))
 (Vc:K.lookup Cf=some ⟨.type "tuple",US,.seq #[.ref ED,.ref pB,.ref Q1,.ref Ku,.ref Kv,.ref Kw,.ref Kx,.ref EE] UT,UU⟩)
 (Pk:PySem.W.nsIn K mainGlobals "LENGTHS" = some (some (.ref pC)))
 (Pl:K.lookup pC=some ⟨.type "dict",none,.dict #[⟨0,.int 0 A0,.int 1 A1⟩,⟨2,.int 2 A2,.int 2 A3⟩,⟨3,.int 3 A4,.int 3 A5⟩,⟨5,.int 5 A6,.int 2 A7⟩,⟨6,.int 6 A8,.int 3 A9⟩,⟨7,.int 7 xZ,.int 1 ya⟩] OJ,#[]⟩)
 (Pm:(pC==sysModules)=false)
 (abr:PySem.W.nsIn K mainGlobals "abs" = some none)
 (X7:PySem.W.nsIn K mainGlobals "dict" = some none)
 (abt:PySem.W.nsIn K mainGlobals "len" = some none)
 (X8:PySem.W.nsIn K mainGlobals "list" = some none)
 (abu:PySem.W.nsIn K mainGlobals "max" = some none)
 (abv:PySem.W.nsIn K mainGlobals "min" = some none)
 (Vd:PySem.W.nsIn K mainGlobals "range" = some none)
 (Ni:PySem.W.nsIn K mainGlobals "reversed" = some none)
 (Sz:PySem.W.nsIn K mainGlobals "sorted" = some none)
 (abw:PySem.W.nsIn K mainGlobals "sum" = some none)
 (Ve:PySem.W.nsIn K mainGlobals "tuple" = some none)
 (abx:PySem.W.nsIn K mainGlobals "zip" = some none)
 : ∃a:Ad,Tx K mg a:=⟨⟨⟨cT,cU,cV,bw,bS,b7,gF,bX,ft,aN,b8,bY,cw,b9,bF,aW,ip,iq,FO,vv,yX,lE,kg,lF,jl,jm,dS,lG,sr,m6,fP,m7,vw,qe,oj,FP,vx,qf,lS,dh,dB,ef,gj,iI,cC,kZ,pj,kh,fQ,gG,fR,vy,ki,jn,sv,om,oo,k7,Ca,sx,oq,qg,lH,g9,fu,Cb,Cc,Cd,vz,qh,vA,yY,sy,hU,m8,px,m9,fS,fT,fU,fV,ng,lI,kj,gH,fW,vB,pz,sE,qi,qj,yZ,ot,y2,pA,gI,ED,pB,Q1,Ku,Kv,Kw,Kx,EE,FQ,vC,Ce,fI,ou,fJ,Cf,pC⟩,fun _=>True⟩,{Mp:=UZ.fa fun _ _ _ _ _ _ us hl=>match us,hl with | [_],_=>rfl,aA:=PySem.W.mg_of X G UY,CQ:=ME.fa fun _ _ _ _ _ _ us hl=>match us,hl with | [_,_,_],_=>rfl,a7:=PySem.W.mg_of X G MD,Fv:=OM.fa fun _ _ _ _ _ _ us hl=>match us,hl with | [_,_],_=>rfl,yQ:=PySem.W.mg_of X G OL,xy:=HB.fa fun _ _ _ _ _ _ us hl=>match us,hl with | [_,_,_],_=>rfl,uW:=vE.fa fun _ _ _ _ _ _ us hl=>match us,hl with | [_],_=>rfl,xA:=yb.fa fun _ _ _ _ _ _ us hl=>match us,hl with | [_],_=>rfl,tD:=tN.fa fun _ _ _ _ _ _ us hl=>match us,hl with | [_],_=>rfl,tE:=tO.fa fun _ _ _ _ _ _ us hl=>match us,hl with | [_],_=>rfl,jU:=kl.fa fun _ _ _ _ _ _ us hl=>match us,hl with | [_],_=>rfl,xB:=yd.fa fun _ _ _ _ _ _ us hl=>match us,hl with | [_],_=>rfl,Fw:=OP.fa fun _ _ _ _ _ _ us hl=>match us,hl with | [_,_,_,_],_=>rfl,Ah:=Ba.fa fun _ _ _ _ _ _ us hl=>match us,hl with | [_],_=>rfl,mq:=mP.fa fun _ _ _ _ _ _ us hl=>match us,hl with | [_,_],_=>rfl,Ai:=Bb.fa fun _ _ _ _ _ _ us hl=>match us,hl with | [_],_=>rfl,CS:=MG.fa fun _ _ _ _ _ _ us hl=>match us,hl with | [_,_],_=>rfl,CT:=PySem.W.mg_of X G MF,xC:=HH.fa fun _ _ _ _ _ _ us hl=>match us,hl with | [_,_],_=>rfl,p8:=PySem.W.mg_of X G HG,uX:=FZ.fa fun _ _ _ _ _ _ us hl=>match us,hl with | [_,_],_=>rfl,uY:=PySem.W.mg_of X G FY,Mq:=U1.fa fun _ _ _ _ _ _ us hl=>match us,hl with | [_,_,_,_],_=>rfl,Mr:=PySem.W.mg_of X G U0,CU:=MJ.fa fun _ _ _ _ _ _ us hl=>match us,hl with | [_],_=>rfl,uZ:=PySem.W.mg_of X G MH,xD:=HJ.fa fun _ _ _ _ _ _ us hl=>match us,hl with | [_,_],_=>rfl,xE:=PySem.W.mg_of X G HI,CV:=MM.fa fun _ _ _ _ _ _ us hl=>match us,hl with | [_,_,_],_=>rfl,mr:=fX.fa fun _ _ _ _ _ _ us hl=>match us,hl with | [_],_=>rfl,nW:=gJ.fa fun _ _ _ _ _ _ us hl=>match us,hl with | [_],_=>rfl,qz:=iJ.fa fun _ _ _ _ _ _ us hl=>match us,hl with | [_,_],_=>rfl,u0:=km.fa fun _ _ _ _ _ _ us hl=>match us,hl with | [_,_],_=>rfl,Aj:=nh.fa fun _ _ _ _ _ _ us hl=>match us,hl with | [_,_],_=>rfl,kD:=eV.fa fun _ _ _ _ _ _ us hl=>match us,hl with | [_],_=>rfl,Fx:=sJ.fa fun _ _ _ _ _ _ us hl=>match us,hl with | [_,_,_],_=>rfl,CW:=MP.fa fun _ _ _ _ _ _ us hl=>match us,hl with | [_,_,_,_,_,_],_=>rfl,u1:=F5.fa fun _ _ _ _ _ _ us hl=>match us,hl with | [_,_,_,_],_=>rfl,mv:=mQ.fa fun _ _ _ _ _ _ us hl=>match us,hl with | [_],_=>rfl,nX:=ox.fa fun _ _ _ _ _ _ us hl=>match us,hl with | [_,_,_],_=>rfl,mw:=mR.fa fun _ _ _ _ _ _ us hl=>match us,hl with | [_,_,_],_=>rfl,CY:=MR.fa fun _ _ _ _ _ _ us hl=>match us,hl with | [_,_,_],_=>rfl,CZ:=PySem.W.mg_of X G MQ,u3:=F8.fa fun _ _ _ _ _ _ us hl=>match us,hl with | [_,_],_=>rfl,tF:=Ef.fa fun _ _ _ _ _ _ us hl=>match us,hl with | [_],_=>rfl,Ak:=KI.fa fun _ _ _ _ _ _ us hl=>match us,hl with | [_],_=>rfl,Al:=PySem.W.mg_of X G KH,u4:=Ga.fa fun _ _ _ _ _ _ us hl=>match us,hl with | [_,_,_],_=>rfl,u5:=PySem.W.mg_of X G F9,u6:=Gd.fa fun _ _ _ _ _ _ us hl=>match us,hl with | [_,_],_=>rfl,u7:=PySem.W.mg_of X G Gb,qA:=Cj.fa fun _ _ _ _ _ _ us hl=>match us,hl with | [_,_],_=>rfl,qB:=PySem.W.mg_of X G Ci,Jk:=Se.fa fun _ _ _ _ _ _ us hl=>match us,hl with | [_,_,_],_=>rfl,Jl:=PySem.W.mg_of X G Sd,Am:=KL.fa fun _ _ _ _ _ _ us hl=>match us,hl with | [_,_,_],_=>rfl,An:=PySem.W.mg_of X G KJ,u9:=Gf.fa fun _ _ _ _ _ _ us hl=>match us,hl with | [_,_,_],_=>rfl,vc:=PySem.W.mg_of X G Ge,xF:=HL.fa fun _ _ _ _ _ _ us hl=>match us,hl with | [_],_=>rfl,xG:=PySem.W.mg_of X G HK,xH:=HP.fa fun _ _ _ _ _ _ us hl=>match us,hl with | [_,_,_],_=>rfl,oY:=pF.fa fun _ _ _ _ _ _ us hl=>match us,hl with | [_,_],_=>rfl,lO:=lT.fa fun _ _ _ _ _ _ us hl=>match us,hl with | [_,_],_=>rfl,Jm:=Sg.fa fun _ _ _ _ _ _ us hl=>match us,hl with | [_,_],_=>rfl,Jn:=PySem.W.mg_of X G Sf,Jo:=Si.fa fun _ _ _ _ _ _ us hl=>match us,hl with | [_],_=>rfl,B0:=PySem.W.mg_of X G Sh,Jp:=Sk.fa fun _ _ _ _ _ _ us hl=>match us,hl with | [_],_=>rfl,Jq:=PySem.W.mg_of X G Sj,C7:=MT.fa fun _ _ _ _ _ _ us hl=>match us,hl with | [_],_=>rfl,Dc:=PySem.W.mg_of X G MS,xI:=HR.fa fun _ _ _ _ _ _ us hl=>match us,hl with | [_,_],_=>rfl,xJ:=PySem.W.mg_of X G HQ,Dd:=MV.fa fun _ _ _ _ _ _ us hl=>match us,hl with | [_],_=>rfl,De:=PySem.W.mg_of X G MU,Fy:=OS.fa fun _ _ _ _ _ _ us hl=>match us,hl with | [_,_,_],_=>rfl,yR:=PySem.W.mg_of X G OR,Ao:=KO.fa fun _ _ _ _ _ _ us hl=>match us,hl with | [_],_=>rfl,rZ:=PySem.W.mg_of X G KN,oZ:=Bg.fa fun _ _ _ _ _ _ us hl=>match us,hl with | [_,_,_],_=>rfl,Ap:=KR.fa fun _ _ _ _ _ _ us hl=>match us,hl with | [_,_,_,_,_,_,_],_=>rfl,Df:=Dv.fa fun _ _ _ _ _ _ us hl=>match us,hl with | [_,_],_=>rfl,Aq:=Bh.fa fun _ _ _ _ _ _ us hl=>match us,hl with | [_,_,_],_=>rfl,mx:=mS.fa fun _ _ _ _ _ _ us hl=>match us,hl with | [_,_],_=>rfl,my:=mT.fa fun _ _ _ _ _ _ us hl=>match us,hl with | [_,_],_=>rfl,mz:=mU.fa fun _ _ _ _ _ _ us hl=>match us,hl with | [_,_],_=>rfl,mB:=mV.fa fun _ _ _ _ _ _ us hl=>match us,hl with | [_,_],_=>rfl,Ar:=Bi.fa fun _ _ _ _ _ _ us hl=>match us,hl with | [_,_,_],_=>rfl,xK:=yf.fa fun _ _ _ _ _ _ us hl=>match us,hl with | [_],_=>rfl,vd:=Gi.fa fun _ _ _ _ _ _ us hl=>match us,hl with | [_,_,_],_=>rfl,nY:=oy.fa fun _ _ _ _ _ _ us hl=>match us,hl with | [_,_,_],_=>rfl,mC:=mW.fa fun _ _ _ _ _ _ us hl=>match us,hl with | [_,_,_],_=>rfl,Dg:=M0.fa fun _ _ _ _ _ _ us hl=>match us,hl with | [_,_],_=>rfl,Dh:=PySem.W.mg_of X G MZ,Di:=M4.fa fun _ _ _ _ _ _ us hl=>match us,hl with | [_,_,_],_=>rfl,As:=K0.fa fun _ _ _ _ _ _ us hl=>match us,hl with | [_,_,_,_],_=>rfl,Au:=PySem.W.mg_of X G KZ,xM:=HW.fa fun _ _ _ _ _ _ us hl=>match us,hl with | [_,_],_=>rfl,xN:=PySem.W.mg_of X G HV,xO:=HY.fa fun _ _ _ _ _ _ us hl=>match us,hl with | [_,_],_=>rfl,xP:=PySem.W.mg_of X G HX,Fz:=OU.fa fun _ _ _ _ _ _ us hl=>match us,hl with | [_],_=>rfl,FC:=PySem.W.mg_of X G OT,ve:=Gk.fa fun _ _ _ _ _ _ us hl=>match us,hl with | [_],_=>rfl,vf:=PySem.W.mg_of X G Gj,FD:=OW.fa fun _ _ _ _ _ _ us hl=>match us,hl with | [_],_=>rfl,FE:=PySem.W.mg_of X G OV,Dj:=M7.fa fun _ _ _ _ _ _ us hl=>match us,hl with | [_],_=>rfl,nZ:=oz.fa fun _ _ _ _ _ _ us hl=>match us,hl with | [_],_=>rfl,QU:=XB.fa fun _ _ _ _ _ _ us hl=>match us,hl with | [_,_],_=>rfl,Xw:=PySem.W.mg_of X G XA,Dk:=M9.fa fun _ _ _ _ _ _ us hl=>match us,hl with | [_,_],_=>rfl,Ms:=PySem.W.mg_of X G M8,Zy:=ad2.fa fun _ _ _ _ _ _ us hl=>match us,hl with | [_,_],_=>rfl,adY:=PySem.W.mg_of X G ad1,UE:=abe.fa fun _ _ _ _ _ _ us hl=>match us,hl with | [_,_],_=>rfl,aa5:=PySem.W.mg_of X G abd,UG:=abg.fa fun _ _ _ _ _ _ us hl=>match us,hl with | [_,_],_=>rfl,aa6:=PySem.W.mg_of X G abf,UH:=abi.fa fun _ _ _ _ _ _ us hl=>match us,hl with | [_,_],_=>rfl,aa7:=PySem.W.mg_of X G abh,UI:=abk.fa fun _ _ _ _ _ _ us hl=>match us,hl with | [_,_],_=>rfl,aa8:=PySem.W.mg_of X G abj,QV:=XD.fa fun _ _ _ _ _ _ us hl=>match us,hl with | [_,_],_=>rfl,Xx:=PySem.W.mg_of X G XC,Mt:=U3.fa fun _ _ _ _ _ _ us hl=>match us,hl with | [_,_],_=>rfl,Mu:=PySem.W.mg_of X G U2,Dl:=Nb.fa fun _ _ _ _ _ _ us hl=>match us,hl with | [_,_],_=>rfl,Dm:=PySem.W.mg_of X G Na,B3:=Sm.fa fun _ _ _ _ _ _ us hl=>match us,hl with | [_],_=>rfl,Jr:=PySem.W.mg_of X G Sl,B4:=⟨PySem.W.mg_of X G R6,OX⟩,qC:=⟨PySem.W.mg_of X G R7,OY⟩,B5:=⟨PySem.W.mg_of X G R8,OZ⟩,p9:=⟨PySem.W.mg_of X G Hy,Gn⟩,vg:=⟨PySem.W.mg_of X G MC,K1⟩,o3:=zd,Av:=zf,Aw:=zg,tV:=sL,wL:=vH,o4:=zh,o5:=zi,Ax:=zj,tW:=sM,wM:=vI,o6:=zk,o7:=zl,o8:=zm,tX:=sN,wO:=vJ,kF:=sO,kG:=sP,kH:=sQ,iL:=oA,qD:=qk,mD:=vK,mE:=vL,mF:=vM,jz:=qm,kI:=sR,Ay:=PySem.W.mg_of X G UW,aL:=⟨Sn,So,Sq,Sr⟩,nB:=⟨nB,Hz,HA,Ss⟩,jV:=⟨FW,FX,vE.kp⟩,fB:=⟨HC,HD,yb.kp⟩,mi:=⟨D9,Ea,tN.kp⟩,bp:=⟨Eb,Ec,tO.kp⟩,jW:=⟨sF,sG,kl.kp⟩,lA:=⟨HE,HF,yd.kp⟩,gO:=gO,dQ:=dQ,Zz:=PySem.W.mg_of X G ad0,dR:=⟨abl,abm,abn,abo⟩,Kk:=⟨Kk,ON,OO,abp⟩,Az:=⟨Kz,KA,Ba.kp⟩,fO:=⟨wV,wW,mP.kp⟩,AA:=⟨KC,KD,Bb.kp⟩,gA:=gA,cH:=cH,dW:=dW,OE:=PySem.W.mg_of X G aa9,Xy:=⟨XE,XF,XG,XH⟩,Kl:=⟨Kl,MK,ML,XI⟩,wQ:=⟨wX,jc,fX.kp⟩,yS:=⟨y3,jx,gJ.kp⟩,B6:=⟨Cg,k9,iJ.kp⟩,FF:=⟨F2,ow,km.kp⟩,Km:=⟨KG,sI,nh.kp⟩,tY:=⟨t4,gT,eV.kp⟩,OF:=⟨OQ,y4,sJ.kp⟩,n8:=n8,n9:=n9,jX:=jX,jw:=jw,qa:=qa,UJ:=PySem.W.mg_of X G aba,eP:=⟨XJ,XM,XN,XO⟩,EB:=⟨EB,MN,MO,XQ⟩,bB:=bB,gL:=gL,dF:=dF,iE:=iE,gP:=gP,Js:=PySem.W.mg_of X G R9,aQ:=⟨O0,O1,O2,O3⟩,r6:=⟨r6,F3,F4,O4⟩,mG:=⟨wY,wZ,mQ.kp⟩,eB:=⟨y6,y8,ox.kp⟩,mH:=⟨w6,w8,mR.kp⟩,gB:=⟨qR,jc,fX.kp⟩,kJ:=⟨sS,jx,gJ.kp⟩,i8:=⟨vN,k9,iJ.kp⟩,jY:=⟨zo,ow,km.kp⟩,mj:=⟨Ck,sI,nh.kp⟩,fC:=⟨oM,gT,eV.kp⟩,qb:=⟨Gp,y4,sJ.kp⟩,cR:=cR,bN:=bN,dq:=dq,dZ:=dZ,dJ:=dJ,gW:=gW,gX:=gX,fo:=fo,eQ:=eQ,iF:=iF,Jt:=PySem.W.mg_of X G Sa,aG:=⟨O5,O6,O7,O8⟩,r9:=⟨r9,F6,F7,O9⟩,aX:=aX,cg:=cg,cy:=cy,bK:=bK,da:=da,dP:=dP,FG:=PySem.W.mg_of X G OK,aM:=⟨Nc,Nd,Nf,Ng⟩,o9:=⟨o9,Ed,Ee,Nh⟩,bA:=bA,b6:=b6,bV:=bV,ba:=ba,cz:=cz,Mv:=PySem.W.mg_of X G UX,bH:=⟨Su,Sv,Sw,Sx⟩,wB:=⟨wB,HM,HN,Sy⟩,pb:=⟨Bc,Bd,pF.kp⟩,lP:=⟨vF,vG,lT.kp⟩,dv:=dv,gh:=gh,cE:=cE,cS:=cS,gM:=gM,AB:=PySem.W.mg_of X G Ky,fD:=⟨HZ,Ia,Ib,Ic⟩,lB:=⟨lB,Be,Bf,Ie⟩,df:=df,dw:=dw,QW:=PySem.W.mg_of X G Xz,a9:=⟨U4,U5,U6,U7⟩,AD:=⟨AD,KP,KQ,U8⟩,Dn:=⟨MW,MY,Dv.kp⟩,AE:=⟨KS,KU,Bh.kp⟩,mI:=⟨w9,xc,mS.kp⟩,mK:=⟨xf,xg,mT.kp⟩,i9:=⟨xh,xi,mU.kp⟩,mL:=⟨xj,xk,mV.kp⟩,AF:=⟨KW,KY,Bi.kp⟩,xQ:=⟨HS,HU,yf.kp⟩,dO:=dO,fE:=fE,eE:=eE,fF:=fF,eZ:=eZ,ff:=ff,eI:=eI,Ju:=PySem.W.mg_of X G Sb,cM:=⟨Pa,Pb,Pc,Pd⟩,sd:=⟨sd,Gg,Gh,Pe⟩,eJ:=⟨y9,za,oy.kp⟩,mM:=⟨xm,xn,mW.kp⟩,gC:=⟨qS,jc,fX.kp⟩,kK:=⟨sT,jx,gJ.kp⟩,ja:=⟨vO,k9,iJ.kp⟩,jZ:=⟨zp,ow,km.kp⟩,ji:=⟨Cm,sI,nh.kp⟩,fG:=⟨oN,gT,eV.kp⟩,qc:=⟨Gq,y4,sJ.kp⟩,dM:=dM,gY:=gY,gZ:=gZ,fq:=fq,eU:=eU,iG:=iG,OG:=PySem.W.mg_of X G abb,lC:=⟨XR,XS,XT,XU⟩,AG:=⟨AG,M1,M3,XW⟩,ik:=ik,gD:=gD,UK:=PySem.W.mg_of X G abc,jj:=⟨XX,XY,XZ,X0⟩,EC:=⟨EC,M5,M6,X1⟩,cN:=⟨zb,zc,oz.kp⟩,dX:=dX,Kn:=⟨X2,X3,X4⟩,gQ:=⟨FR,PySem.W.mg_of X G Pf⟩,xR:=⟨vD,PySem.W.mg_of X G Gr⟩,pd:=⟨AS,PySem.W.mg_of X G K2⟩,mm:=⟨Q2,PySem.W.mg_of X G X5⟩,AH:=⟨xW,PySem.W.mg_of X G Ig⟩,lQ:=⟨AU,PySem.W.mg_of X G K3⟩,QX:=⟨MA,PySem.W.mg_of X G U9⟩,Dp:=⟨AV,PySem.W.mg_of X G K4⟩,tG:=⟨qK,PySem.W.mg_of X G Cn⟩,Jv:=⟨FT,PySem.W.mg_of X G Pg⟩,Jw:=⟨FU,PySem.W.mg_of X G Ph⟩,Dq:=⟨AW,PySem.W.mg_of X G K5⟩,QY:=⟨MB,PySem.W.mg_of X G Va⟩,FH:=⟨Q3,PySem.W.mg_of X G X6⟩,vh:=⟨tH,PySem.W.mg_of X G Eg⟩,vi:=⟨tI,PySem.W.mg_of X G Eh⟩,j7:=⟨tJ,PySem.W.mg_of X G Ei⟩,qE:=⟨pD,PySem.W.mg_of X G Bj⟩,qF:=⟨pE,PySem.W.mg_of X G Bk⟩,AI:=⟨xX,PySem.W.mg_of X G Ih⟩,Dr:=⟨AX,PySem.W.mg_of X G K6⟩,se:=⟨xY,PySem.W.mg_of X G Ii⟩,UL:=⟨UR,PySem.W.mg_of X G abq⟩,Jx:=⟨FV,PySem.W.mg_of X G Pj⟩,Ds:=⟨AY,PySem.W.mg_of X G K7⟩,Dt:=⟨AZ,PySem.W.mg_of X G K8⟩,c8:=PySem.W.mg_of X G qT,j8:=fun H=>.inr ⟨_,_,_,qU,rfl,rfl,by show 4≤sizeLine;decide,.cons ⟨iM,rfl⟩ (.cons ⟨iN,rfl⟩ (.cons ⟨iO,rfl⟩ (.cons ⟨iP,rfl⟩ (.nil))))⟩,jT:=PySem.W.mg_of X G Ij,AJ:=fun H=>.inr ⟨_,_,_,Ik,rfl,rfl,by show 3≤sizeLine;decide,.cons ⟨tK,rfl⟩ (.cons ⟨tL,rfl⟩ (.cons ⟨tM,rfl⟩ (.nil)))⟩,c9:=PySem.W.mg_of X G qV,j9:=fun H=>.inr ⟨_,_,_,qW,rfl,rfl,by show 4≤sizeLine;decide,.cons ⟨iQ,rfl⟩ (.cons ⟨iR,rfl⟩ (.cons ⟨iS,rfl⟩ (.cons ⟨iT,rfl⟩ (.nil))))⟩,oX:=PySem.W.mg_of X G Vb,QZ:=fun H=>.inr ⟨_,_,_,Vc,rfl,rfl,by show 8≤sizeLine;decide,.cons rfl (.cons rfl (.cons rfl (.cons rfl (.cons rfl (.cons rfl (.cons rfl (.cons rfl (.nil))))))))⟩,nA:=PySem.W.mg_of X G Pk,yT:=⟨⟨_,_,Pl,.cons ⟨⟨A0,rfl⟩,rfl,A1,rfl⟩ (.cons ⟨⟨A2,rfl⟩,rfl,A3,rfl⟩ (.cons ⟨⟨A4,rfl⟩,rfl,A5,rfl⟩ (.cons ⟨⟨A6,rfl⟩,rfl,A7,rfl⟩ (.cons ⟨⟨A8,rfl⟩,rfl,A9,rfl⟩ (.cons ⟨⟨xZ,rfl⟩,rfl,ya,rfl⟩ (.nil))))))⟩,Pm,by decide⟩,UM:=PySem.W.mg_none_of X G abr,UN:=PySem.W.mg_none_of X G X7,eL:=PySem.W.mg_none_of X G abt,OH:=PySem.W.mg_none_of X G X8,ZA:=PySem.W.mg_none_of X G abu,UO:=PySem.W.mg_none_of X G abv,sf:=PySem.W.mg_none_of X G Vd,yU:=PySem.W.mg_none_of X G Ni,Mw:=PySem.W.mg_none_of X G Sz,Q0:=PySem.W.mg_none_of X G abw,Ko:=PySem.W.mg_none_of X G Ve,UP:=PySem.W.mg_none_of X G abx}⟩
end MI
namespace MI
open PySem L2
def bv (b:List UInt8):List V:=b.map fun c=>V.int (c.toNat:Int)
theorem br (b:List UInt8):(bv b).length=b.length:=List.length_map ..
theorem zq {b:List UInt8} {i:Nat}:(bv b)[i]?=(b[i]?).map fun c=>V.int (c.toNat:Int):=List.getElem?_map ..
theorem Q4 (n i j:Nat):HT.Hk n 0 (some (i:Int))=min i n∧HT.Hk n n (some ((i:Int)+(j:Int)))=min (i+j) n :=
 ⟨HT.zP n 0 i,by rw[show(i:Int)+(j:Int)=((i+j:Nat):Int) by omega];exact HT.zP n n (i+j)⟩
theorem Il {α:Type} (l:List α) (i j:Nat):(l.drop (min i l.length)).take (min (i+j) l.length-min i l.length)=(l.drop i).take j:=by
 by_cases h:i≤l.length
 ·rw[Nat.min_eq_left h]
  by_cases h2:i+j≤l.length
  ·rw[Nat.min_eq_left h2,Nat.add_sub_cancel_left]
  ·rw[Nat.min_eq_right (by omega),List.take_of_length_le (by rw[List.length_drop];omega),List.take_of_length_le (by rw[List.length_drop];omega)]
 ·rw[Nat.min_eq_right (by omega),Nat.min_eq_right (by omega),List.drop_of_length_le (Nat.le_refl _),List.drop_of_length_le (by omega)]
  simp
theorem Q5 {α:Type} (f:α→V) (l:List α) (i j:Nat):zQ (l.map f) (some (i:Int)) (some ((i:Int)+(j:Int)))=((l.drop i).take j).map f:=by
 unfold zQ
 have e:=Il (l.map f) i j
 rw[(Q4 _ i j).1,(Q4 _ i j).2,e,List.map_take,List.map_drop]
theorem K9 (b:List UInt8) (i j:Nat):zQ (bv b) (some (i:Int)) (some ((i:Int)+(j:Int)))=bv ((b.drop i).take j):=Q5 _ b i j
section
variable {g:Gm} {a:Ad}
theorem aB (T:Tx g.K g.mg a):Pr g 1 a.OC ["held"] (zY a.aE):=by
 refine Pr.on T.Mp RX fun cF A outer s H vs Q E hr h=>?_
 obtain⟨b,rfl,k⟩:=h
 refine⟨_,ag (dk (JW (jG (pv 0) (fun _=>rfl))) (ag (nH T.qC rfl rC rfl)) gw),?_⟩
 refine⟨_,rfl,b,rfl,?_⟩
 cases b with
 |true=>exact eg k
 |false=>exact iA k
def Pn:Sp:=fun vs H Q E=>∃(r:Addr) (b:List UInt8) (i n:Nat),vs=[.ref r,.int i,.int n]∧H r=some (.lst (bv b))∧∀H',ax H H'→Q (.int (Rc31.num b i n:Nat)) H'
def Vf (b:List UInt8):Nat:=b.foldr (fun c x=>c.toNat+256*x) 0
theorem cp (T:Tx g.K g.mg a):Pr g 1 a.BN ["row","at","size"] Pn:=by
 refine Pr.on T.CQ mZ fun cF A outer s H vs Q E hr h=>?_
 obtain⟨r,b,i,n,rfl,hb,k⟩:=h
 refine⟨_,ae (aI (i:=3) mZ.nd rfl (Or.inl rfl) ak)
  (ae (l7 tU rfl (CN rfl T.yU (aa (jH mX (pv 0) (gV (pv 1)) (gV (aO ck (pv 1) (pv 2)))) ai)) (dH (i:=4) mZ.nd rfl (Or.inl rfl))
   (ag (aI (i:=3) mZ.nd rfl (Or.inl rfl) (aO ck (aO yp (pv 3) ak) (pv 4)))))
  (ag (aS (pv 3)))),?_⟩
 refine⟨_,rfl,_,rfl,_,rfl,_,rfl,_,rfl,_,_,rfl,rfl,_,rfl,r,_,rfl,bO.of hb,fun p hp=>?_⟩
 rw[K9]
 have s1:ax H (upd H p (.lst (bv ((b.drop i).take n)))):=ax.upd hp
 refine⟨p,_,rfl,bO.of af,QS (K:=g.K) (a:=p) (xs:=bv ((b.drop i).take n)) (fun j σ H2=>∃v,σ=[some (.ref r),some (.int i),some (.int n),some (.int (Vf (((b.drop i).take n).drop j):Nat)),v]∧H2=upd H p (.lst (bv ((b.drop i).take n))))
  ⟨none,?_,rfl⟩ (fun j σ H2 _ ⟨_,_,e⟩=>by rw[e];exact bO.of af) ?_ ?_⟩
 ·rw[br,List.drop_of_length_le (Nat.le_refl _)]
  rfl
 ·rintro j x σ H2 hx ⟨v,rfl,rfl⟩
  rw[zq]at hx
  cases e:((b.drop i).take n)[j]? with
  |none=>rw[e]at hx;cases hx
  |some c =>
   rw[e]at hx
   obtain rfl:V.int (c.toNat:Int)=x:=Option.some.inj hx
   refine⟨_,rfl,_,_,rfl,rfl,.inr ⟨by decide,by decide⟩,_,rfl,_,_,rfl,rfl,?_⟩
   refine⟨some (.int (c.toNat:Int)),?_,rfl⟩
   obtain⟨hj,e'⟩:=List.getElem?_eq_some_iff.mp e
   have e2:Vf (((b.drop i).take n).drop j)=c.toNat+256*Vf (((b.drop i).take n).drop (j+1)):=by
    rw[List.drop_eq_getElem_cons hj,e']
    rfl
   rw[e2]
   have e3:((Vf (((b.drop i).take n).drop (j+1)):Nat):Int)*256+(c.toNat:Int)=((c.toNat+256*Vf (((b.drop i).take n).drop (j+1)):Nat):Int):=by omega
   rw[←e3]
   rfl
 ·rintro σ H2 ⟨v,rfl,rfl⟩
  exact⟨_,rfl,k _ s1⟩
def fv (ds:List Nat) (z:Int):Int:=ds.foldr (fun(c:Nat) (x:Int)=>(c:Int)+128*x) z
def nv (ds:List Nat):List V:=ds.map fun(d:Nat)=>V.int (d:Int)
theorem lg (b:List Nat):(nv b).length=b.length:=List.length_map ..
theorem Vg {b:List Nat} {i:Nat}:(nv b)[i]?=(b[i]?).map fun(c:Nat)=>V.int (c:Int):=List.getElem?_map ..
def SA:Sp:=fun vs H Q E=>∃(r:Addr) (ds:List Nat) (z:Int),vs=[.ref r,.int z]∧H r=some (.lst (nv ds))∧Q (.int (fv ds z)) H
theorem Dw (T:Tx g.K g.mg a):Pr g 1 a.Fq ["digits","beginning"] SA:=by
 refine Pr.on T.Fv oW fun cF A outer s H vs Q E hr h=>?_
 obtain⟨r,b,z,rfl,hb,k⟩:=h
 refine⟨_,ae (aI (i:=2) oW.nd rfl (Or.inl rfl) (pv 1))
  (ae (l7 tU rfl (CN rfl T.yU (aa (pv 0) ai)) (dH (i:=3) oW.nd rfl (Or.inl rfl))
   (ag (aI (i:=2) oW.nd rfl (Or.inl rfl) (aO ck (aO yp (pv 2) ak) (pv 3)))))
  (ag (aS (pv 2)))),?_⟩
 refine⟨_,rfl,_,rfl,r,_,rfl,bO.of hb,QS (K:=g.K) (a:=r) (xs:=nv b) (fun j σ H2=>∃v,σ=[some (.ref r),some (.int z),some (.int (fv (b.drop j) z)),v]∧H2=H)
  ⟨none,?_,rfl⟩ (fun j σ H2 _ ⟨_,_,e⟩=>by rw[e];exact bO.of hb) ?_ ?_⟩
 ·rw[lg,List.drop_of_length_le (Nat.le_refl _)]
  rfl
 ·rintro j x σ H2 hx ⟨v,rfl,rfl⟩
  rw[Vg]at hx
  cases e:b[j]? with
  |none=>rw[e]at hx;cases hx
  |some c =>
   rw[e]at hx
   obtain rfl:V.int (c:Int)=x:=Option.some.inj hx
   refine⟨_,rfl,_,_,rfl,rfl,.inr ⟨by decide,by decide⟩,_,rfl,_,_,rfl,rfl,?_⟩
   refine⟨some (.int (c:Int)),?_,rfl⟩
   obtain⟨hj,e'⟩:=List.getElem?_eq_some_iff.mp e
   have e2:fv (b.drop j) z=fv (b.drop (j+1)) z*128+(c:Int):=by
    rw[List.drop_eq_getElem_cons hj,e']
    show(c:Int)+128*fv (b.drop (j+1)) z=_
    omega
   rw[e2]
   rfl
 ·rintro σ H2 ⟨v,rfl,rfl⟩
  exact⟨_,rfl,k⟩
def oB (C:Addr) (H:Hp) (c r:Addr) (i:Nat):Prop:=∃dx,H c=some (.ins C dx (bW (.ref r) (.int (i:Int))))
def La (C:Addr):Sp:=fun vs H Q E=>∃(c dx r:Addr) (i:Nat),vs=[.ref c,.ref r,.int i]∧H c=some (.ins C dx [])∧∀H',oB C H' c r i→Kp (At c) H H'→Q .de H'
theorem oC (T:Tx g.K g.mg a):Pr g 1 a.uL ["self","row","at"] (La a.bz):=by
 refine Pr.on T.xy Fm fun cF A outer s H vs Q E hr h=>?_
 obtain⟨c,dx,r,i,rfl,hc,k⟩:=h
 refine⟨_,ae (aT (pv 0) (pv 1) rfl) (ag (aT (pv 0) (pv 2) rfl)),?_⟩
 refine⟨_,rfl,_,rfl,c,_,dx,_,rfl,hc,T.aL,T.gO,(by show 0<1000;decide),_,rfl,_,rfl,c,_,dx,_,rfl,af,T.aL,T.dQ,(by show 1<1000;decide),?_⟩
 rw[bM,Mx]
 exact k _ ⟨dx,af⟩ (Kp.upd (.inl rfl))
def X9 (C:Addr):Sp:=fun vs H Q E=>∃(c r:Addr) (b:List UInt8) (i:Nat),vs=[.ref c]∧oB C H c r i∧H r=some (.lst (bv b))∧Q (.bl (decide (b.length≤i))) H
theorem mn (T:Tx g.K g.mg a):Pr g 1 a.rP ["self"] (X9 a.bz):=by
 refine Pr.on T.uW DL fun cF A outer s H vs Q E hr h=>?_
 obtain⟨c,r,b,i,rfl,⟨dx,hc⟩,hb,k⟩:=h
 refine⟨_,ag (aS (aH zN (ar (pv 0) rfl) (aV aJ (by rfl) T.eL PySem.boot_len (aa (ar (pv 0) rfl) ai)) (aC _))),?_⟩
 refine⟨_,rfl,c,_,dx,_,_,rfl,hc,T.aL,T.dQ,lR,_,rfl,c,_,dx,_,_,rfl,hc,T.aL,T.gO,si,r,_,rfl,.inl (bO.of hb),_,_,rfl,rfl,?_⟩
 show Q (V.bl (decide (((bv b).length:Int)≤(i:Int)))) H
 have e:decide (((bv b).length:Int)≤(i:Int))=decide (b.length≤i):=by rw[br];simp
 rw[e]
 exact k
def Vh {α:Type} (a:Ad) (f:List UInt8→Option (α×List UInt8)) (R:Hp→Hp→α→V→Prop):Sp:=fun vs H Q E=>∃(c r:Addr) (b:List UInt8) (i:Nat),vs=[.ref c]∧oB a.bz H c r i∧H r=some (.lst (bv b)) ∧
 (f (b.drop i)=none→∀H',Kp (At c) H H'→E (.ref a.aE) none H') ∧
 ∀x rest,f (b.drop i)=some (x,rest)→∀v H' i',R H H' x v→oB a.bz H' c r i'→i<i'→i'≤b.length→b.drop i'=rest→Kp (At c) H H'→Q v H'
def Vi:List UInt8→Option (UInt8×List UInt8)
 | []=>none
 |c::r=>some (c,r)
theorem ir (T:Tx g.K g.mg a):Pr g 2 a.uM ["self"] (Vh a Vi fun _ _ x v=>v = .int (x.toNat:Int)):=by
 have D:=aB T
 have N:=mn T
 refine Pr.on T.xA Fn fun cF A outer s H vs Q E hr h=>?_
 obtain⟨c,r,b,i,rfl,⟨dx,hc⟩,hb,k0,k1⟩:=h
 refine⟨_,ae (az D au hr (by decide) T.aA (TJ (a6 (pv 0) N T.aL T.jV au hr (by decide))))
  (ae (IW (pv 0) ak T4) (ag (aS (fL cG (ar (pv 0) rfl) (aO gx (ar (pv 0) rfl) ak) (fun _ _=>rfl))))),?_⟩
 refine⟨_,rfl,c,dx,_,rfl,hc,kc,c,r,b,i,rfl,⟨dx,hc⟩,hb,_,rfl,_,rfl,?_⟩
 by_cases hi:b.length≤i
 ·rw[decide_eq_true hi]
  refine eg (k0 ?_ _ Kp.refl)
  rw[List.drop_of_length_le hi]
  rfl
 ·rw[decide_eq_false hi]
  refine iA ?_
  have hi:i<b.length:=by omega
  have hbi:b[i]?=some b[i]:=List.getElem?_eq_getElem hi
  have nrc:r≠c:=cQ hb hc (by intro z;cases z)
  refine⟨_,rfl,c,_,dx,_,_,rfl,hc,T.aL,T.dQ,lR,_,_,rfl,rfl,dx,_,hc,(by rw[Kq];decide),?_⟩
  rw[DU]
  refine⟨_,rfl,c,_,dx,_,_,rfl,af,T.aL,T.gO,si,_,rfl,c,_,dx,_,_,rfl,af,T.aL,T.dQ,lR,_,_,rfl,rfl,r,_,_,_,rfl,rfl,bO.of (by rw[aj nrc];exact hb),at_of (j:=i) (v:=V.int (b[i].toNat:Int)) (by omega) (by rw[zq,hbi];rfl),?_⟩
  refine k1 b[i] (b.drop (i+1)) ?_ _ _ (i+1) rfl ⟨dx,?_⟩ (Nat.lt_succ_self _) hi rfl (Kp.upd (.inl rfl))
  ·rw[List.drop_eq_getElem_cons hi]
   rfl
  ·rw[af]
   rfl
def oO:Nat→List UInt8→Option (List Nat×List UInt8)
 |0,_=>none
 |_+1,[]=>none
 |f+1,c::r=>if c.toNat<128 then some ([c.toNat],r) else(oO f r).map fun x=>(c.toNat%128::x.1,x.2)
abbrev ad3 (xs:List V):Hp→Hp→V→Prop:=fun H H' v=>∃l,v = .ref l∧H l=none∧H' l=some (.lst xs)
theorem qX (T:Tx g.K g.mg a):Pr g 3 a.pZ ["self"] (Vh a (oO 10) fun H H' ds v=>ad3 (nv ds) H H' v):=by
 have D:=aB T
 have B:=ir T
 refine Pr.on T.tD f9 fun cF A outer s H vs Q E hr h=>?_
 obtain⟨c,r,b,i,rfl,C0,hb,k0,k1⟩:=h
 refine⟨_,ae (aI (i:=1) f9.nd rfl (Or.inl rfl) (cv ai))
  (ae (aI (i:=2) f9.nd rfl (Or.inl rfl) EU)
  (ae (qt tU (jG (pv 2) (fun _=>rfl))
   (ae (az D au hr (by decide) T.aA (aH nE (aV aJ (by rfl) T.eL PySem.boot_len (aa (pv 1) ai)) (pk T.xR) (aC _)))
   (ae (aI (i:=3) f9.nd rfl (Or.inl rfl) (a6 (pv 0) B T.aL T.fB au hr (by decide)))
   (ae (aR (ue PySem.F.plainAttrs_list PySem.F.slot_list_append PySem.F.type_list_append iy (pv 1) (aa (aO jF (pv 3) ak) ai)))
   (ag (aI (i:=2) f9.nd rfl (Or.inl rfl) (aH zN (pv 3) ak (aC _))))))))
  (ag (aS (pv 1))))),?_⟩
 refine⟨Nat.zero_le _,fun l hl=>?_⟩
 refine⟨fun m σ H2=>∃(ds:List Nat) (j:Nat) (more:Bool) (v:Option V),σ=[some (.ref c),some (.ref l),some (.bl more),v]∧H2 l=some (.lst (nv ds))∧oB a.bz H2 c r j∧H2 r=some (.lst (bv b))∧Kp (At c) H H2∧i≤j∧ds.length≤10 ∧
  (more=true→m=10-ds.length+1∧oO 10 (b.drop i)=(oO (10-ds.length) (b.drop j)).map fun x=>(ds++x.1,x.2))∧(more=false→m=0∧i<j∧j≤b.length∧oO 10 (b.drop i)=some (ds,b.drop j)),?_,?_⟩
 ·refine⟨_,[],i,true,none,rfl,af,?_,?_,Kp.upd (.inr hl),Nat.le_refl _,by decide,fun _=>⟨rfl,?_⟩,fun z=>by cases z⟩
  ·obtain⟨dx,hc⟩:=C0
   exact⟨dx,by rw[aj (ao hc hl)];exact hc⟩
  ·rw[aj (ao hb hl)]
   exact hb
  ·show oO 10 (b.drop i)=(oO 10 (b.drop i)).map fun x=>([]++x.1,x.2)
   cases oO 10 (b.drop i) with
   |none=>rfl
   |some x=>rfl
 ·rintro m σ H2 ⟨ds,j,more,v,rfl,hL,C2,hb2,kp,hij,Vj,ht,hf⟩
  refine⟨_,rfl,more,rfl,?_⟩
  cases more with
  |false =>
   obtain⟨_,lt,le,e⟩:=hf rfl
   exact eg ⟨_,rfl,k1 _ _ e _ _ j ⟨l,rfl,hl,hL⟩ C2 lt le rfl kp⟩
  |true =>
   obtain⟨em,e⟩:=ht rfl
   refine iA ⟨fun σ' H'=>∃m',m'<m∧_,fun σ' H' q=>q,?_⟩
   refine⟨_,rfl,l,_,rfl,.inl (bO.of hL),_,_,rfl,rfl,_,rfl,?_⟩
   show if decide (((nv ds).length:Int)<10)=true then _ else _
   refine aw (fun h=>?_) (fun h=>?_)
   ·rw[lg]at h
    have h9:ds.length<10:=by omega
    obtain⟨dx,hc⟩:=C2
    refine⟨_,rfl,c,dx,_,rfl,hc,d7,c,r,b,j,rfl,⟨dx,hc⟩,hb2,fun hn H3 k3=>?_,fun x rest hx v3 H3 j3 ev C3 lt3 ZC er k3=>?_⟩
    ·refine k0 ?_ _ (kp.step k3 fun _ z=>.inl z)
     rw[e,show 10-ds.length=(10-ds.length-1)+1 by omega]
     cases hd:b.drop j with
     |nil=>rfl
     |cons y ys=>rw[hd]at hn;cases hn
    ·subst ev
     have hL3:H3 l=some (.lst (nv ds)):=k3.lst hL hc
     have hb3:H3 r=some (.lst (bv b)):=k3.lst hb2 hc
     refine⟨_,rfl,.inl ⟨rfl,_,bO.of hL3⟩,_,rfl,_,_,rfl,rfl,(by show(0:Int)<128;decide),l,_,_,rfl,rfl,hL3,(by rw[lg];exact Nat.lt_of_lt_of_le h9 (by decide)),_,rfl,_,_,rfl,rfl,?_⟩
     have Wx:c≠l:=fun z=>by
      subst z
      rw[hL]at hc;cases hc
     have hdj:b.drop j=x::rest:=by
      cases hd:b.drop j with
      |nil=>rw[hd]at hx;cases hx
      |cons y ys =>
       rw[hd]at hx
       cases hx
       rfl
     have eD:oO (10-ds.length) (b.drop j)=if x.toNat<128 then some ([x.toNat],rest) else(oO (10-(ds.length+1)) rest).map fun z=>(x.toNat%128::z.1,z.2):=by
      rw[hdj,show 10-ds.length=(10-(ds.length+1))+1 by omega]
      rfl
     have en:nv ds++[V.int ((x.toNat:Int)%128)]=nv (ds++[x.toNat%128]):=by
      unfold nv
      rw[List.map_append]
      rfl
     obtain⟨dx3,hc3⟩:=C3
     have aly:(fun i j:Int=>V.int (i%j)) (x.toNat:Int) 128=V.int ((x.toNat:Int)%128):=rfl
     refine⟨if x.toNat<128 then 0 else 10-(ds.length+1)+1,?_,ds++[x.toNat%128],j3,decide ((128:Int)≤(x.toNat:Int)),_,rfl,?_,⟨dx3,by rw[aj Wx];exact hc3⟩,?_,?_,by omega,by rw[List.length_append];simp;omega,fun z=>?_,fun z=>?_⟩
     ·rw[em]
      split<;>omega
     ·rw[af,←en]
     ·rw[aj (ao hb hl)]
      exact hb3
     ·exact(kp.step k3 fun _ z=>.inl z).step (Kp.upd (S:=At l) (.inl rfl)) fun y z=>by
       obtain rfl:y=l:=z
       exact .inr hl
     ·have z:(128:Int)≤(x.toNat:Int):=of_decide_eq_true z
      rw[if_neg (by omega)]
      refine⟨by rw[List.length_append];rfl,?_⟩
      rw[e,eD,if_neg (by omega),er,List.length_append]
      show _=(oO (10-(ds.length+1)) rest).map _
      cases oO (10-(ds.length+1)) rest with
      |none=>rfl
      |some w =>
       show some (ds++(x.toNat%128::w.1),w.2)=some ((ds++[x.toNat%128])++w.1,w.2)
       rw[List.append_assoc]
       rfl
     ·have z:¬(128:Int)≤(x.toNat:Int):=of_decide_eq_false z
      have z2:x.toNat<128:=by omega
      rw[if_pos z2]
      refine⟨rfl,by omega,ZC,?_⟩
      rw[e,eD,if_pos z2,er,Nat.mod_eq_of_lt z2]
      rfl
   ·rw[lg]at h
    refine k0 ?_ _ kp
    rw[e,show 10-ds.length=0 by omega]
    rfl
theorem vP:∀(f:Nat) (b:List UInt8),Rc31.sevens f b=(oO f b).map fun x=>((fv x.1 0).toNat,x.2)
 |0,_=>rfl
 |_+1,[]=>rfl
 |f+1,c::r=>by
  unfold Rc31.sevens oO
  by_cases h:c.toNat<128
  ·rw[if_pos h,if_pos h]
   show some (c.toNat,r)=some ((fv [c.toNat] 0).toNat,r)
   have e:fv [c.toNat] 0=(c.toNat:Int):=by
    show(c.toNat:Int)+128*0=_
    omega
   rw[e]
   rfl
  ·rw[if_neg h,if_neg h,vP f r]
   cases e:oO f r with
   |none=>rfl
   |some x =>
    show some (c.toNat-128+128*(fv x.1 0).toNat,x.2)=some ((fv (c.toNat%128::x.1) 0).toNat,x.2)
    have h0:0≤fv x.1 0:=by
     generalize x.1=l
     induction l with
     |nil=>exact Int.le_refl _
     |cons d l ih =>
      show 0≤(d:Int)+128*fv l 0
      omega
    have hb:=c.toNat_lt
    have e2:fv (c.toNat%128::x.1) 0=((c.toNat%128:Nat):Int)+128*fv x.1 0:=rfl
    rw[e2,show c.toNat%128=c.toNat-128 by omega]
    congr 2
    omega
theorem Q6 (ds:List Nat):0≤fv ds 0:=by
 induction ds with
 |nil=>exact Int.le_refl _
 |cons d l ih =>
  show 0≤(d:Int)+128*fv l 0
  omega
theorem Co (b:List UInt8):Rc31.uleb b=(oO 10 b).bind fun x=>if (fv x.1 0).toNat<Rc31.W64 then some ((fv x.1 0).toNat,x.2) else none:=by
 unfold Rc31.uleb
 rw[vP]
 cases oO 10 b with
 |none=>rfl
 |some x=>rfl
abbrev isNat:Hp→Hp→Nat→V→Prop:=fun _ _ n v=>v = .int (n:Int)
theorem bj (T:Tx g.K g.mg a):Pr g 4 a.p6 ["self"] (Vh a Rc31.uleb isNat):=by
 have D:=aB T
 have G:=qX T
 have W:=Dw T
 refine Pr.on T.tE qw fun cF A outer s H vs Q E hr h=>?_
 obtain⟨c,r,b,i,rfl,⟨dx,hc⟩,hb,k0,k1⟩:=h
 refine⟨_,ae (aI (i:=1) qw.nd rfl (Or.inl rfl) (aU W au hr (by decide) T.yQ (aa (a6 (pv 0) G T.aL T.mi au hr (by decide)) (aa ak ai))))
  (ae (az D au hr (by decide) T.aA (aH nE (pv 1) (pk T.gQ) (aC _)))
  (ag (aS (pv 1)))),?_⟩
 refine⟨_,rfl,c,dx,_,rfl,hc,oa,c,r,b,i,rfl,⟨dx,hc⟩,hb,fun hn H1 kp=>k0 (by rw[Co,hn];rfl) _ kp,fun ds rest hx v H1 i1 hv C1 lt1 le1 er kp=>?_⟩
 obtain⟨l,rfl,hl,hL⟩:=hv
 refine⟨l,ds,0,rfl,hL,_,rfl,_,_,rfl,rfl,_,rfl,?_⟩
 have e0:=Q6 ds
 refine aw (fun h=>?_) (fun h=>?_)
 ·refine⟨_,rfl,k1 (fv ds 0).toNat rest ?_ _ H1 i1 ?_ C1 lt1 le1 er kp⟩
  ·rw[Co,hx]
   show(if (fv ds 0).toNat<Rc31.W64 then _ else _)=_
   rw[if_pos (by unfold Rc31.W64;omega)]
  ·show V.int (fv ds 0)=V.int (((fv ds 0).toNat:Nat):Int)
   rw[Int.toNat_of_nonneg e0]
 ·refine k0 ?_ _ kp
  rw[Co,hx]
  show(if (fv ds 0).toNat<Rc31.W64 then _ else _)=_
  rw[if_neg (by unfold Rc31.W64;omega)]
end
end MI
namespace MI
open PySem L2
theorem Gs:∀{f:Nat} {b:List UInt8} {ds:List Nat} {r:List UInt8},oO f b=some (ds,r)→b.length=r.length+ds.length∧ds.length≤f∧ds≠[]∧∀d∈ds,d<128
 |0,_,_,_,h=>by cases h
 |_+1,[],_,_,h=>by cases h
 |f+1,c::r,ds,r',h=>by
  unfold oO at h
  by_cases hc:c.toNat<128
  ·rw[if_pos hc]at h
   cases h
   refine⟨rfl,by simp,by simp,fun d hd=>?_⟩
   obtain rfl:d=c.toNat:=by simpa using hd
   exact hc
  ·rw[if_neg hc]at h
   cases e:oO f r with
   |none=>rw[e]at h;cases h
   |some x =>
    rw[e]at h
    cases h
    obtain⟨h1,h2,h3,h4⟩:=Gs (ds:=x.1) (r:=x.2) e
    refine⟨by simp only[List.length_cons];omega,by simp only[List.length_cons];omega,by simp,fun d hd=>?_⟩
    rcases List.mem_cons.mp hd with rfl|hd
    ·exact Nat.mod_lt _ (by decide)
    ·exact h4 d hd
theorem Gu (ds:List Nat) (z:Int):fv ds z=fv ds 0+128^ds.length*z:=by
 induction ds with
 |nil=>show z=0+1*z;omega
 |cons d l ih =>
  show(d:Int)+128*fv l z=(d:Int)+128*fv l 0+128^(l.length+1)*z
  rw[ih,Int.pow_succ,Int.mul_add,Int.mul_comm ((128:Int)^l.length) 128,Int.mul_assoc]
  omega
theorem Vk (ds:List Nat) (d:Nat):fv (ds++[d]) 0=fv ds 0+128^ds.length*(d:Int):=by
 have e:fv (ds++[d]) 0=fv ds (fv [d] 0):=by
  unfold fv
  rw[List.foldr_append]
 rw[e,Gu,show fv [d] 0=(d:Int) by show(d:Int)+128*0=_;omega]
theorem Ya (ds:List Nat) (h:∀d∈ds,d<128):fv ds 0<128^ds.length:=by
 induction ds with
 |nil=>decide
 |cons d l ih =>
  have h1:=ih fun x hx=>h x (List.mem_cons_of_mem _ hx)
  have h2:=h d List.mem_cons_self
  show(d:Int)+128*fv l 0<128^(l.length+1)
  rw[Int.pow_succ]
  omega
theorem Jy (b:List UInt8):Rc31.sleb b=(oO 10 b).map fun x=>((fv x.1 (if 64≤x.1.getLast?.getD 0 then -1 else 0)%18446744073709551616).toNat,x.2):=by
 unfold Rc31.sleb
 rw[vP]
 cases e:oO 10 b with
 |none=>rfl
 |some x =>
  obtain⟨ds,r⟩:=x
  obtain⟨h1,h2,h3,h4⟩:=Gs e
  show some (_,r)=some (_,r)
  congr 2
  have ek:b.length-r.length=ds.length:=by omega
  show(if 2^(7*(b.length-r.length)-1)≤(fv ds 0).toNat then _ else _)=_
  dsimp only
  rw[ek]
  obtain⟨pG,d,rfl⟩:∃pG d,ds=pG++[d]:=⟨ds.dropLast,ds.getLast h3,(List.dropLast_concat_getLast h3).symm⟩
  have hd:d<128:=h4 d (by simp)
  have hi:∀x∈pG,x<128:=fun x hx=>h4 x (List.mem_append_left _ hx)
  have a1:=Vk pG d
  have a2:=Ya pG hi
  have a3:=Q6 pG
  have ad6:(pG++[d]).getLast?.getD 0=d:=by simp
  have hlen:(pG++[d]).length=pG.length+1:=by simp
  rw[hlen]at h2
  rw[ad6,hlen]
  have p1:(2:Nat)^(7*(pG.length+1)-1)=64*128^pG.length:=by
   rw[show 7*(pG.length+1)-1=6+7*pG.length by omega,Nat.pow_add,Nat.pow_mul]
  have p2:(2:Nat)^(7*(pG.length+1))=128^(pG.length+1):=by
   rw[Nat.pow_mul]
  have p3:((128^pG.length:Nat):Int)=128^pG.length:=by
   rw[Int.natCast_pow]
   rfl
  have p4:((128^(pG.length+1):Nat):Int)=128*((128^pG.length:Nat):Int):=by
   rw[Nat.pow_succ]
   omega
  have p5:128^(pG.length+1)≤128^10:=Nat.pow_le_pow_right (by decide) h2
  rw[←p3]at a1 a2
  generalize 128^pG.length=p at *
  have e5:fv (pG++[d]) (-1)=fv (pG++[d]) 0-((128^(pG.length+1):Nat):Int):=by
   rw[Gu,hlen,Int.natCast_pow]
   show _+128^(pG.length+1) * -1=_-128^(pG.length+1)
   omega
  have m0:0≤(p:Int)*(d:Int):=Int.mul_nonneg (by omega) (by omega)
  rw[p1,p2]
  generalize hq:128^(pG.length+1)=q at *
  generalize hv:fv (pG++[d]) 0=v at *
  by_cases Po:64≤d
  ·have m1:((p:Int))*64≤(p:Int)*(d:Int):=Int.mul_le_mul_of_nonneg_left (by omega) (by omega)
   rw[if_pos (by omega),if_pos Po,e5]
   unfold Rc31.W64
   omega
  ·have m1:((p:Int))*(d:Int)≤(p:Int)*63:=Int.mul_le_mul_of_nonneg_left (by omega) (by omega)
   rw[if_neg (by omega),if_neg Po,hv]
   unfold Rc31.W64
   omega
section
variable {g:Gm} {a:Ad}
theorem qY (T:Tx g.K g.mg a):Pr g 4 a.ij ["self"] (Vh a Rc31.sleb isNat):=by
 have G:=qX T
 have W:=Dw T
 refine Pr.on T.jU gc fun cF A outer s H vs Q E hr h=>?_
 obtain⟨c,r,b,i,rfl,⟨dx,hc⟩,hb,k0,k1⟩:=h
 refine⟨_,ae (aI (i:=1) gc.nd rfl (Or.inl rfl) (a6 (pv 0) G T.aL T.mi au hr (by decide)))
  (ae (aI (i:=2) gc.nd rfl (Or.inl rfl) (EW (bG zN (fL cG (pv 1) (zM rA ak) (fun _ _=>rfl)) ak (aC _)) (zM rA ak) ak))
  (ag (aS (aO jF (aU W au hr (by decide) T.yQ (aa (pv 1) (aa (pv 2) ai))) (pk T.gQ))))),?_⟩
 refine⟨_,rfl,c,dx,_,rfl,hc,oa,c,r,b,i,rfl,⟨dx,hc⟩,hb,fun hn H1 kp=>k0 (by rw[Jy,hn];rfl) _ kp,fun ds rest hx v H1 i1 hv C1 lt1 le1 er kp=>?_⟩
 obtain⟨l,rfl,hl,hL⟩:=hv
 obtain⟨h1,h2,h3,h4⟩:=Gs hx
 obtain⟨pG,d,rfl⟩:∃pG d,ds=pG++[d]:=⟨ds.dropLast,ds.getLast h3,(List.dropLast_concat_getLast h3).symm⟩
 have en:nv (pG++[d])=nv pG++[V.int (d:Int)]:=by
  unfold nv
  rw[List.map_append]
  rfl
 have fin:∀z:Int,z=(if 64≤d then -1 else 0)→Q (V.int (fv (pG++[d]) z%18446744073709551616)) H1:=fun z ez=>by
  refine k1 (fv (pG++[d]) z%18446744073709551616).toNat rest ?_ _ H1 i1 ?_ C1 lt1 le1 er kp
  ·rw[Jy,hx]
   show some ((fv (pG++[d]) (if 64≤(pG++[d]).getLast?.getD 0 then -1 else 0)%18446744073709551616).toNat,rest)=_
   rw[show(pG++[d]).getLast?.getD 0=d by simp,←ez]
  ·show V.int _=V.int (((_:Int).toNat:Nat):Int)
   rw[Int.toNat_of_nonneg (Int.emod_nonneg _ (by decide))]
 refine⟨_,rfl,_,rfl,l,_,_,_,rfl,rfl,bO.of hL,(by rw[en];exact Md _ _),_,_,rfl,rfl,_,rfl,?_⟩
 refine aw (fun h=>?_) (fun h=>?_)
 ·refine⟨_,rfl,_,rfl,_,rfl,l,_,_,rfl,hL,_,_,rfl,rfl,(by show(0:Int)<18446744073709551616;decide),?_⟩
  exact fin _ (by rw[if_pos (by omega)])
 ·refine⟨_,rfl,_,rfl,l,_,_,rfl,hL,_,_,rfl,rfl,(by show(0:Int)<18446744073709551616;decide),?_⟩
  exact fin _ (by rw[if_neg (by omega)])
end
end MI
namespace MI
open PySem L2
def txt:Nat→List UInt8→Option (List UInt8×List UInt8)
 |_,[]=>none
 |n,c::r=>if c=0 then some ([],r) else if (33≤c.toNat∧c.toNat≤126)∧n<255 then(txt (n+1) r).map fun x=>(c::x.1,x.2) else none
theorem Pp:∀(b:List UInt8) (n:Nat),n≤255→txt n b=(let t:=b.takeWhile fun c=>c != 0;if t.length<b.length∧n+t.length≤255∧(t.all fun c=>decide (33≤c.toNat∧c.toNat≤126))=true then some (t,b.drop (t.length+1)) else none)
 | [],n,h=>rfl
 |c::r,n,h=>by
  unfold txt
  by_cases hc:c=0
  ·subst hc
   rw[if_pos rfl]
   have e:(0::r:List UInt8).takeWhile (fun c=>c != 0)=[]:=by simp
   simp only[e]
   rw[if_pos ⟨by simp,by simpa using h,rfl⟩]
   rfl
  ·rw[if_neg hc]
   have e:(c::r).takeWhile (fun c=>c != 0)=c::r.takeWhile (fun c=>c != 0):=by simp[hc]
   simp only[e]
   by_cases h1:(33≤c.toNat∧c.toNat≤126)∧n<255
   ·rw[if_pos h1,Pp r (n+1) (by omega)]
    simp only[List.length_cons,List.all_cons,Bool.and_eq_true,decide_eq_true_eq]
    by_cases h2:(r.takeWhile fun c=>c != 0).length<r.length∧n+1+(r.takeWhile fun c=>c != 0).length≤255∧((r.takeWhile fun c=>c != 0).all fun c=>decide (33≤c.toNat∧c.toNat≤126))=true
    ·rw[if_pos h2,if_pos ⟨by omega,by omega,h1.1,h2.2.2⟩]
     rfl
    ·rw[if_neg h2,if_neg (fun z=>h2 ⟨by omega,by omega,z.2.2.2⟩)]
     rfl
   ·rw[if_neg h1,if_neg]
    simp only[List.length_cons,List.all_cons,Bool.and_eq_true,decide_eq_true_eq]
    exact fun z=>h1 ⟨z.2.2.1,by omega⟩
theorem Gv (b:List UInt8):Rc31.textIn b=txt 0 b:=by
 rw[Pp b 0 (by decide)]
 unfold Rc31.textIn
 simp only[Nat.zero_add]
section
variable {g:Gm} {a:Ad}
theorem oE (T:Tx g.K g.mg a):Pr g 3 a.uN ["self"] (Vh a Rc31.textIn fun H H' t v=>ad3 (bv t) H H' v):=by
 have D:=aB T
 have B:=ir T
 refine Pr.on T.xB jK fun cF A outer s H vs Q E hr h=>?_
 obtain⟨c,r,b,i,rfl,⟨dx,hc⟩,hb,k0,k1⟩:=h
 simp only[Gv]at k0 k1
 refine⟨_,ae (aI (i:=1) jK.nd rfl (Or.inl rfl) (cv ai))
  (ae (aI (i:=2) jK.nd rfl (Or.inl rfl) (a6 (pv 0) B T.aL T.fB au hr (by decide)))
  (ae (qt tU (bG TY (pv 2) ak (aC _))
   (ae (az D au hr (by decide) T.aA (JX (zO iK iK ak (pv 2) ak) (ub (aH nE (aV aJ (by rfl) T.eL PySem.boot_len (aa (pv 1) ai)) (pk T.pd) (aC _)))))
   (ae (aR (ue PySem.F.plainAttrs_list PySem.F.slot_list_append PySem.F.type_list_append iy (pv 1) (aa (pv 2) ai)))
   (ag (aI (i:=2) jK.nd rfl (Or.inl rfl) (a6 (pv 0) B T.aL T.fB au hr (by decide)))))))
  (ag (aS (pv 1))))),?_⟩
 refine⟨Nat.zero_le _,fun l hl=>?_⟩
 have Wx:c≠l:=ao hc hl
 have Jz:upd H l (.lst []) c=some (.ins a.bz dx (bW (.ref r) (.int (i:Int)))):=by rw[aj Wx];exact hc
 have Yb:upd H l (.lst []) r=some (.lst (bv b)):=by rw[aj (ao hb hl)];exact hb
 have xo:Kp (At c) H (upd H l (.lst [])):=Kp.upd (.inr hl)
 have ZD:∀{x:UInt8} {rest:List UInt8} {j:Nat},Vi (b.drop j)=some (x,rest)→b.drop j=x::rest:=fun{x rest j} hx=>by
  cases hd:b.drop j with
  |nil=>rw[hd]at hx;cases hx
  |cons y ys =>
   rw[hd]at hx
   cases hx
   rfl
 have ZE:∀{j:Nat},Vi (b.drop j)=none→b.drop j=[]:=fun{j} hx=>by
  cases hd:b.drop j with
  |nil=>rfl
  |cons y ys=>rw[hd]at hx;cases hx
 refine⟨_,rfl,c,dx,_,rfl,Jz,d7,c,r,b,i,rfl,⟨dx,Jz⟩,Yb,fun hn H3 k3=>?_,fun x rest hx v3 H3 j3 ev C3 lt3 ZC er k3=>?_⟩
 ·refine k0 ?_ _ (xo.step k3 fun _ z=>.inl z)
  rw[ZE hn]
  rfl
 ·subst ev
  refine⟨fun m σ H2=>∃(t:List UInt8) (j:Nat) (x:UInt8),σ=[some (.ref c),some (.ref l),some (.int (x.toNat:Int))]∧H2 l=some (.lst (bv t))∧oB a.bz H2 c r j∧H2 r=some (.lst (bv b))∧Kp (At c) H H2∧i<j∧j≤b.length∧t.length≤255∧m=b.length-j ∧
   txt 0 (b.drop i)=(txt t.length (x::b.drop j)).map fun z=>(t++z.1,z.2),?_,?_⟩
  ·refine⟨_,[],j3,x,rfl,k3.lst af Jz,C3,k3.lst Yb Jz,xo.step k3 fun _ z=>.inl z,lt3,ZC,by decide,rfl,?_⟩
   rw[ZD hx,er]
   show txt 0 (x::rest)=(txt 0 (x::rest)).map fun z=>([]++z.1,z.2)
   cases txt 0 (x::rest) with
   |none=>rfl
   |some x=>rfl
  ·rintro m σ H2 ⟨t,j,x,rfl,hL,⟨dx2,LY⟩,hb2,kp,hij,hjb,ht,rfl,e⟩
   refine⟨_,rfl,rfl,_,rfl,?_⟩
   have ne:(!decide (V.int (x.toNat:Int)=V.int 0))=decide (x≠0):=by
    by_cases Nj:x=0
    ·subst Nj
     rfl
    ·have h1:¬(V.int (x.toNat:Int)=V.int 0):=fun z=>by
      injection z with z
      exact Nj (UInt8.toNat.inj (by show x.toNat=0;omega))
     rw[decide_eq_false h1,decide_eq_true Nj]
     rfl
   rw[ne]
   refine aw (fun h0=>?_) (fun h0=>?_)
   ·refine⟨fun σ' H'=>∃m',m'<b.length-j∧_,fun σ' H' q=>q,?_⟩
    refine⟨_,rfl,_,_,rfl,rfl,_,rfl,?_⟩
    have fail:¬((33≤x.toNat∧x.toNat≤126)∧t.length<255)→E (.ref a.aE) none H2:=fun hn=>k0 (by
     rw[e]
     unfold txt
     rw[if_neg h0,if_neg hn]
     rfl) _ kp
    refine aw (fun h1=>?_) (fun h1=>?_)
    ·refine⟨_,_,rfl,rfl,_,rfl,?_⟩
     refine aw (fun h2=>?_) (fun h2=>?_)
     ·refine⟨_,rfl,l,_,rfl,.inl (bO.of hL),_,_,rfl,rfl,_,rfl,?_⟩
      show if decide (((bv t).length:Int)<255)=true then _ else _
      refine aw (fun h3=>?_) (fun h3=>?_)
      ·rw[br]at h3
       have cD:(33≤x.toNat∧x.toNat≤126)∧t.length<255:=⟨⟨by omega,by omega⟩,by omega⟩
       refine⟨_,rfl,.inl ⟨rfl,_,bO.of hL⟩,_,rfl,l,_,_,rfl,rfl,hL,(by rw[br];exact Nat.lt_of_lt_of_le cD.2 (by decide)),?_⟩
       have en:bv t++[V.int (x.toNat:Int)]=bv (t++[x]):=by
        unfold bv
        rw[List.map_append]
        rfl
       rw[en]
       have Wy:upd H2 l (.lst (bv (t++[x]))) c=some (.ins a.bz dx2 (bW (.ref r) (.int (j:Int)))):=by rw[aj Wx];exact LY
       have hb4:upd H2 l (.lst (bv (t++[x]))) r=some (.lst (bv b)):=by rw[aj (ao hb hl)];exact hb2
       have kp4:Kp (At c) H (upd H2 l (.lst (bv (t++[x])))):=kp.step (Kp.upd (S:=At l) (.inl rfl)) fun y z=>by
        obtain rfl:y=l:=z
        exact .inr hl
       have e4:txt 0 (b.drop i)=(txt (t++[x]).length (b.drop j)).map fun z=>((t++[x])++z.1,z.2):=by
        rw[e]
        conv=>lhs;unfold txt
        rw[if_neg h0,if_pos cD,List.length_append]
        show Option.map _ (Option.map _ (txt (t.length+1) (b.drop j)))=_
        cases txt (t.length+1) (b.drop j) with
        |none=>rfl
        |some w =>
         show some (t++(x::w.1),w.2)=some ((t++[x])++w.1,w.2)
         rw[List.append_assoc]
         rfl
       refine⟨_,rfl,c,dx2,_,rfl,Wy,d7,c,r,b,j,rfl,⟨dx2,Wy⟩,hb4,fun hn H5 k5=>?_,fun x5 ajk hx5 v5 H5 j5 ev C5 lt5 le5 er5 k5=>?_⟩
       ·refine k0 ?_ _ (kp4.step k5 fun _ z=>.inl z)
        rw[e4,ZE hn]
        rfl
       ·subst ev
        refine⟨b.length-j5,by omega,t++[x],j5,x5,rfl,k5.lst af Wy,C5,k5.lst hb4 Wy,kp4.step k5 fun _ z=>.inl z,by omega,le5,by rw[List.length_append];exact cD.2,rfl,?_⟩
        rw[e4,ZD hx5,er5]
      ·rw[br]at h3
       exact fail fun z=>h3 (by omega)
     ·exact⟨false,rfl,eg (fail fun z=>h2 (by omega))⟩
    ·exact⟨false,rfl,eg ⟨false,rfl,eg (fail fun z=>h1 (by omega))⟩⟩
   ·have Nj:x=0:=by
     by_cases z:x=0
     ·exact z
     ·exact absurd z h0
    subst Nj
    refine⟨_,rfl,k1 t (b.drop j) ?_ _ H2 j ⟨l,rfl,hl,hL⟩ ⟨dx2,LY⟩ hij hjb rfl kp⟩
    rw[e]
    show some (t++[],b.drop j)=_
    rw[List.append_nil]
end
end MI
namespace L2
open PySem PySem.Spec PyProof.Rows
def yg (B:Heap) (l:List Env) (e:Addr) (cls a0 fl:Value) (h:Heap):Prop:=B.StaysIn h∧B.get? e=none∧h.FunFrames B l∧h.TracedAtW B e cls a0 fl
theorem Ej {e:Value} {ce env:Env} (h:ce.frame=env.frame):noteFrame e ce=noteFrame e env:=by
 unfold noteFrame PySem.frameOf
 rw[h]
theorem FunFrames.at_ {h h' B B':Heap} (hB:∀b,B.get? b=none→B'.get? b=none):∀{l:List Env},(∀b∈wq l,∀o,h.get? b=some o→h'.get? b=some o)→h.FunFrames B l→h'.FunFrames B' l
 | [],_,_=>trivial
 |env::rest,k,hl=>by
  obtain⟨hk,⟨L,o,hf,hn,ho,hd⟩,hr⟩:=hl
  have hm:L∈wq (env::rest):=List.mem_filterMap.mpr ⟨env,List.mem_cons_self,hf⟩
  refine⟨hk,⟨L,o,hf,hB L hn,k L hm o ho,hd⟩,FunFrames.at_ hB (fun b hb o e=>k b ?_ o e) hr⟩
  obtain⟨v,hv,e'⟩:=List.mem_filterMap.mp hb
  exact List.mem_filterMap.mpr ⟨v,List.mem_cons_of_mem _ hv,e'⟩
theorem yg.less {B:Heap} {l:List Env} {e c:Addr} {cls a0 fl:Value} {h h':Heap} {oc:Obj} {es:Array DictEntry} {ep:Nat} (x:yg B l e cls a0 fl h) (hc:h.get? c=some oc) (hd:oc.data = .dict es ep) (hl:c∉wq l) (sb:Heap.SameBut c h h'):yg (PySem.W.hideAll B [c]) l e cls a0 fl h':=by
 obtain⟨x1,x2,x3,oe,vs,T,oT,ts,he,L3,hdv,h1,hnT,hTe,hT,SD,h3⟩:=x
 have less:∀b,B.get? b=none→(PySem.W.hideAll B [c]).get? b=none:=fun b n=>by
  cases q:(PySem.W.hideAll B [c]).get? b with
  |none=>rfl
  |some o=>rw[PySem.W.of_hideAll _ q]at n;cases n
 have nec:e≠c:=fun z=>by subst z;rw[he]at hc;cases hc;rw[hd]at hdv;cases hdv
 have nTc:T≠c:=fun z=>by subst z;rw[hT]at hc;cases hc;rw[hd]at SD;cases SD
 refine⟨fun b o q=>?_,less e x2,FunFrames.at_ less (fun b hb o q=>(sb.2 b (fun z=>hl (by rw[←z];exact hb))).trans q) x3,oe,vs,T,oT,ts,(sb.2 e nec).trans he,L3,hdv,h1,less T hnT,hTe,(sb.2 T nTc).trans hT,SD,h3⟩
 have hbc:b≠c:=fun z=>by
  subst z
  rw[PySem.W.hideAll_none _ (by simp)]at q;cases q
 exact(sb.2 b hbc).trans (x1 b o (PySem.W.of_hideAll _ q))
section
variable {M:Model} {A:Around} {E:Value→Shared→Prop} {s:Shared}
abbrev mark (fr:Option Addr):Value:=fr.elim Value.none fun f=>rawInt f
theorem Im {B:Heap} {l:List Env} {e:Addr} {cls a0 fl:Value} {fr:Option Addr} {Q:Unit→Shared→Prop} (x:yg B l e cls a0 fl s.heap) (h:∀h',yg B l e cls a0 (mark fr) h'→s.heap.UpToSlots h'→Q () {s with heap:=h'}):wpAny M A (setFlight (.ref e) fr) Q E s:=by
 obtain⟨hkb,hen,hl,oe,vs,T,oT,ts,he,L3,hd,h1,hnT,hTe,hT,SD,h3⟩:=x
 have ad8:3<ts.size:=(Array.getElem?_eq_some_iff.mp h3).1
 have other:∀b,b≠T→(s.heap.update T (Obj.mapFields (·.setIfInBounds 3 (mark fr)))).get? b=s.heap.get? b:=fun b hb=>Heap.get?_update_other _ _ (Ne.symm hb)
 have vQ:∀b o,s.heap.get? b=some o→(∀vs,o.data≠.fields vs)→b≠T:=fun b o hb Tu q=>by
  rw[q,hT]at hb;injection hb with hb;subst hb;exact Tu ts SD
 unfold setFlight
 refine wpAny_bind (wpAny_field he hd h1 ?_)
 rw[if_pos (show(Value.ref T != Value.none)=true from by simp)]
 refine wpAny_setField hT SD ad8 (h _ ⟨fun b o hbo=>(other b fun q=>by rw[q,hnT]at hbo;cases hbo).trans (hkb b o hbo),hen,
  hl.of_keeps fun b o hb Tu=>⟨o,(other b (vQ b o hb Tu)).trans hb,rfl⟩,?_⟩ fun b o hb Tu=>⟨o.slots,(other b (vQ b o hb Tu)).trans hb⟩)
 exact⟨oe,vs,T,_,_,(other e (Ne.symm hTe)).trans he,L3,hd,h1,hnT,hTe,Heap.get?_update_self _ hT (Obj.isFreed_of_fields (Obj.data_mapFields SD _)),Obj.data_mapFields SD _,by simp[ad8]⟩
theorem Pq {α:Type} {B:Heap} {l:List Env} {e:Addr} {cls a0 fl:Value} {ahB:String} {env:Env} {Q:α→Shared→Prop} (x:yg B l e cls a0 fl s.heap) (h:∀h',yg B l e cls a0 (mark env.frame) h'→s.heap.UpToSlots h'→E (.ref e) {s with heap:=h'}):wpAny M A (PySem.passOn ahB (.ref e) env:Sem α) Q E s:=by
 obtain⟨hkb,hen,hl,oe,vs,T,oT,ts,he,L3,hd,h1,hnT,hTe,hT,SD,h3⟩:=id x
 unfold PySem.passOn
 refine wpAny_bind (wpAny_field he hd h1 ?_)
 rw[if_neg (show ¬((Value.ref T==Value.none)=true) from by simp)]
 exact wpAny_bind (Im x fun h' f up=>wpAny_throw (h h' f up))
theorem Nl {B:Heap} {env:Env} {outer:List Env} {L e:Addr} {cls a0:Value} {fr:Option Addr} {Q:Unit→Shared→Prop} (DJ:A.frames=some (env::outer)) (hf:env.frame=some L) (x:yg B (env::outer) e cls a0 (mark fr) s.heap)
 (hQ:∀h',Heap.FlyingW B outer e cls a0 h'→s.heap.UpToSlots h'→Q () {s with heap:=h'}):wpAny M A (leaving env (.ref e)) Q E s:=by
 by_cases hm:mark fr=rawInt L
 ·rw[hm]at x
  unfold leaving
  refine wpAny_bind (wpAny_noteFrame_againW hf x.2.2.2 ?_)
  refine wpAny_landsW (L:=L) x fun h' SE up=>?_
  obtain⟨k1,k2,⟨_,_,k3⟩,k4⟩:=SE
  exact hQ h' ⟨k1,k2,k3,k4⟩ up
 ·obtain⟨hkb,hen,hl,oe,vs,T,oT,ts,he,⟨L3,h0⟩,hd,h1,hnT,hTe,hT,SD,h3⟩:=x
  subst L3
  unfold leaving noteFrame
  simp only[hf]
  refine wpAny_bind (wpAny_bind (wpAny_field he hd h1 ?_))
  rw[if_pos (show(Value.ref T != Value.none)=true from by simp)]
  refine wpAny_bind (wpAny_field hT SD h3 ?_)
  rw[if_neg (show ¬((mark fr==rawInt L)=true) from by simpa using hm)]
  refine wpAny_bind (wpAny_setField hT SD (Array.getElem?_eq_some_iff.mp h3).1 ?_)
  have other:∀b,b≠T→(s.heap.update T (Obj.mapFields (·.setIfInBounds 3 Value.none))).get? b=s.heap.get? b:=fun b hb=>Heap.get?_update_other _ _ (Ne.symm hb)
  have vQ:∀b o,s.heap.get? b=some o→(∀vs,o.data≠.fields vs)→b≠T:=fun b o hb Tu q=>by
   rw[q,hT]at hb;injection hb with hb;subst hb;exact Tu ts SD
  refine wpAny_newEntryW DJ (hl.of_keeps fun b o hb Tu=>⟨o,(other b (vQ b o hb Tu)).trans hb,rfl⟩) hf ((other e (Ne.symm hTe)).trans he)
   (fun b o hbo=>(other b fun q=>by rw[q,hnT]at hbo;cases hbo).trans (hkb b o hbo)) hen hd (Array.getElem?_eq_some_iff.mp h1).1 h0
   fun h' ⟨x1,⟨_,_,x2⟩,x3,x4⟩=>hQ h' ⟨x1,hen,x2,x3⟩ fun b o hb Tu=>x4 b o ((other b (vQ b o hb Tu)).trans hb) Tu
end
theorem Inv.ahC {X:Cx} {pins:List (Addr×Obj)} {σ:St} {H:Hp} {s:Shared} (I:Inv X pins σ H s) (hex:X.ex=[]) {B h'':Heap} (J7:∀b o,s.heap.get? b=some o→b∉wq X.stack→(X.s₀.heap.get? b).isSome=true→∃o',B.get? b=some o') (yr:∀b o,H b=some o→∃o',B.get? b=some o')
 (st:B.StaysIn s.heap) (JY:B.StaysIn h'') (up:∀b∈X.fs,∀o,s.heap.get? b=some o→∃sl,h''.get? b=some {o with slots:=sl}):Un X.fs [] X.H₀ H X.s₀.heap h''∧t6 X.prog X.w H h'':=by
 have inB:∀b o,s.heap.get? b=some o→(∃o',B.get? b=some o')→h''.get? b=some o:=fun b o e ⟨o',q⟩=>by
  have q1:=st b o' q
  rw[e]at q1
  cases q1
  exact JY b o q
 have N7:∀b,b∉X.fs→(X.s₀.heap.get? b).isSome=true→b∉wq X.stack:=fun b n hs hb=>by
  rcases List.mem_cons.mp (I.rm b hb) with rfl|q
  ·cases e:X.s₀.heap.get? X.env.locals with
   |none=>rw[e]at hs;cases hs
   |some o=>exact absurd (Heap.lt_size e) (Nat.not_lt.mpr I.ok.above)
  ·exact n q
 refine⟨⟨fun b o q n hb _=>?_,fun b o q n hb _=>?_,fun b o q n _=>?_,fun b o q _=>?_,I.base.Hh,I.base.EN,I.base.Hi⟩,?_⟩
 ·have hx:b∉X.ex:=by rw[hex];simp
  have e:=I.base.keep b o q n hb hx
  have hs:(X.s₀.heap.get? b).isSome=true:=by rw[q];rfl
  exact inB b o e (J7 b o e (N7 b hb hs) hs)
 ·have hx:b∉X.ex:=by rw[hex];simp
  obtain⟨sl,e⟩:=I.base.slot b o q n hb hx
  obtain⟨sl',e'⟩:=up b hb _ e
  exact⟨sl',e'⟩
 ·exact I.base.free b o q n (by rw[hex];simp)
 ·have hx:b∉X.ex:=by rw[hex];simp
  obtain⟨o1,e⟩:=I.base.there b o q hx
  have hs:(X.s₀.heap.get? b).isSome=true:=by rw[q];rfl
  by_cases hb:b∈X.fs
  ·obtain⟨sl,e'⟩:=up b hb o1 e
   exact⟨_,e'⟩
  ·exact⟨o1,inB b o1 e (J7 b o1 e (N7 b hb hs) hs)⟩
 ·exact I.cD.Zp fun b u ⟨o,ho⟩ e=>inB b u e (yr b o ho)
structure Vl (X:Cx) (E:XK):Prop where
 xe:∀e s',wpAny (model X.prog X.w) X.A (leaving X.env e) (fun _ W5=>t7 X.prog X.w X.outer X.H₀ X.s₀ E e W5) (fun e' W5=>t7 X.prog X.w X.outer X.H₀ X.s₀ E e' W5) s'→X.xe e s'
 ex:X.ex=[]
 st:X.stack=X.env::X.outer
 fr:X.env.frame=some X.env.locals
theorem JA {P:Program} {w:World} {K:PySem.W.Frag} {mg:Str→Option Value} {base:Heap} {N:List Str} {qual:Str} {scope:Scope} {f:Addr} {cd:Value} {A:Around} {outer:List Env} {s₀:Shared} {H₀:Hp} {E:XK}:Vl (nF (t7 P w) P w K mg base N qual scope f cd A outer s₀ H₀ E) E:=⟨fun _ _ h=>h,rfl,rfl,rfl⟩
theorem abD {X:Cx} {E:XK} (bx:Vl X E) {pins:List (Addr×Obj)} {σ:St} {H3:Hp} {s3:Shared} (I3:Inv X pins σ H3 s3) {abE:Scope} {ce:Env} {fp:List Addr} (hce:ce.frame=X.env.frame) (cL:ce.locals=s3.heap.objs.size) (f3:∀b∈fp,yo X pins H3 b∧b<s3.heap.objs.size)
 {use:Option (Value→Sem Unit)} {Qf:Value→Shared→Prop} {D:Addr} :
 Passes (t7 X.prog X.w) ((X.Hb s3 H3 abE ce fp).DH (notedBy (model X.prog X.w) X.A ce fun e s'=>compPost (model X.prog X.w) X.A X.xe use Qf (.ref D) s3.heap.objs.size (.error e) s')) E:=by
 intro ER σ' H1 s1 e s2 I hc
 obtain⟨a,C,a0,B,H',rfl,fl,os,bare,un,cD,J7,yr,hE⟩:=hc
 have I2:=I.IQ (H':=H') (s':=s2) (ch:=[]) os un cD bare (fun b z=>absurd z (by simp))
 have IX:Inv X pins σ H' s2:=I3.IQ (ch:=fp) I2.os I2.base I2.cD I2.bare fun b hb=>⟨(f3 b hb).1.2.2.2.1,(f3 b hb).1.2.1,(f3 b hb).1.2.2.2.2.1,(f3 b hb).1.2.2.2.2.2⟩
 show wpAny (model X.prog X.w) X.A (noteFrame (.ref a) ce) (fun _ W5=>compPost (model X.prog X.w) X.A X.xe use Qf (.ref D) s3.heap.objs.size (.error (.ref a)) W5) _ s2
 rw[Ej hce]
 have fl1:Heap.FlyingW B (X.env::X.outer) a (.ref C) a0 s2.heap:=by rw[←bx.st];exact fl
 have DJ:X.A.frames=some (X.env::X.outer):=by rw[IX.ok.frames,bx.st]
 refine wpAny_looks_onW DJ bx.fr fl1 fun h1 hh up1=>?_
 obtain⟨m,hm,_⟩:=I2.loc
 have hm:s2.heap.Ns ce.locals m:=hm
 have hm1:h1.Ns ce.locals m:=up1.ns hm
 have nfr:ce.locals∉wq (X.env::X.outer):=fun hb=>by
  rw[←bx.st]at hb
  rcases List.mem_cons.mp (I3.rm _ hb) with z|z
  ·have:=I3.lt
   rw[←z,cL]at this
   exact Nat.lt_irrefl _ this
  ·exact I3.aad (Nat.le_of_eq cL.symm) z
 have nfs:∀b∈X.fs,b≠ce.locals:=fun b hb z=>I3.aad (Nat.le_of_eq cL.symm) (by rw[←z];exact hb)
 have free:H' ce.locals=none:=I2.free
 have key:∃m,h1.Ns s3.heap.objs.size m∧∀h',Heap.SameBut s3.heap.objs.size h1 h'→∀iz:Env,iz.locals=s3.heap.objs.size→wpAny (model X.prog X.w) X.A (PySem.passOn "comprehension.variables-let-go" (.ref a) iz:Sem Value) (fun _ _=>False) X.xe {s2 with heap:=h'}:=by
  rw[←cL]
  refine⟨m,hm1,fun h' sb iz hl=>?_⟩
  obtain⟨oc,es,ep,hoc,hdc,_⟩:=hm1
  have fa:yg (PySem.W.hideAll B [ce.locals]) (X.env::X.outer) a (.ref C) a0 (rawInt X.env.locals) h':=yg.less hh hoc hdc nfr sb
  refine Pq (s:={s2 with heap:=h'}) fa fun h2 f2 up2=>bx.xe _ _ ?_
  refine Nl (s:={s2 with heap:=h2}) DJ bx.fr f2 fun h4 f4 up4=>?_
  have ad9:∀b,b≠ce.locals→(∃o',B.get? b=some o')→∃o',(PySem.W.hideAll B [ce.locals]).get? b=some o':=fun b n ⟨o',q⟩=>⟨o',PySem.W.hideAll_get _ q (by simpa using n)⟩
  have ZF:∀b o,H' b=some o→∃o',(PySem.W.hideAll B [ce.locals]).get? b=some o':=fun b o q=>ad9 b (fun z=>by rw[z,free]at q;cases q) (yr b o q)
  have old:∀b,(X.s₀.heap.get? b).isSome=true→b≠ce.locals:=fun b hs z=>by
   cases q:X.s₀.heap.get? b with
   |none=>rw[q]at hs;cases hs
   |some o =>
    have h1:=Heap.lt_size q
    have h2:=I3.sz
    rw[z,cL]at h1
    exact absurd h1 (Nat.not_lt.mpr h2)
  have aea:∀b,(X.s₀.heap.get? b).isSome=true→b∉wq X.stack→∃o',(PySem.W.hideAll B [ce.locals]).get? b=some o':=fun b hs n=>by
   refine ad9 b (old b hs) ?_
   cases q:X.s₀.heap.get? b with
   |none=>rw[q]at hs;cases hs
   |some o0 =>
    obtain⟨o1,e1⟩:=I3.base.there b o0 q (by rw[bx.ex];simp)
    have hbf:b∉fp:=fun hb=>by
     rcases(f3 b hb).1.2.2.2.1 with z|z
     ·rw[bx.ex]at z;cases z
     ·exact absurd (Heap.lt_size q) (Nat.not_lt.mpr z)
    obtain⟨o2,e2⟩:=I.base.there b o1 e1 hbf
    exact J7 b o2 e2 n
  have stB:(PySem.W.hideAll B [ce.locals]).StaysIn s2.heap:=fun b o q=>fl.1 b o (PySem.W.of_hideAll _ q)
  obtain⟨u,k⟩:=IX.ahC bx.ex (B:=PySem.W.hideAll B [ce.locals]) (h'':=h4) (fun b o _ n hs=>aea b hs n) ZF stB f4.1 (fun b hb o e=>by
   obtain⟨_,o',e',nf⟩:=IX.yn.mem hb
   rw[e]at e'
   cases e'
   obtain⟨sl1,e1⟩:=up1 b o e nf
   have e2:h'.get? b=some {o with slots:=sl1}:=(sb.2 b (nfs b hb)).trans e1
   obtain⟨sl3,e3⟩:=up2 b _ e2 nf
   obtain⟨sl4,e4⟩:=up4 b _ e3 nf
   exact⟨sl4,e4⟩)
  refine⟨a,C,a0,_,H',rfl,f4,IX.os,IX.bare,u,k,fun b o q n=>?_,ZF,hE⟩
  refine aea b (by rw[q];rfl) fun hb=>?_
  rw[bx.st]at hb
  have hb':b∈wq (X.env::X.outer):=hb
  unfold wq at hb'
  rw[List.filterMap_cons,bx.fr]at hb'
  rcases List.mem_cons.mp hb' with z|z
  ·have h1:=Heap.lt_size q
   rw[z]at h1
   exact absurd h1 (Nat.not_lt.mpr I3.ok.above)
  ·exact n z
 cases use<;>exact key
section
variable {X:Cx}
abbrev SF (X:Cx) (s:Shared) (H:Hp) (scope:Scope) (cl:List (Str×Addr)) (C:Addr) (fp:List Addr) (W:Value→Shared→Prop):Cx:=(X.Hb s H scope (compEnvC scope cl C X.env) fp).DH W
theorem Cp {E:XK} {elt tg iter:Expr} {ifs:List Expr} {scope:Scope} {own:List (Str×Nat)} {pos:Pos} {wi:TI} {g:TG} {tt:TT} {te:TE} (bx:Vl X E) (hc:X.calm=true) (hN:X.N.Nodup) (hi:PI X tg iter wi) (ok:Mf X.N X.env.scope scope own)
 (hg:∀s H C cl fp W,PG (SF X s H scope cl C fp W) tg g) (ht:∀s H C cl fp W,Passes (t7 X.prog X.w) (SF X s H scope cl C fp W) E→PTs (SF X s H scope cl C fp W) ifs tt)
 (he:∀s H C cl fp W,Passes (t7 X.prog X.w) (SF X s H scope cl C fp W) E→PE (SF X s H scope cl C fp W) elt te) (hs:∀x,foldedSetIterable iter X.env x=pure x:=by intro _;rfl) :
 PE X (.ListComp elt [⟨tg,iter,ifs,0⟩] scope pos) (tLc wi g tt te (own.map (·.2))):=by
 intro pins s σ H Q I h
 rw[eval_ListComp]
 have CH:∀y∈scope.names,y.2 = .free→∃c,X.env.cells.lookup y.1=some c:=fun y hy e=>by
  rcases ok.free y hy e with k|k
  ·exact I.ok.has _ (.inl k)
  ·exact I.ok.has _ (.inr k)
 refine wpAny_comprehension_free (use:=none) rfl hs (Fd CH) ok.kind (fun y hy e=>by rw[ok.uniq y hy,e])
  (dj (hi pins s σ H _ I h) fun xv s1 hx=>dj hx fun itv s2 h2=>?_)
 obtain⟨it,fp,tn,J,H2,e,I2,T,st2,f2,q⟩:=h2
 subst e
 refine wpAny_newObj_type (CL ?_) (by show 0≤sizeLine;decide)
 generalize hD:s2.heap.objs.size=D
 have hDn:H2 D=none:=I2.cD.fresh (Nat.le_of_eq hD)
 obtain⟨W,⟨m0,w0⟩,turn⟩:=q D hDn
 generalize Oq:({s2 with heap:=s2.heap.push {cls:=.type "list",data:=.seq ([]:List Value).toArray}}:Shared)=s3
 have I3:Inv X pins σ (upd H2 D (.lst [])) s3:=by
  rw[←Oq]
  refine I2.laid (t':=s2.toks) (fun b o e=>Heap.get?_push_of_some _ e) (Nat.le_of_eq hD) ⟨Nat.zero_le _,[],0,.nil,?_⟩
  rw[←hD]
  exact Heap.get?_push_size _ rfl
 have h3:s3.heap=s2.heap.push {cls:=.type "list",data:=.seq ([]:List Value).toArray}:=by rw[←Oq]
 have sz:∀b∈fp,b<s2.heap.objs.size:=fun b hb=>by
  obtain⟨o,e,_⟩:=T.obj _ _ st2 b hb
  exact Heap.lt_size e
 have f3:∀b∈fp,yo X pins (upd H2 D (.lst [])) b∧b<s3.heap.objs.size:=fun b hb=>by
  have oQ:=sz b hb
  refine⟨⟨?_,(f2 b hb).2⟩,by rw[h3,Heap.size_push];exact Nat.lt_succ_of_lt oQ⟩
  rw[aj (by rw[←hD];exact Nat.ne_of_lt oQ)]
  exact(f2 b hb).1
 have st3:tn 0 s3.heap:=T.keep _ _ _ st2 fun b _ o e=>by rw[h3];exact Heap.get?_push_of_some _ e
 have I4:=CM I3 ok hN f3
 show codeAny _ _ (.compStart (.ListComp elt [⟨tg,iter,ifs,0⟩] scope pos) 0 (.ref it) (.ref D) (compEnvC scope (cellsFrom (s3.heap.objs.size+1) scope.names (cX X.env.cells scope.names [])) s3.heap.objs.size X.env)) (compPost (model X.prog X.w) X.A X.xe none (EP X pins σ Q) (.ref D) s3.heap.objs.size) {s3 with heap:=pushCells (s3.heap.push {cls:=.type "dict",data:=.dict #[]}) scope.names}
 generalize oJ:cellsFrom (s3.heap.objs.size+1) scope.names (cX X.env.cells scope.names [])=cl at I4 ⊢
 generalize hW:(notedBy (model X.prog X.w) X.A (compEnvC scope cl s3.heap.objs.size X.env) fun e s'=>compPost (model X.prog X.w) X.A X.xe none (EP X pins σ Q) (.ref D) s3.heap.objs.size (.error e) s')=WX
 have pass:Passes (t7 X.prog X.w) (SF X s3 (upd H2 D (.lst [])) scope cl s3.heap.objs.size fp WX) E:=by
  rw[←hW]
  exact abD bx I3 (ce:=compEnvC scope cl s3.heap.objs.size X.env) rfl rfl f3
 have I4:=I4.DH WX
 have pg:PG ((X.Hb s3 (upd H2 D (.lst [])) scope (compEnvC scope cl s3.heap.objs.size X.env) fp).DH WX) tg g:=hg s3 (upd H2 D (.lst [])) s3.heap.objs.size cl fp WX
 have pt:PTs ((X.Hb s3 (upd H2 D (.lst [])) scope (compEnvC scope cl s3.heap.objs.size X.env) fp).DH WX) ifs tt:=ht s3 (upd H2 D (.lst [])) s3.heap.objs.size cl fp WX pass
 have pe:PE ((X.Hb s3 (upd H2 D (.lst [])) scope (compEnvC scope cl s3.heap.objs.size X.env) fp).DH WX) elt te:=he s3 (upd H2 D (.lst [])) s3.heap.objs.size cl fp WX pass
 have nfp:∀b∈fp,(upd H2 D (.lst [])) b=none:=fun b hb=>(f3 b hb).1.1
 generalize hce:compEnvC scope cl s3.heap.objs.size X.env=ce at I4 pg pt pe pass hW ⊢
 have cL:ce.locals=s3.heap.objs.size:=by subst hce;rfl
 generalize hH3:upd H2 D (.lst [])=H3 at I3 I4 pg pt pe w0 nfp f3
 generalize hs4:({s3 with heap:=pushCells (s3.heap.push {cls:=.type "dict",data:=.dict #[]}) scope.names}:Shared)=s4 at I4 ⊢
 have st4:tn 0 s4.heap:=T.keep _ _ _ st3 fun b _ o e=>by rw[←hs4];exact pushCells_keeps _ _ _ _ (Heap.get?_push_of_some _ e)
 generalize hY:(X.Hb s3 H3 scope ce fp).DH WX=Y at I4 pg pt pe
 have yP:Y.prog=X.prog:=by subst hY;rfl
 have yw:Y.w=X.w:=by subst hY;rfl
 have yK:Y.K=X.K:=by subst hY;rfl
 have yA:Y.A=X.A:=by subst hY;rfl
 have yc:Y.calm=true:=by subst hY;exact hc
 have yx:Y.xe=WX:=by subst hY;rfl
 have ye:Y.env=ce:=by subst hY;rfl
 have EX:∀{σ':St} {H':Hp} {s':Shared},Inv Y [] σ' H' s'→(∀b∈fp,H' b=none)→∀b∈fp,yo Y [] H' b:=fun{σ' H' s'} I' hn b hb=>by
  have hbx:b∈Y.ex:=by subst hY;exact hb
  refine⟨hn b hb,(I'.ok.exf b hbx).1,I'.ok.N6 b hbx,.inl hbx,fun x c e=>(I'.ok.exf b hbx).2 x c e,fun p hp=>?_⟩
  have hp:p∈([]:List (Addr×Obj))++[]:=by subst hY;exact hp
  exact absurd hp (by simp)
 have back:∀{σ':St} {H':Hp} {s':Shared},Inv Y [] σ' H' s'→Inv X pins σ H' s':=fun{σ' H' s'} I'=>by
  subst hY
  exact I3.IQ (ch:=fp) I'.os I'.base I'.cD I'.bare fun b hb=>⟨(f3 b hb).1.2.2.2.1,(f3 b hb).1.2.1,(f3 b hb).1.2.2.2.2.1,(f3 b hb).1.2.2.2.2.2⟩
 have loop:codeAny (model X.prog X.w) X.A (.compLoop (.ListComp elt [⟨tg,iter,ifs,0⟩] scope pos) 0 (.ref it) (.ref D) ce) (compPost (model X.prog X.w) X.A X.xe none (EP X pins σ Q) (.ref D) s3.heap.objs.size) s4:=by
  refine zU (fun n s'=>∃i H',Inv Y [] (wipe σ (own.map (·.2))) H' s'∧tn i s'.heap∧(∀b∈fp,H' b=none)∧W i n H') ?_ m0 ⟨0,H3,I4,st4,nfp,w0⟩
  rintro n s5 ⟨i,H5,I5,WR,n5,w5⟩
  rw[hW]
  rcases turn i n H5 w5 with⟨stop,qq⟩|⟨go,Nx,hNx,step⟩
  ·have td:=T.done Y yP yw yK yc i [] s5 _ H5 WX I5 (EX I5 n5) WR stop
   rw[yA]at td
   refine dj td fun r s6 ⟨hr,I6⟩=>?_
   subst hr
   have I7:Inv X pins σ H5 s6:=back I6
   have nC:H5 s3.heap.objs.size=none:=by
    have z:H5 Y.env.locals=none:=I6.free
    rw[ye,cL]at z
    exact z
   obtain⟨m,hn,_⟩:=I6.loc
   have hn:s6.heap.Ns Y.env.locals m:=hn
   rw[ye,cL]at hn
   obtain⟨f0,f1,f2,f3,f4,f5⟩:=I3.L6 (Nat.le_refl _) nC
   refine⟨m,hn,fun h'' sb=>⟨.ref D,H5,I7.turned (t':=s6.toks) (fun b o hb e=>(sb.2 b hb).trans e) f0 f1 f3 f4 f5,rfl,qq⟩⟩
  ·have ti:=T.item Y yP yw yK yc i [] s5 _ H5 WX I5 (EX I5 n5) WR go
   rw[yA]at ti
   refine dj ti fun r s6 ⟨u,hr,h6⟩=>?_
   subst hr
   refine dj h6 fun _ s7 ⟨x,H7,I7,r7,y7,st7,n7⟩=>?_
   have I7':=I7.pinned (EX I7 n7) (T.obj _ _ st7)
   have a1:=pg _ s7 _ H7 x u _ I7' r7 (step x H7 y7)
   rw[yP,yw,yA,yx,ye]at a1
   refine dj a1 fun _ s8 ⟨σ8,H8,I8,QM,q8⟩=>?_
   have a2:=pt _ s8 σ8 H8 _ I8 q8
   rw[yP,yw,yA,yx,ye]at a2
   refine dj a2 fun b s9 ⟨H9,I9,q9⟩=>?_
   have fin:∀{s':Shared} {H':Hp},Inv Y ([]++BB fp s7.heap) σ8 H' s'→Nx H'→∃m,m<n∧∃i H',Inv Y [] (wipe σ (own.map (·.2))) H' s'∧tn i s'.heap∧(∀b∈fp,H' b=none)∧W i m H':=fun{s' H'} I' nx=>by
    obtain⟨m',hm,w'⟩:=hNx H' nx
    have Uk:∀b∈fp,∀o,s7.heap.get? b=some o→s'.heap.get? b=some o∧H' b=none:=fun b hb o e =>
     let z:=I'.pin (b,o) (List.mem_append_right _ (List.mem_append_right _ (rq hb e)))
     ⟨z.1,z.2.1⟩
    have hl:(wipe σ (own.map (·.2))).length=σ8.length:=by rw[←QM,oU]
    refine⟨m',hm,i+1,H',(I'.uc (pins:=[])).weak hl (fun j v e=>?_),T.keep _ _ _ st7 fun b hb o e=>(Uk b hb o e).1,fun b hb=>?_,w'⟩
    ·rw[←QM]at e
     exact(wy e).1
    ·obtain⟨o,e,_⟩:=T.obj _ _ st7 b hb
     exact(Uk b hb o e).2
   cases b with
   |false =>
    simp only[Bool.false_eq_true,if_false]at q9 ⊢
    exact fin I9 q9
   |true =>
    simp only[if_true]at q9 ⊢
    have a3:=pe _ s9 σ8 H9 _ I9 q9
    rw[yP,yw,yA,yx,ye]at a3
    refine dj a3 fun z s10 ⟨yv,H10,I10,r10,acc,aaI,aaJ,nx⟩=>?_
    have a4:=Uj (E:=WX) (Q:=fun _ s11=>∃m,m<n∧∃i H',Inv Y [] (wipe σ (own.map (·.2))) H' s11∧tn i s11.heap∧(∀b∈fp,H' b=none)∧W i m H') I10 aaI aaJ r10 fun s11 I11=>fin I11 nx
    rw[yP,yw,yA]at a4
    exact a4
 exact codeAny_compStart_list loop (T.self X.A 0 _ _ _ st4 loop)
end
end L2
namespace MI
open PySem L2
def yh (a:Ad) (H:Hp) (x:Addr) (s:Rc31.Segment) (n:Nat):Prop:=∃dx,H x=some (.ins a.cA dx (jA (.int (s.at_:Int)) (.int (s.size:Int)) (.int (s.file:Int)) (.int (s.raw:Int)) (.int (s.rights:Int)) (.int (n:Int))))
def kn (c:List UInt8):Rc31.Segment:=⟨Rc31.num c 24 8,Rc31.num c 32 8,Rc31.num c 40 8,Rc31.num c 48 8,Rc31.num c 60 4⟩
theorem ax.tP {H H1:Hp} {x dx C:Addr} (nx:H x=none) (nd:H dx=none) (k:Kp (At x) (upd (upd H dx (.own x)) x (.ins C dx [])) H1):ax H H1:=ax.made nx nd fun b o e n=>k b o e n
section
variable {g:Gm} {a:Ad}
def Io (a:Ad):Sp:=fun vs H Q E=>∃(x dx r:Addr) (c:List UInt8),vs=[.ref x,.ref r]∧H x=some (.ins a.cA dx [])∧H r=some (.lst (bv c))∧∀H',yh a H' x (kn c) (Rc31.num c 64 4)→Kp (At x) H H'→Q .de H'
theorem Ek (T:Tx g.K g.mg a):Pr g 2 a.rS ["self","command"] (Io a):=by
 have N:=cp T
 refine Pr.on T.u3 DP fun cF A outer s H vs Q E hr h=>?_
 obtain⟨x,dx,r,c,rfl,hx,hc,k⟩:=h
 refine⟨_,ae (aT (pv 0) (aU N au hr (by decide) T.a7 (aa (pv 1) (aa ak (aa ak ai)))) rfl)
  (ae (aT (pv 0) (aU N au hr (by decide) T.a7 (aa (pv 1) (aa ak (aa ak ai)))) rfl)
  (ae (aT (pv 0) (aU N au hr (by decide) T.a7 (aa (pv 1) (aa ak (aa ak ai)))) rfl)
  (ae (aT (pv 0) (aU N au hr (by decide) T.a7 (aa (pv 1) (aa ak (aa ak ai)))) rfl)
  (ae (aT (pv 0) (aU N au hr (by decide) T.a7 (aa (pv 1) (aa ak (aa ak ai)))) rfl)
  (ag (aT (pv 0) (aU N au hr (by decide) T.a7 (aa (pv 1) (aa ak (aa ak ai)))) rfl)))))),?_⟩
 have nrx:r≠x:=cQ hc hx (by intro z;cases z)
 have st:∀{H0 H1:Hp} {u:HO},Kp (At x) H H0→H0 r=some (.lst (bv c))→ax H0 H1→Kp (At x) H (upd H1 x u)∧(upd H1 x u) r=some (.lst (bv c)):=fun{H0 H1 u} k0 h0 s1 =>
  ⟨(k0.step (Kp.same (S:=At x) s1) fun _ z=>.inl z).step (Kp.upd (S:=At x) (.inl rfl)) fun _ z=>.inl z,by rw[aj nrx];exact s1 _ _ h0⟩
 refine⟨_,rfl,r,c,24,8,rfl,hc,fun H1 s1=>⟨_,rfl,x,_,dx,_,rfl,s1 _ _ hx,T.aG,T.aX,(by show 0<1000;decide),?_⟩⟩
 obtain⟨k1,c1⟩:=st Kp.refl hc s1 (u:=.ins a.cA dx (aF "place" (.int (Rc31.num c 24 8:Nat)) []))
 refine⟨_,rfl,r,c,32,8,rfl,c1,fun H2 s2=>⟨_,rfl,x,_,dx,_,rfl,s2 _ _ af,T.aG,T.cg,(by show 1<1000;decide),?_⟩⟩
 obtain⟨k2,c2⟩:=st k1 c1 s2 (u:=.ins a.cA dx (aF "size" (.int (Rc31.num c 32 8:Nat)) (aF "place" (.int (Rc31.num c 24 8:Nat)) [])))
 refine⟨_,rfl,r,c,40,8,rfl,c2,fun H3 s3=>⟨_,rfl,x,_,dx,_,rfl,s3 _ _ af,T.aG,T.cy,?_,?_⟩⟩
 ·rw[QR,aa2 Ht,QR];show 2<1000;decide
 obtain⟨k3,c3⟩:=st k2 c2 s3 (u:=.ins a.cA dx (aF "source" (.int (Rc31.num c 40 8:Nat)) (aF "size" (.int (Rc31.num c 32 8:Nat)) (aF "place" (.int (Rc31.num c 24 8:Nat)) []))))
 refine⟨_,rfl,r,c,48,8,rfl,c3,fun H4 s4=>⟨_,rfl,x,_,dx,_,rfl,s4 _ _ af,T.aG,T.bK,?_,?_⟩⟩
 ·exact Nat.lt_of_le_of_lt (bh _ _ _) (Nat.lt_of_le_of_lt (Nat.succ_le_succ (bh _ _ _)) (Nat.lt_of_le_of_lt (Nat.succ_le_succ (Nat.succ_le_succ (bh _ _ _))) (by show 0+1+1+1<1000;decide)))
 obtain⟨k4,c4⟩:=st k3 c3 s4 (u:=.ins a.cA dx (aF "filled" (.int (Rc31.num c 48 8:Nat)) (aF "source" (.int (Rc31.num c 40 8:Nat)) (aF "size" (.int (Rc31.num c 32 8:Nat)) (aF "place" (.int (Rc31.num c 24 8:Nat)) [])))))
 have l4:(aF "filled" (.int (Rc31.num c 48 8:Nat)) (aF "source" (.int (Rc31.num c 40 8:Nat)) (aF "size" (.int (Rc31.num c 32 8:Nat)) (aF "place" (.int (Rc31.num c 24 8:Nat)) [])))).length<900 :=
  Nat.lt_of_le_of_lt (bh _ _ _) (Nat.lt_of_le_of_lt (Nat.succ_le_succ (bh _ _ _)) (Nat.lt_of_le_of_lt (Nat.succ_le_succ (Nat.succ_le_succ (bh _ _ _))) (Nat.lt_of_le_of_lt (Nat.succ_le_succ (Nat.succ_le_succ (Nat.succ_le_succ (bh _ _ _)))) (by show 0+1+1+1+1<900;decide))))
 refine⟨_,rfl,r,c,60,4,rfl,c4,fun H5 s5=>⟨_,rfl,x,_,dx,_,rfl,s5 _ _ af,T.aG,T.da,Nat.lt_trans l4 (by decide),?_⟩⟩
 obtain⟨k5,c5⟩:=st k4 c4 s5 (u:=.ins a.cA dx (aF "rights" (.int (Rc31.num c 60 4:Nat)) (aF "filled" (.int (Rc31.num c 48 8:Nat)) (aF "source" (.int (Rc31.num c 40 8:Nat)) (aF "size" (.int (Rc31.num c 32 8:Nat)) (aF "place" (.int (Rc31.num c 24 8:Nat)) []))))))
 refine⟨_,rfl,r,c,64,4,rfl,c5,fun H6 s6=>⟨_,rfl,x,_,dx,_,rfl,s6 _ _ af,T.aG,T.dP,Nat.lt_of_le_of_lt (bh _ _ _) (Nat.lt_of_lt_of_le (Nat.succ_lt_succ l4) (by decide)),?_⟩⟩
 obtain⟨k6,c6⟩:=st k5 c5 s6 (u:=.ins a.cA dx (aF "sections" (.int (Rc31.num c 64 4:Nat)) (aF "rights" (.int (Rc31.num c 60 4:Nat)) (aF "filled" (.int (Rc31.num c 48 8:Nat)) (aF "source" (.int (Rc31.num c 40 8:Nat)) (aF "size" (.int (Rc31.num c 32 8:Nat)) (aF "place" (.int (Rc31.num c 24 8:Nat)) [])))))))
 refine k _ ⟨dx,?_⟩ k6
 refine Eq.trans af ?_
 exact congrArg (fun q=>some (HO.ins a.cA dx q)) Ks
end
end MI
namespace MI
open PySem L2
theorem jh {f:Str} {v:V} {fs:List (Str×V)} {n:Nat} (h:fs.length≤n):(aF f v fs).length≤n+1:=Nat.le_trans (bh _ _ _) (Nat.succ_le_succ h)
theorem pl1 {f0:Str} {v0:V}:(aF f0 v0 []).length<1000:=Nat.lt_of_le_of_lt (jh (Nat.le_refl 0)) (by decide)
theorem pl2 {f0 f1:Str} {v0 v1:V}:(aF f1 v1 (aF f0 v0 [])).length<1000:=Nat.lt_of_le_of_lt (jh (jh (Nat.le_refl 0))) (by decide)
theorem pl3 {f0 f1 f2:Str} {v0 v1 v2:V}:(aF f2 v2 (aF f1 v1 (aF f0 v0 []))).length<1000:=Nat.lt_of_le_of_lt (jh (jh (jh (Nat.le_refl 0)))) (by decide)
theorem pl4 {f0 f1 f2 f3:Str} {v0 v1 v2 v3:V}:(aF f3 v3 (aF f2 v2 (aF f1 v1 (aF f0 v0 [])))).length<1000:=Nat.lt_of_le_of_lt (jh (jh (jh (jh (Nat.le_refl 0))))) (by decide)
theorem pl5 {f0 f1 f2 f3 f4:Str} {v0 v1 v2 v3 v4:V}:(aF f4 v4 (aF f3 v3 (aF f2 v2 (aF f1 v1 (aF f0 v0 []))))).length<1000:=Nat.lt_of_le_of_lt (jh (jh (jh (jh (jh (Nat.le_refl 0)))))) (by decide)
theorem pl6 {f0 f1 f2 f3 f4 f5:Str} {v0 v1 v2 v3 v4 v5:V}:(aF f5 v5 (aF f4 v4 (aF f3 v3 (aF f2 v2 (aF f1 v1 (aF f0 v0 [])))))).length<1000:=Nat.lt_of_le_of_lt (jh (jh (jh (jh (jh (jh (Nat.le_refl 0))))))) (by decide)
def Q7:Option Nat→V→Prop
 |none,v=>v = .de
 |some e,v=>v = .int (e:Int)
def sU (H:Hp) (b:List UInt8) (as:List Addr):Option (Rc31.Dir×Rc31.Dir×Rc31.Dir)→V→Prop
 |none,v=>v = .de∧as=[]
 |some (d1,d2,d3),v=>∃p q1 q2 q3,v = .ref p∧as=[p,q1,q2,q3]∧H p=some (.lst [.ref q1,.ref q2,.ref q3])∧H q1=some (.lst (bv (Rc31.part b d1)))∧H q2=some (.lst (bv (Rc31.part b d2)))∧H q3=some (.lst (bv (Rc31.part b d3)))
theorem sU.keep {H H':Hp} {b:List UInt8} {as:List Addr}:∀{i:Option (Rc31.Dir×Rc31.Dir×Rc31.Dir)} {v:V},sU H b as i v→(∀y∈as,∀xs,H y=some (.lst xs)→H' y=some (.lst xs))→sU H' b as i v
 |none,v,h,_=>h
 |some (d1,d2,d3),v,⟨p,q1,q2,q3,e,ea,h0,h1,h2,h3⟩,k=>⟨p,q1,q2,q3,e,ea,k p (by rw[ea];simp) _ h0,k q1 (by rw[ea];simp) _ h1,k q2 (by rw[ea];simp) _ h2,k q3 (by rw[ea];simp) _ h3⟩
abbrev jd (a:Ad) (H:Hp) (sa:List Addr) (ss:List Rc31.Segment):Prop:=Paired (fun x s=>∃n,yh a H x s n) sa ss
abbrev abF (H:Hp) (la:List Addr) (ls:List (List UInt8)):Prop:=Paired (fun x l=>H x=some (.lst (bv l))) la ls
theorem bc {α β:Type} {F G:α→β→Prop}:∀{l:List α} {m:List β},Paired F l m→(∀x∈l,∀y,F x y→G x y)→Paired G l m
 |_,_,.nil,_=>.nil
 |_,_,.cons r t,f=>.cons (f _ List.mem_cons_self _ r) (bc t fun x hx=>f x (List.mem_cons_of_mem _ hx))
theorem gv {α β:Type} {F:α→β→Prop}:∀{l:List α} {m:List β} {x:α} {y:β},Paired F l m→F x y→Paired F (l++[x]) (m++[y])
 |_,_,_,_,.nil,h=>.cons h .nil
 |_,_,_,_,.cons r t,h=>.cons r (gv t h)
theorem bu {α β:Type} {F:α→β→Prop}:∀{l:List α} {m:List β},Paired F l m→l.length=m.length
 |_,_,.nil=>rfl
 |_,_,.cons _ t=>congrArg (·+1) (bu t)
structure zr (a:Ad) (H:Hp) (p ls ll:Addr) (b:List UInt8) (reach:Nat) (t:Rc31.Told) (dx:Addr) (bg pt:V) (sa la as:List Addr):Prop where
 ob:H p=some (.ins a.bU dx (cO (.int (reach:Int)) (.ref ls) (.ref ll) bg pt))
 bg:Q7 t.entry bg
 pt:sU H b as t.info pt
 hs:H ls=some (.lst (sa.map V.ref))
 oF:jd a H sa t.segments
 hl:H ll=some (.lst (la.map V.ref))
 libs:abF H la t.libraries
 ne:ls≠ll
 off:∀y∈la++as,y≠ls∧y≠ll
 fresh:∀z,H z=none→a.new z
 Fc:∀y∈la,a.new y
theorem fw {H:Hp} {x z:Addr} {o:HO} (e:upd H x o z=none):H z=none:=by
 by_cases h:z=x
 ·rw[h,af]at e
  cases e
 ·rw[aj h]at e
  exact e
def lU (a:Ad) (H:Hp) (p ls ll:Addr) (b:List UInt8) (reach:Nat) (t:Rc31.Told):Prop:=∃dx bg pt sa la as,zr a H p ls ll b reach t dx bg pt sa la as
abbrev In3 (p q r:Addr):Addr→Prop:=fun b=>b=p∨b=q∨b=r
section
variable {a:Ad} {H H':Hp} {p ls ll:Addr} {b:List UInt8} {reach:Nat} {t:Rc31.Told} {dx:Addr} {bg pt:V} {sa la as:List Addr}
theorem yh.keep {x:Addr} {s:Rc31.Segment} {n:Nat} (h:yh a H x s n) (k:∀C d fs,H x=some (.ins C d fs)→H' x=some (.ins C d fs)):yh a H' x s n:=by
 obtain⟨d,e⟩:=h
 exact⟨d,k _ _ _ e⟩
theorem zr.same (h:zr a H p ls ll b reach t dx bg pt sa la as) (s:ax H H'):zr a H' p ls ll b reach t dx bg pt sa la as :=
 ⟨s _ _ h.ob,h.bg,h.pt.keep fun _ _ _ e=>s _ _ e,s _ _ h.hs,bc h.oF fun x _ y ⟨n,q⟩=>⟨n,q.keep fun _ _ _ e=>s _ _ e⟩,s _ _ h.hl,bc h.libs fun x _ y q=>s _ _ q,h.ne,h.off,fun z e=>h.fresh z (s.free e),h.Fc⟩
theorem lU.same (h:lU a H p ls ll b reach t) (s:ax H H'):lU a H' p ls ll b reach t:=by
 obtain⟨dx,bg,pt,sa,la,as,h⟩:=h
 exact⟨dx,bg,pt,sa,la,as,h.same s⟩
theorem zr.lsp (h:zr a H p ls ll b reach t dx bg pt sa la as):ls≠p:=cQ h.hs h.ob (by intro z;cases z)
theorem zr.llp (h:zr a H p ls ll b reach t dx bg pt sa la as):ll≠p:=cQ h.hl h.ob (by intro z;cases z)
theorem zr.abG (h:zr a H p ls ll b reach t dx bg pt sa la as) {x:Addr} {s:Rc31.Segment} {n:Nat} (hx:yh a H x s n):lU a (upd H ls (.lst (sa.map V.ref++[.ref x]))) p ls ll b reach {t with segments:=t.segments++[s]}:=by
 have Q8:∀{y C d:Addr} {fs:List (Str×V)},H y=some (.ins C d fs)→y≠ls:=fun e=>cQ e h.hs (by intro z;cases z)
 refine⟨dx,bg,pt,sa++[x],la,as,⟨by rw[aj h.lsp.symm];exact h.ob,h.bg,h.pt.keep fun y hy xs e=>by rw[aj (h.off y (List.mem_append_right _ hy)).1];exact e,by rw[af,List.map_append];rfl,?_,by rw[aj h.ne.symm];exact h.hl,
  bc h.libs fun y hy l e=>by rw[aj (h.off y (List.mem_append_left _ hy)).1];exact e,h.ne,h.off,fun z e=>h.fresh z (fw e),h.Fc⟩⟩
 refine gv (bc h.oF fun y _ s ⟨n,q⟩=>⟨n,q.keep fun _ _ _ e=>by rw[aj (Q8 e)];exact e⟩) ⟨n,hx.keep fun _ _ _ e=>by rw[aj (Q8 e)];exact e⟩
theorem zr.abH (h:zr a H p ls ll b reach t dx bg pt sa la as) {x:Addr} {l:List UInt8} (hx:H x=some (.lst (bv l))) (hn:a.new x) (n1:x≠ls) (n2:x≠ll):lU a (upd H ll (.lst (la.map V.ref++[.ref x]))) p ls ll b reach {t with libraries:=t.libraries++[l]}:=by
 have Q8:∀{y C d:Addr} {fs:List (Str×V)},H y=some (.ins C d fs)→y≠ll:=fun e=>cQ e h.hl (by intro z;cases z)
 refine⟨dx,bg,pt,sa,la++[x],as,⟨by rw[aj h.llp.symm];exact h.ob,h.bg,h.pt.keep fun y hy xs e=>by rw[aj (h.off y (List.mem_append_right _ hy)).2];exact e,by rw[aj h.ne];exact h.hs,?_,by rw[af,List.map_append];rfl,
  ?_,h.ne,fun y hy=>?_,fun z e=>h.fresh z (fw e),fun y hy=>(List.mem_append.mp hy).elim (h.Fc y) fun q=>by rw[List.mem_singleton.mp q];exact hn⟩⟩
 ·exact bc h.oF fun y _ s ⟨n,q⟩=>⟨n,q.keep fun _ _ _ e=>by rw[aj (Q8 e)];exact e⟩
 ·exact gv (bc h.libs fun y hy l e=>by rw[aj (h.off y (List.mem_append_left _ hy)).2];exact e) (by rw[aj n2];exact hx)
 ·rw[List.append_assoc]at hy
  rcases List.mem_append.mp hy with q|q
  ·exact h.off y (List.mem_append_left _ q)
  ·rcases List.mem_append.mp q with q|q
   ·obtain rfl:y=x:=by simpa using q
    exact⟨n1,n2⟩
   ·exact h.off y (List.mem_append_right _ q)
theorem zr.Pt (h:zr a H p ls ll b reach t dx bg pt sa la as) {reach':Nat} {bg' pt':V} {as':List Addr} {t':Rc31.Told} (e1:t'.segments=t.segments) (e2:t'.libraries=t.libraries) (hb:Q7 t'.entry bg') (hp:sU H b as' t'.info pt') (ho:∀y∈as',y≠ls∧y≠ll) :
 lU a (upd H p (.ins a.bU dx (cO (.int (reach':Int)) (.ref ls) (.ref ll) bg' pt'))) p ls ll b reach' t':=by
 have ZG:∀{y:Addr} {xs:List V},H y=some (.lst xs)→y≠p:=fun e=>cQ e h.ob (by intro z;cases z)
 refine⟨dx,bg',pt',sa,la,as',⟨af,hb,hp.keep fun y hy xs e=>by rw[aj (ZG e)];exact e,by rw[aj h.lsp];exact h.hs,?_,by rw[aj h.llp];exact h.hl,?_,h.ne,fun y hy=>?_,fun z e=>h.fresh z (fw e),h.Fc⟩⟩
 ·rw[e1]
  exact bc h.oF fun y _ s ⟨n,d,e⟩=>⟨n,d,by rw[aj (cQ e h.ob (by intro z;injection z with _ _ z;have:=congrArg List.length z;cases this))];exact e⟩
 ·rw[e2]
  exact bc h.libs fun y hy l e=>by rw[aj (ZG e)];exact e
 ·rcases List.mem_append.mp hy with q|q
  ·exact h.off y (List.mem_append_left _ q)
  ·exact ho y q
end
section
variable {g:Gm} {a:Ad}
def Gw (a:Ad):Sp:=fun vs H Q E=>∃(p dx:Addr),vs=[.ref p]∧H p=some (.ins a.bU dx [])∧(∀z,H z=none→a.new z)∧∀H' ls ll,(∀b,lU a H' p ls ll b 32 {})→H ls=none→H ll=none→Kp (At p) H H'→Q .de H'
theorem Cq (T:Tx g.K g.mg a):Pr g 1 a.p7 ["self"] (Gw a):=by
 refine Pr.on T.tF BM fun cF A outer s H vs Q E hr h=>?_
 obtain⟨p,dx,rfl,hp,DJ,k⟩:=h
 refine⟨_,ae (aT (pv 0) (pk T.lQ) rfl) (ae (aT (pv 0) (cv ai) rfl) (ae (aT (pv 0) (cv ai) rfl) (ae (aT (pv 0) JV rfl) (ag (aT (pv 0) JV rfl))))),?_⟩
 refine⟨_,rfl,p,_,dx,_,rfl,hp,T.aM,T.bA,(by show 0<1000;decide),Nat.zero_le _,fun l1 n1=>?_⟩
 have np1:p≠l1:=ao af n1
 have h1:H l1=none:=by rw[aj np1.symm]at n1;exact n1
 refine⟨_,rfl,p,_,dx,_,rfl,(by rw[aj np1];exact af),T.aM,T.b6,(by show 1<1000;decide),Nat.zero_le _,fun l2 n2=>?_⟩
 have np2:p≠l2:=ao af n2
 have n12:l1≠l2:=ao (o:=.lst []) (by rw[aj np1.symm];exact af) n2
 have h2:H l2=none:=by rw[aj np2.symm,aj n12.symm,aj np2.symm]at n2;exact n2
 refine⟨_,rfl,p,_,dx,_,rfl,(by rw[aj np2];exact af),T.aM,T.bV,pl2,_,rfl,p,_,dx,_,rfl,af,T.aM,T.ba,pl3,_,rfl,p,_,dx,_,rfl,af,T.aM,T.cz,pl4,?_⟩
 have d:∀b,zr a (upd (upd (upd (upd (upd (upd (upd H p (.ins a.bU dx (aF "reach" (.int 32) []))) l1 (.lst [])) p (.ins a.bU dx (aF "segments" (.ref l1) (aF "reach" (.int 32) [])))) l2 (.lst [])) p (.ins a.bU dx (aF "libraries" (.ref l2) (aF "segments" (.ref l1) (aF "reach" (.int 32) []))))) p (.ins a.bU dx (aF "beginning" .de (aF "libraries" (.ref l2) (aF "segments" (.ref l1) (aF "reach" (.int 32) [])))))) p (.ins a.bU dx (aF "parts" .de (aF "beginning" .de (aF "libraries" (.ref l2) (aF "segments" (.ref l1) (aF "reach" (.int 32) []))))))) p l1 l2 b 32 {} dx .de .de [] [] []:=fun b =>
  ⟨Eq.trans af (congrArg (fun q=>some (HO.ins a.bU dx q)) Hu),rfl,⟨rfl,rfl⟩,by rw[aj np1.symm,aj np1.symm,aj np1.symm,aj n12,aj np1.symm,af];rfl,.nil,by rw[aj np2.symm,aj np2.symm,aj np2.symm,af];rfl,.nil,n12,(fun y hy=>by cases hy),(fun z e=>DJ z (fw (fw (fw (fw (fw (fw (fw e)))))))),(fun y hy=>by cases hy)⟩
 refine k _ l1 l2 (fun b=>⟨_,_,_,_,_,_,d b⟩) h1 h2 ?_
 refine(((((Kp.upd (S:=At p) (.inl rfl)).step (Kp.upd (S:=At l1) (.inl rfl)) ?_).step (Kp.upd (S:=At p) (.inl rfl)) fun _ z=>.inl z).step (Kp.upd (S:=At l2) (.inl rfl)) ?_).step (Kp.upd (S:=At p) (.inl rfl)) fun _ z=>.inl z).step (Kp.upd (S:=At p) (.inl rfl)) (fun _ z=>.inl z) |>.step (Kp.upd (S:=At p) (.inl rfl)) fun _ z=>.inl z
 ·rintro _ rfl
  exact .inr h1
 ·rintro _ rfl
  exact .inr h2
end
end MI
namespace MI
open PySem L2
theorem bo {i j:Int} (h:V.int i=V.int j):i=j:=by injection h
theorem bq {i j:Int} (h:¬V.int i=V.int j):i≠j:=fun z=>h (by rw[z])
section
variable {g:Gm} {a:Ad}
def zt (b:List UInt8):Prop:=32≤b.length∧Rc31.num b 0 4=0xFEEDFACF∧Rc31.num b 4 4=0x01000007∧(Rc31.num b 12 4=2∨Rc31.num b 12 4=6∨Rc31.num b 12 4=8)∧Rc31.num b 16 4≤256∧32+Rc31.num b 20 4≤b.length
def Nm (a:Ad):Sp:=fun vs H Q E=>∃(f:Addr) (b:List UInt8),vs=[.ref f]∧H f=some (.lst (bv b))∧(zt b→∀H',ax H H'→Q .de H')∧(¬zt b→∀H',ax H H'→E (.ref a.aE) none H')
theorem Ip (T:Tx g.K g.mg a):Pr g 2 a.yH ["file"] (Nm a):=by
 have N:=cp T
 have D:=aB T
 refine Pr.on T.Ak Hq fun cF A outer s H vs Q E hr h=>?_
 obtain⟨f,b,rfl,hf,k1,k0⟩:=h
 refine⟨_,ae (az D au hr (by decide) T.aA (aH zN (aV aJ (by rfl) T.eL PySem.boot_len (aa (pv 0) ai)) (pk T.lQ) (aC _)))
  (ae (az D au hr (by decide) T.aA (aH bZ (aU N au hr (by decide) T.a7 (aa (pv 0) (aa ak (aa ak ai)))) (pk T.QX) (aC _)))
  (ae (az D au hr (by decide) T.aA (aH bZ (aU N au hr (by decide) T.a7 (aa (pv 0) (aa ak (aa ak ai)))) (pk T.Dp) (aC _)))
  (ae (az D au hr (by decide) T.aA (aH BD (aU N au hr (by decide) T.a7 (aa (pv 0) (aa ak (aa ak ai)))) (pkr T.jT) (by with_unfolding_all rfl)))
  (ae (az D au hr (by decide) T.aA (aH iK (aU N au hr (by decide) T.a7 (aa (pv 0) (aa ak (aa ak ai)))) (pk T.tG) (aC _)))
  (ag (az D au hr (by decide) T.aA (aH iK (aO ck (pk T.lQ) (aU N au hr (by decide) T.a7 (aa (pv 0) (aa ak (aa ak ai))))) (aV aJ (by rfl) T.eL PySem.boot_len (aa (pv 0) ai)) (aC _)))))))),?_⟩
 refine⟨_,rfl,f,_,rfl,.inl (bO.of hf),_,_,rfl,rfl,_,rfl,aw (fun c1=>?_) fun c1=>k0 (fun z=>c1 (by rw[br];have:=z.1;omega)) _ (ax.refl _)⟩
 rw[br]at c1
 refine⟨_,rfl,f,b,0,4,rfl,hf,fun H1 s1=>⟨rfl,_,rfl,aw (fun c2=>?_) fun c2=>k0 (fun z=>bq c2 (by rw[z.2.1];rfl)) _ s1⟩⟩
 have c2:=bo c2
 have N4:=s1 _ _ hf
 refine⟨_,rfl,f,b,4,4,rfl,N4,fun H2 s2=>⟨rfl,_,rfl,aw (fun c3=>?_) fun c3=>k0 (fun z=>bq c3 (by rw[z.2.2.1];rfl)) _ (s1.trans s2)⟩⟩
 have c3:=bo c3
 have hf2:=s2 _ _ N4
 refine⟨_,rfl,f,b,12,4,rfl,hf2,fun H3 s3=>⟨_,_,rfl,.inr (T.AJ _),rfl,rfl,_,rfl,?_⟩⟩
 have s3:=(s1.trans s2).trans s3
 have hf3:=s3 _ _ hf
 have RF:(Uc (V.int ((Rc31.num b 12 4:Nat):Int)) [.int 2,.int 6,.int 8])=decide (Rc31.num b 12 4=2∨Rc31.num b 12 4=6∨Rc31.num b 12 4=8):=by
  generalize Rc31.num b 12 4=n
  rw[Bool.eq_iff_iff]
  simp[Uc,Ua]
  omega
 show if Uc (V.int ((Rc31.num b 12 4:Nat):Int)) [.int 2,.int 6,.int 8]=true then _ else _
 rw[RF]
 refine aw (fun c4=>?_) fun c4=>k0 (fun z=>c4 z.2.2.2.1) _ s3
 refine⟨_,rfl,f,b,16,4,rfl,hf3,fun H4 s4=>⟨_,_,rfl,rfl,_,rfl,aw (fun c5=>?_) fun c5=>k0 (fun z=>c5 (by have:=z.2.2.2.2.1;omega)) _ (s3.trans s4)⟩⟩
 have s4:=s3.trans s4
 refine⟨_,rfl,f,b,20,4,rfl,s4 _ _ hf,fun H5 s5=>⟨_,_,rfl,rfl,_,rfl,f,_,rfl,.inl (bO.of ((s4.trans s5) _ _ hf)),_,_,rfl,rfl,_,rfl,aw (fun c6=>?_) fun c6=>k0 (fun z=>c6 (by rw[br];have:=z.2.2.2.2.2;omega)) _ (s4.trans s5)⟩⟩
 rw[br]at c6
 exact k1 ⟨by omega,by omega,by omega,c4,by omega,by omega⟩ _ (s4.trans s5)
def Gx (a:Ad) (withFile:Bool) (f:List UInt8→List UInt8→Rc31.Told→Option Rc31.Told):Sp:=fun vs H Q E=>∃(p ls ll c fa:Addr) (b cb:List UInt8) (reach:Nat) (t:Rc31.Told),vs=(if withFile=true then[.ref p,.ref c,.ref fa] else[.ref p,.ref c])∧lU a H p ls ll b reach t∧t.segments.length<300∧t.libraries.length≤64∧H c=some (.lst (bv cb))∧H fa=some (.lst (bv b)) ∧
 (f b cb t=none→∀H',Kp (In3 p ls ll) H H'→E (.ref a.aE) none H')∧∀t',f b cb t=some t'→∀H',lU a H' p ls ll b reach t'→Kp (In3 p ls ll) H H'→Q .de H'
def Pu (b c:List UInt8) (t:Rc31.Told):Option Rc31.Told :=
 if c.length=72+80*Rc31.num c 64 4∧(kn c).at_%4096=0∧(kn c).size%4096=0∧(kn c).file%4096=0∧(kn c).raw≤(kn c).size∧Rc31.within b ((kn c).file,(kn c).raw)=true∧(kn c).rights<8 then some {t with segments:=t.segments++[kn c]} else none
theorem El (T:Tx g.K g.mg a):Pr g 4 a.rT ["contents","command","file"] (Gx a true Pu):=by
 have D:=aB T
 have S:=Ek T
 refine Pr.on T.u4 tq fun cF A outer s H vs Q E hr h=>?_
 obtain⟨p,ls,ll,c,fa,b,cb,reach,t,rfl,⟨dx,bg,pt,sa,la,as,C⟩,Oq,Nn,hc,hf,k0,k1⟩:=h
 refine⟨_,ae (aI (i:=3) tq.nd rfl (Or.inl rfl) (kO S T.r9 au hr (by decide) T.Jt (aa (pv 1) ai)))
  (ae (az D au hr (by decide) T.aA (aH bZ (aV aJ (by rfl) T.eL PySem.boot_len (aa (pv 1) ai)) (aO ck (pk T.vh) (aO yp (pk T.vi) (ar (pv 3) rfl))) (aC _)))
  (ae (az D au hr (by decide) T.aA (aH nE (ar (pv 3) rfl) ak (aC _)))
  (ae (az D au hr (by decide) T.aA (aH bZ (aO jF (ar (pv 3) rfl) (pk T.FH)) ak (aC _)))
  (ae (az D au hr (by decide) T.aA (aH bZ (aO jF (ar (pv 3) rfl) (pk T.FH)) ak (aC _)))
  (ae (az D au hr (by decide) T.aA (aH bZ (aO jF (ar (pv 3) rfl) (pk T.FH)) ak (aC _)))
  (ae (az D au hr (by decide) T.aA (aH iK (ar (pv 3) rfl) (ar (pv 3) rfl) (aC _)))
  (ae (az D au hr (by decide) T.aA (aH iK (aO ck (ar (pv 3) rfl) (ar (pv 3) rfl)) (aV aJ (by rfl) T.eL PySem.boot_len (aa (pv 2) ai)) (aC _)))
  (ag (aR (ue PySem.F.plainAttrs_list PySem.F.slot_list_append PySem.F.type_list_append iy (ar (pv 0) rfl) (aa (pv 3) ai))))))))))),?_⟩
 refine⟨_,rfl,fun x d nx nd nex=>⟨x,d,c,cb,rfl,af,?_,fun H1 sg k=>⟨rfl,?_⟩⟩⟩
 ·rw[aj (ao hc nx),aj (ao hc nd)]
  exact hc
 have s1:ax H H1:=ax.tP nx nd k
 have C1:=C.same s1
 obtain⟨d1,hx⟩:=id sg
 have Jz:=s1 _ _ hc
 have N4:=s1 _ _ hf
 have fail:¬(cb.length=72+80*Rc31.num cb 64 4∧(kn cb).at_%4096=0∧(kn cb).size%4096=0∧(kn cb).file%4096=0∧(kn cb).raw≤(kn cb).size∧Rc31.within b ((kn cb).file,(kn cb).raw)=true∧(kn cb).rights<8)→E (.ref a.aE) none H1:=fun z=>k0 (by unfold Pu;rw[if_neg z]) _ (Kp.same s1)
 refine⟨_,rfl,c,_,rfl,.inl (bO.of Jz),_,rfl,x,_,d1,_,_,rfl,hx,T.aG,T.dP,yW,_,_,rfl,rfl,.inl ⟨by decide,by decide⟩,_,_,rfl,rfl,rfl,_,rfl,aw (fun c1=>?_) fun c1=>fail fun z=>bq c1 (by rw[br];have:=z.1;omega)⟩
 have c1:=bo c1
 rw[br]at c1
 refine⟨_,rfl,x,_,d1,_,_,rfl,hx,T.aG,T.da,kW,_,_,rfl,rfl,_,rfl,aw (fun c2=>?_) fun c2=>fail fun z=>c2 (by have:=z.2.2.2.2.2.2;omega)⟩
 refine⟨_,rfl,x,_,d1,_,_,rfl,hx,T.aG,T.aX,bP,_,_,rfl,rfl,(by show(0:Int)<4096;decide),rfl,_,rfl,aw (fun c3=>?_) fun c3=>fail fun z=>bq c3 (by have:=z.2.1;omega)⟩
 have c3:=bo c3
 refine⟨_,rfl,x,_,d1,_,_,rfl,hx,T.aG,T.cg,gi,_,_,rfl,rfl,(by show(0:Int)<4096;decide),rfl,_,rfl,aw (fun c4=>?_) fun c4=>fail fun z=>bq c4 (by have:=z.2.2.1;omega)⟩
 have c4:=bo c4
 refine⟨_,rfl,x,_,d1,_,_,rfl,hx,T.aG,T.cy,iH,_,_,rfl,rfl,(by show(0:Int)<4096;decide),rfl,_,rfl,aw (fun c5=>?_) fun c5=>fail fun z=>bq c5 (by have:=z.2.2.2.1;omega)⟩
 have c5:=bo c5
 refine⟨_,rfl,x,_,d1,_,_,rfl,hx,T.aG,T.bK,d9,_,rfl,x,_,d1,_,_,rfl,hx,T.aG,T.cg,gi,_,_,rfl,rfl,_,rfl,aw (fun c6=>?_) fun c6=>fail fun z=>c6 (by have:=z.2.2.2.2.1;omega)⟩
 refine⟨_,rfl,x,_,d1,_,_,rfl,hx,T.aG,T.cy,iH,_,rfl,x,_,d1,_,_,rfl,hx,T.aG,T.bK,d9,_,_,rfl,rfl,_,rfl,fa,_,rfl,.inl (bO.of N4),_,_,rfl,rfl,_,rfl,aw (fun c7=>?_) fun c7=>fail fun z=>c7 (by rw[br];have:=of_decide_eq_true z.2.2.2.2.2.1;dsimp only at this;omega)⟩
 rw[br]at c7
 refine⟨_,rfl,p,_,dx,_,_,rfl,C1.ob,T.aM,T.b6,jb,.inl ⟨rfl,_,bO.of C1.hs⟩,_,rfl,ls,_,_,rfl,rfl,C1.hs,?_,?_⟩
 ·rw[List.length_map,bu C1.oF]
  exact Nat.lt_trans Oq (by decide)
 refine k1 _ (by unfold Pu;rw[if_pos ⟨by omega,by omega,by omega,by omega,by omega,decide_eq_true (by dsimp only;omega),by omega⟩]) _ (C1.abG sg) ?_
 exact(Kp.same s1).step (Kp.upd (S:=At ls) (.inl rfl)) fun y z=>.inl (.inr (.inl z))
end
end MI
namespace MI
open PySem L2
section
variable {g:Gm} {a:Ad}
def Lb (b c:List UInt8) (t:Rc31.Told):Option Rc31.Told :=
 if c.length<25∨Rc31.num c 8 4≠24 then none else(Rc31.textIn (c.drop 24)).bind fun x=>if t.libraries.length<64 then some {t with libraries:=t.libraries++[x.1]} else none
theorem Em (T:Tx g.K g.mg a):Pr g 4 a.rV ["contents","command"] (Gx a false Lb):=by
 refine Pr.on T.u6 DQ fun cF A outer s H vs Q E hr h=>?_
 obtain⟨p,ls,ll,c,fa,b,cb,reach,t,rfl,⟨dx,bg,pt,sa,la,as,C⟩,Oq,Nn,hc,hf,k0,k1⟩:=h
 refine⟨_,ae (az (aB T) au hr (by decide) T.aA (aH IU (aV aJ (by rfl) T.eL PySem.boot_len (aa (pv 1) ai)) (pk T.j7) (aC _)))
  (ae (az (aB T) au hr (by decide) T.aA (aH bZ (aU (cp T) au hr (by decide) T.a7 (aa (pv 1) (aa ak (aa ak ai)))) (pk T.j7) (aC _)))
  (ae (az (aB T) au hr (by decide) T.aA (aH nE (aV aJ (by rfl) T.eL PySem.boot_len (aa (ar (pv 0) rfl) ai)) (pk T.qE) (aC _)))
  (ag (aR (ue PySem.F.plainAttrs_list PySem.F.slot_list_append PySem.F.type_list_append iy (ar (pv 0) rfl) (aa (a6 (kO (oC T) T.nB au hr (by decide) T.Ay (aa (pv 1) (aa (pk T.j7) ai))) (oE T) T.aL T.lA au hr (by decide)) ai)))))),?_⟩
 refine⟨_,rfl,c,_,rfl,.inl (bO.of hc),_,_,rfl,rfl,_,rfl,aw (fun c1=>?_) fun c1=>k0 (by unfold Lb;rw[if_pos (.inl (by rw[br]at c1;omega))]) _ Kp.refl⟩
 rw[br]at c1
 refine⟨_,rfl,c,cb,8,4,rfl,hc,fun H1 s1=>⟨rfl,_,rfl,aw (fun c2=>?_) fun c2=>k0 (by unfold Lb;rw[if_pos (.inr fun z=>bq c2 (by rw[z];rfl))]) _ (Kp.same s1)⟩⟩
 have c2:=bo c2
 have C1:=C.same s1
 have Jz:=s1 _ _ hc
 have eF:Lb b cb t=(Rc31.textIn (cb.drop 24)).bind fun x=>if t.libraries.length<64 then some {t with libraries:=t.libraries++[x.1]} else none:=by
  unfold Lb
  rw[if_neg (by rintro(z|z)<;>omega)]
 refine⟨_,rfl,p,_,dx,_,_,rfl,C1.ob,T.aM,T.bV,il,ll,_,rfl,.inl (bO.of C1.hl),_,_,rfl,rfl,_,rfl,aw (fun c3=>?_) fun c3=>k0 (by
  rw[eF]
  rw[List.length_map,bu C1.libs]at c3
  cases Rc31.textIn (cb.drop 24) with
  |none=>rfl
  |some x =>
   show(if _ then _ else _)=_
   rw[if_neg (by omega)]) _ (Kp.same s1)⟩
 rw[List.length_map,bu C1.libs]at c3
 refine⟨_,rfl,p,_,dx,_,_,rfl,C1.ob,T.aM,T.bV,il,.inl ⟨rfl,_,bO.of C1.hl⟩,_,rfl,fun x d nx nd nex=>⟨x,d,c,24,rfl,af,fun H2 cu k2=>⟨rfl,?_⟩⟩⟩
 have s2:ax H1 H2:=ax.tP nx nd k2
 obtain⟨d2,hx⟩:=id cu
 refine⟨x,d2,_,rfl,hx,kU,x,c,cb,24,rfl,cu,s2 _ _ Jz,fun hn H3 k3=>?_,fun tx rest htx v H3 j3 hv C3 lt3 ZC er k3=>?_⟩
 ·refine k0 (by rw[eF,hn];rfl) _ ?_
  exact(Kp.same (s1.trans s2)).step k3 fun y z=>.inr (by obtain rfl:y=x:=z;exact s1.free nx)
 ·obtain⟨l,rfl,hl,hL⟩:=hv
  have s3:ax H1 H3:=fun y o e=>k3 y o (s2 y o e) (ao e nx)
  have C3':=C1.same s3
  refine⟨ll,_,_,rfl,rfl,C3'.hl,?_,?_⟩
  ·rw[List.length_map,bu C1.libs]
   exact Nat.lt_trans (show t.libraries.length<64 by omega) (by decide)
  ·refine k1 _ (by rw[eF,htx];show(if _ then _ else _)=_;rw[if_pos (by omega)]) _ (C3'.abH hL (C1.fresh l (s2.free hl)) (fun z=>?_) fun z=>?_) ?_
   ·subst z
    rw[s2 _ _ C1.hs]at hl;cases hl
   ·subst z
    rw[s2 _ _ C1.hl]at hl;cases hl
   ·exact(Kp.same (s1.trans s3)).step (Kp.upd (S:=At ll) (.inl rfl)) fun y z=>.inl (.inr (.inr z))
def Np (b c:List UInt8) (t:Rc31.Told):Option Rc31.Told:=if c.length=24∧t.entry=none then some {t with entry:=some (Rc31.num c 8 8)} else none
theorem Q7.de:∀{o:Option Nat} {v:V},Q7 o v→(decide (v = .de)=true↔o=none)
 |none,v,h=>by subst h;simp
 |some e,v,h=>by subst h;simp
theorem Bl (T:Tx g.K g.mg a):Pr g 4 a.nV ["contents","command"] (Gx a false Np):=by
 refine Pr.on T.qA Ac fun cF A outer s H vs Q E hr h=>?_
 obtain⟨p,ls,ll,c,fa,b,cb,reach,t,rfl,⟨dx,bg,pt,sa,la,as,C⟩,Oq,Nn,hc,hf,k0,k1⟩:=h
 refine⟨_,ae (az (aB T) au hr (by decide) T.aA (EV (By (ar (pv 0) rfl))))
  (ae (az (aB T) au hr (by decide) T.aA (aH bZ (aV aJ (by rfl) T.eL PySem.boot_len (aa (pv 1) ai)) (pk T.qF) (aC _)))
  (ag (aT (pv 0) (aU (cp T) au hr (by decide) T.a7 (aa (pv 1) (aa ak (aa ak ai)))) rfl))),?_⟩
 refine⟨_,rfl,p,_,dx,_,_,rfl,C.ob,T.aM,T.ba,dG,_,rfl,?_⟩
 by_cases c1:t.entry=none
 ·rw[C.bg.de.mpr c1]
  refine iA ⟨_,rfl,c,_,rfl,.inl (bO.of hc),rfl,_,rfl,aw (fun c2=>?_) fun c2=>k0 (by unfold Np;rw[if_neg fun z=>bq c2 (by rw[br,z.1];rfl)]) _ Kp.refl⟩
  have c2:=bo c2
  rw[br]at c2
  refine⟨_,rfl,c,cb,8,8,rfl,hc,fun H1 s1=>⟨_,rfl,p,_,dx,_,rfl,s1 _ _ C.ob,T.aM,T.ba,(by rw[oh];decide),?_⟩⟩
  rw[qd]
  have C1:=C.same s1
  refine k1 {t with entry:=some (Rc31.num cb 8 8)} (by unfold Np;rw[if_pos ⟨by omega,c1⟩]) _ (C1.Pt rfl rfl rfl C1.pt fun y hy=>C1.off y (List.mem_append_right _ hy)) ?_
  exact(Kp.same s1).step (Kp.upd (S:=At p) (.inl rfl)) fun y z=>.inl (.inl z)
 ·rw[Bool.eq_false_iff.mpr fun z=>c1 (C.bg.de.mp z)]
  exact eg (k0 (by unfold Np;rw[if_neg fun z=>c1 z.2]) _ Kp.refl)
def Vm (a:Ad):Sp:=fun vs H Q E=>∃(c fa:Addr) (i:Nat) (b cb:List UInt8),vs=[.ref c,.int i,.ref fa]∧H c=some (.lst (bv cb))∧H fa=some (.lst (bv b)) ∧
 (Rc31.within b (Rc31.num cb i 4,Rc31.num cb (i+4) 4)=false→∀H',ax H H'→E (.ref a.aE) none H') ∧
 (Rc31.within b (Rc31.num cb i 4,Rc31.num cb (i+4) 4)=true→∀q H',H q=none→H' q=some (.lst (bv (Rc31.part b (Rc31.num cb i 4,Rc31.num cb (i+4) 4))))→ax H H'→Q (.ref q) H')
theorem Pw (T:Tx g.K g.mg a):Pr g 2 a.part_of ["command","at","file"] (Vm a):=by
 refine Pr.on T.Jk yD fun cF A outer s H vs Q E hr h=>?_
 obtain⟨c,fa,i,b,cb,rfl,hc,hf,k0,k1⟩:=h
 refine⟨_,ae (aI (i:=3) yD.nd rfl (Or.inl rfl) (aU (cp T) au hr (by decide) T.a7 (aa (pv 0) (aa (pv 1) (aa ak ai)))))
  (ae (aI (i:=4) yD.nd rfl (Or.inl rfl) (aU (cp T) au hr (by decide) T.a7 (aa (pv 0) (aa (aO ck (pv 1) ak) (aa ak ai)))))
  (ae (az (aB T) au hr (by decide) T.aA (aH iK (aO ck (pv 3) (pv 4)) (aV aJ (by rfl) T.eL PySem.boot_len (aa (pv 2) ai)) (aC _)))
  (ag (aS (jH mX (pv 2) (gV (pv 3)) (gV (aO ck (pv 3) (pv 4)))))))),?_⟩
 refine⟨_,rfl,_,rfl,c,cb,i,4,rfl,hc,fun H1 s1=>⟨_,rfl,_,rfl,_,_,rfl,rfl,c,cb,i+4,4,rfl,s1 _ _ hc,fun H2 s2=>?_⟩⟩
 have s2:=s1.trans s2
 refine⟨_,rfl,_,rfl,_,_,rfl,rfl,_,rfl,fa,_,rfl,.inl (bO.of (s2 _ _ hf)),_,_,rfl,rfl,_,rfl,aw (fun c1=>?_) fun c1=>k0 (decide_eq_false fun z=>c1 (by rw[br];dsimp only at z;omega)) _ s2⟩
 rw[br]at c1
 refine⟨_,rfl,_,rfl,_,rfl,_,rfl,_,rfl,_,_,rfl,rfl,_,rfl,fa,_,rfl,bO.of (s2 _ _ hf),fun q hq=>?_⟩
 rw[K9]
 exact k1 (decide_eq_true (by dsimp only;omega)) q _ (s2.free hq) af (s2.trans (ax.upd hq))
end
end MI
namespace MI
open PySem L2
abbrev dirOf (c:List UInt8) (i:Nat):Rc31.Dir:=(Rc31.num c i 4,Rc31.num c (i+4) 4)
theorem sU.de {H:Hp} {b:List UInt8} {as:List Addr}:∀{o:Option (Rc31.Dir×Rc31.Dir×Rc31.Dir)} {v:V},sU H b as o v→(decide (v = .de)=true↔o=none)
 |none,v,h=>by obtain⟨rfl,_⟩:=h;simp
 |some (d1,d2,d3),v,⟨p,q1,q2,q3,e,_⟩=>by subst e;simp
section
variable {g:Gm} {a:Ad}
def zu (b c:List UInt8) (t:Rc31.Told):Option Rc31.Told :=
 if c.length=48∧t.info=none∧Rc31.within b (dirOf c 8)=true∧Rc31.within b (dirOf c 16)=true∧Rc31.within b (dirOf c 40)=true∧Rc31.num c 28 4=0∧Rc31.num c 36 4=0 then some {t with info:=some (dirOf c 8,dirOf c 16,dirOf c 40)} else none
theorem Iq (T:Tx g.K g.mg a):Pr g 4 a.yI ["contents","command","file"] (Gx a true zu):=by
 refine Pr.on T.Am pX fun cF A outer s H vs Q E hr h=>?_
 obtain⟨p,ls,ll,c,fa,b,cb,reach,t,rfl,⟨dx,bg,pt,sa,la,as,C⟩,Oq,Nn,hc,hf,k0,k1⟩:=h
 refine⟨_,ae (az (aB T) au hr (by decide) T.aA (EV (By (ar (pv 0) rfl))))
  (ae (az (aB T) au hr (by decide) T.aA (aH bZ (aV aJ (by rfl) T.eL PySem.boot_len (aa (pv 1) ai)) (pk T.AI) (aC _)))
  (ae (az (aB T) au hr (by decide) T.aA (aH bZ (aU (cp T) au hr (by decide) T.a7 (aa (pv 1) (aa ak (aa ak ai)))) ak (aC _)))
  (ae (az (aB T) au hr (by decide) T.aA (aH bZ (aU (cp T) au hr (by decide) T.a7 (aa (pv 1) (aa ak (aa ak ai)))) ak (aC _)))
  (ag (aT (pv 0) (Cp JA rfl pX.nd (aar (Of (aa ak (aa ak (aa ak ai))))) (nG (N:=["contents","command","file","at"]) (sc:=aq mY) (own:=[("at",3)]) (by decide +kernel)) (fun _ _ _ _ _ _=>dH (i:=3) pX.nd rfl (Or.inl rfl)) (fun _ _ _ _ _ _ _=>zT) (fun _ _ _ _ _ _ pass=>aU (Pw T) pass hr (by decide) T.Jl (aa (pv 1) (aa (pv 3) (aa (pv 2) ai))))) rfl))))),?_⟩
 have fail:∀{H':Hp},ax H H'→¬(cb.length=48∧t.info=none∧Rc31.within b (dirOf cb 8)=true∧Rc31.within b (dirOf cb 16)=true∧Rc31.within b (dirOf cb 40)=true∧Rc31.num cb 28 4=0∧Rc31.num cb 36 4=0)→E (.ref a.aE) none H':=fun{H'} s z=>k0 (by unfold zu;rw[if_neg z]) _ (Kp.same s)
 refine⟨_,rfl,p,_,dx,_,_,rfl,C.ob,T.aM,T.cz,kX,_,rfl,?_⟩
 by_cases c1:t.info=none
 ·rw[C.pt.de.mpr c1]
  refine iA ⟨_,rfl,c,_,rfl,.inl (bO.of hc),rfl,_,rfl,aw (fun c2=>?_) fun c2=>fail (ax.refl _) fun z=>bq c2 (by rw[br,z.1];rfl)⟩
  have c2:=bo c2
  rw[br]at c2
  refine⟨_,rfl,c,cb,28,4,rfl,hc,fun H1 s1=>⟨rfl,_,rfl,aw (fun c3=>?_) fun c3=>fail s1 fun z=>bq c3 (by rw[z.2.2.2.2.2.1];rfl)⟩⟩
  have c3:=bo c3
  refine⟨_,rfl,c,cb,36,4,rfl,s1 _ _ hc,fun H2 s2=>⟨rfl,_,rfl,aw (fun c4=>?_) fun c4=>fail (s1.trans s2) fun z=>bq c4 (by rw[z.2.2.2.2.2.2];rfl)⟩⟩
  have c4:=bo c4
  have s2:=s1.trans s2
  refine⟨(by show 3≤sizeLine;decide),fun tp htp=>⟨tp,rfl,⟨_,tS.of af⟩,fun D hD=>?_⟩⟩
  have s3:ax H (upd H2 tp (.tup [.int 8,.int 16,.int 40])):=s2.trans (ax.upd htp)
  have nD:H D=none:=s3.free hD
  have ntp:H tp=none:=s2.free htp
  have ntD:tp≠D:=ao af hD
  refine aaL (K:=g.K) (a:=tp) (xs:=[.int ((8:Nat):Int),.int ((16:Nat):Int),.int ((40:Nat):Int)]) (fun i H4=>∃qs:List Addr,H4 D=some (.lst (qs.map V.ref))∧H4 tp=some (.tup [.int 8,.int 16,.int 40])∧ax H H4∧Paired (fun q d=>H4 q=some (.lst (bv (Rc31.part b d)))∧H q=none∧q≠D∧Rc31.within b d=true) qs ([dirOf cb 8,dirOf cb 16,dirOf cb 40].take i))
   ⟨[],af,by rw[aj ntD];exact af,s3.trans (ax.upd hD),.nil⟩ (fun i H4 _ ⟨qs,_,h,_⟩=>tS.of h) ?_ ?_
  ·rintro i x H4 hx ⟨qs,hq,ht4,s4,pq⟩
   obtain⟨n,hn,rfl,hi3⟩:∃n:Nat,[dirOf cb 8,dirOf cb 16,dirOf cb 40][i]?=some (dirOf cb n)∧x=V.int (n:Int)∧i<3:=by
    match i,hx with
    |0,hx=>exact⟨8,rfl,(Option.some.inj hx).symm,by decide⟩
    |1,hx=>exact⟨16,rfl,(Option.some.inj hx).symm,by decide⟩
    |2,hx=>exact⟨40,rfl,(Option.some.inj hx).symm,by decide⟩
    |j+3,hx=>simp at hx
   refine⟨rfl,?_⟩
   unfold aaG
   rw[if_pos rfl]
   refine⟨_,rfl,_,rfl,_,rfl,c,fa,n,b,cb,rfl,s4 _ _ hc,s4 _ _ hf,fun hw H5 s5=>?_,fun hw q H5 nq hq5 s5=>?_⟩
   ·refine fail (s4.trans s5) fun z=>?_
    have hw':∀d∈[dirOf cb 8,dirOf cb 16,dirOf cb 40],Rc31.within b d=true:=by
     intro d hd
     simp at hd
     rcases hd with rfl|rfl|rfl
     ·exact z.2.2.1
     ·exact z.2.2.2.1
     ·exact z.2.2.2.2.1
    rw[hw' _ (List.mem_of_getElem? hn)]at hw
    cases hw
   ·have hD5:=s5 _ _ hq
    have nqD:q≠D:=fun z=>by
     subst z
     rw[hq]at nq;cases nq
    refine⟨_,hD5,?_,qs++[q],by rw[af,List.map_append];rfl,by rw[aj ntD];exact s5 _ _ ht4,?_,?_⟩
    ·rw[List.length_map,bu pq,List.length_take]
     exact Nat.lt_of_le_of_lt (Nat.min_le_right _ _) (by show 3<sizeLine;decide)
    ·intro y o e
     rw[aj (ao e nD)]
     exact s5 _ _ (s4 _ _ e)
    ·have e1:[dirOf cb 8,dirOf cb 16,dirOf cb 40].take (i+1)=[dirOf cb 8,dirOf cb 16,dirOf cb 40].take i++[dirOf cb n]:=by
      rw[List.take_succ,hn]
      rfl
     rw[e1]
     refine gv (bc pq fun y _ d ⟨h1,h2,h3,h4⟩=>⟨by rw[aj h3];exact s5 _ _ h1,h2,h3,h4⟩) ⟨by rw[aj nqD];exact hq5,s4.free nq,nqD,hw⟩
  ·rintro H4 ⟨qs,hq,ht4,s4,pq⟩
   match qs,pq with
   | [q1,q2,q3],.cons ⟨a1,n1,m1,w1⟩ (.cons ⟨a2,n2,m2,w2⟩ (.cons ⟨a3,n3,m3,w3⟩ .nil)) =>
    refine⟨_,rfl,p,_,dx,_,rfl,s4 _ _ C.ob,T.aM,T.cz,(by rw[oh];decide),?_⟩
    rw[vn]
    have C4:=C.same s4
    refine k1 {t with info:=some (dirOf cb 8,dirOf cb 16,dirOf cb 40)} (by unfold zu;rw[if_pos ⟨by omega,c1,w1,w2,w3,by omega,by omega⟩]) _ (C4.Pt (as':=[D,q1,q2,q3]) rfl rfl C.bg ⟨D,q1,q2,q3,rfl,rfl,hq,a1,a2,a3⟩ fun y hy=>?_) ?_
    ·have hy0:H y=none:=by
      simp at hy
      rcases hy with rfl|rfl|rfl|rfl
      ·exact nD
      ·exact n1
      ·exact n2
      ·exact n3
     exact⟨(ao C.hs hy0).symm,(ao C.hl hy0).symm⟩
    ·exact(Kp.same s4).step (Kp.upd (S:=At p) (.inl rfl)) fun y z=>.inl (.inl z)
 ·rw[Bool.eq_false_iff.mpr fun z=>c1 (C.pt.de.mp z)]
  exact eg (fail (ax.refl _) fun z=>c1 z.2.1)
end
end MI
namespace MI
open PySem L2
def Cr (b c:List UInt8) (t:Rc31.Told):Option Rc31.Told :=
 if Rc31.num c 0 4=0x19 then Pu b c t else if Rc31.num c 0 4=0xC then Lb b c t else if Rc31.num c 0 4=0x80000028 then Np b c t else if Rc31.num c 0 4=0x80000022 then zu b c t else some t
def En (t:Rc31.Told):Option Rc31.Told:=if t.libraries.length≤64 then some t else none
theorem Yc (b c:List UInt8) (t:Rc31.Told) (h:t.libraries.length≤64):Cr b c t=(Rc31.command b c t).bind En:=by
 unfold Cr Rc31.command
 dsimp only
 split
 ·unfold Pu kn
  dsimp only
  split
  ·show _=En _
   unfold En
   rw[if_pos h]
  ·rfl
 ·split
  ·unfold Lb
   split
   ·rfl
   ·cases Rc31.textIn (c.drop 24) with
    |none=>rfl
    |some x =>
     show(if _ then _ else _)=En _
     unfold En
     simp only[List.length_append,List.length_cons,List.length_nil]
     by_cases h2:t.libraries.length<64
     ·rw[if_pos h2,if_pos (by omega)]
     ·rw[if_neg h2,if_neg (by omega)]
  ·split
   ·unfold Np
    split
    ·show _=En _
     unfold En
     rw[if_pos h]
    ·rfl
   ·split
    ·unfold zu
     split
     ·show _=En _
      unfold En
      rw[if_pos h]
     ·rfl
    ·show _=En _
     unfold En
     rw[if_pos h]
theorem Vn {b c:List UInt8} {t u:Rc31.Told} (h:Cr b c t=some u):u.segments.length≤t.segments.length+1∧(t.libraries.length≤64→u.libraries.length≤64):=by
 unfold Cr Pu Lb Np zu at h
 repeat' split at h
 all_goals first
  |(cases h;done)
  |(cases h;simp only[List.length_append,List.length_cons,List.length_nil];exact⟨by omega,fun z=>by omega⟩)
  |(cases h;exact⟨by omega,id⟩)
  |(obtain⟨x,hx,h⟩:=Option.bind_eq_some_iff.mp h
    cases h
    try simp only[List.length_append,List.length_cons,List.length_nil]
    try exact⟨by omega,fun z=>by omega⟩)
instance {b:List UInt8}:Decidable (zt b):=by unfold zt;infer_instance
section
variable {g:Gm} {a:Ad}
theorem Eo (T:Tx g.K g.mg a):Pr g 5 a.rW ["contents","command","file"] (Gx a true Cr):=by
 refine Pr.on T.u9 tu fun cF A outer s H vs Q E hr h=>?_
 obtain⟨p,ls,ll,c,fa,b,cb,reach,t,rfl,C,Oq,Nn,hc,hf,k0,k1⟩:=h
 refine⟨_,ae (aI (i:=3) tu.nd rfl (Or.inl rfl) (aU (cp T) au hr (by decide) T.a7 (aa (pv 1) (aa ak (aa ak ai)))))
  (ag (dk (bG bZ (pv 3) (pk T.Jv) (aC _)) (ag (aR (aU (El T) au hr (by decide) T.u5 (aa (pv 0) (aa (pv 1) (aa (pv 2) ai)))))) (ag (dk (bG bZ (pv 3) (pk T.Jw) (aC _)) (ag (aR (aU (Em T) au hr (by decide) T.u7 (aa (pv 0) (aa (pv 1) ai))))) (ag (dk (bG bZ (pv 3) (pk T.Dq) (aC _)) (ag (aR (aU (Bl T) au hr (by decide) T.qB (aa (pv 0) (aa (pv 1) ai))))) (ag (dk (bG bZ (pv 3) (pk T.QY) (aC _)) (ag (aR (aU (Iq T) au hr (by decide) T.An (aa (pv 0) (aa (pv 1) (aa (pv 2) ai)))))) gw)))))))),?_⟩
 refine⟨_,rfl,c,cb,0,4,rfl,hc,fun H1 s1=>?_⟩
 have C1:=C.same s1
 have Jz:=s1 _ _ hc
 have N4:=s1 _ _ hf
 have fin:∀{f:List UInt8→List UInt8→Rc31.Told→Option Rc31.Told},Cr b cb t=f b cb t→(f b cb t=none→∀H',Kp (In3 p ls ll) H1 H'→E (.ref a.aE) none H')∧∀t',f b cb t=some t'→∀H',lU a H' p ls ll b reach t'→Kp (In3 p ls ll) H1 H'→Q .de H':=fun{f} e =>
  ⟨fun z H' k=>k0 (e.trans z) _ ((Kp.same s1).step k fun _ z=>.inl z),fun t' z H' C' k=>k1 t' (e.trans z) _ C' ((Kp.same s1).step k fun _ z=>.inl z)⟩
 refine⟨_,rfl,rfl,_,rfl,aw (fun e1=>?_) fun e1=>?_⟩
 ·have e1:=bo e1
  obtain⟨f0,f1⟩:=fin (f:=Pu) (by unfold Cr;rw[if_pos (by omega)])
  exact⟨_,rfl,_,rfl,_,rfl,p,ls,ll,c,fa,b,cb,reach,t,rfl,C1,Oq,Nn,Jz,N4,f0,f1⟩
 have e1:=bq e1
 refine⟨_,rfl,rfl,_,rfl,aw (fun e2=>?_) fun e2=>?_⟩
 ·have e2:=bo e2
  obtain⟨f0,f1⟩:=fin (f:=Lb) (by unfold Cr;rw[if_neg (by omega),if_pos (by omega)])
  exact⟨_,rfl,_,rfl,p,ls,ll,c,fa,b,cb,reach,t,rfl,C1,Oq,Nn,Jz,N4,f0,f1⟩
 have e2:=bq e2
 refine⟨_,rfl,rfl,_,rfl,aw (fun e3=>?_) fun e3=>?_⟩
 ·have e3:=bo e3
  obtain⟨f0,f1⟩:=fin (f:=Np) (by unfold Cr;rw[if_neg (by omega),if_neg (by omega),if_pos (by omega)])
  exact⟨_,rfl,_,rfl,p,ls,ll,c,fa,b,cb,reach,t,rfl,C1,Oq,Nn,Jz,N4,f0,f1⟩
 have e3:=bq e3
 refine⟨_,rfl,rfl,_,rfl,aw (fun e4=>?_) fun e4=>?_⟩
 ·have e4:=bo e4
  obtain⟨f0,f1⟩:=fin (f:=zu) (by unfold Cr;rw[if_neg (by omega),if_neg (by omega),if_neg (by omega),if_pos (by omega)])
  exact⟨_,rfl,_,rfl,_,rfl,p,ls,ll,c,fa,b,cb,reach,t,rfl,C1,Oq,Nn,Jz,N4,f0,f1⟩
 have e4:=bq e4
 exact k1 t (by unfold Cr;rw[if_neg (by omega),if_neg (by omega),if_neg (by omega),if_neg (by omega)]) _ C1 (Kp.same s1)
def Bm (b:List UInt8) (e:Nat):Nat→Nat→Rc31.Told→Option Rc31.Told
 |0,r,t=>if r=e then some t else none
 |n+1,r,t=>if (8≤Rc31.num b (r+4) 4∧Rc31.num b (r+4) 4%8=0)∧r+Rc31.num b (r+4) 4≤e then(Cr b ((b.drop r).take (Rc31.num b (r+4) 4)) t).bind fun u=>Bm b e n (r+Rc31.num b (r+4) 4) u else none
def yi (b:List UInt8):Option Rc31.Told:=if zt b then Bm b (32+Rc31.num b 20 4) (Rc31.num b 16 4) 32 {} else none
theorem Vo {b c:List UInt8} {e n r k:Nat} {t:Rc31.Told} (hk:Rc31.num b (r+4) 4=k):Bm b e (n+1) r t=if (8≤k∧k%8=0)∧r+k≤e then(Cr b ((b.drop r).take k) t).bind fun u=>Bm b e n (r+k) u else none:=by
 subst hk
 rfl
def Lc (a:Ad):Sp:=fun vs H Q E=>∃(f:Addr) (b:List UInt8),vs=[.ref f]∧H f=some (.lst (bv b))∧(∀z,H z=none→a.new z)∧(yi b=none→∀H',ax H H'→E (.ref a.aE) none H') ∧
 ∀t,yi b=some t→∀p ls ll H',lU a H' p ls ll b (32+Rc31.num b 20 4) t→H p=none→H ls=none→H ll=none→ax H H'→Q (.ref p) H'
theorem Q9 (b:List UInt8) (i:Nat):Rc31.num b i 4<2^32:=by
 unfold Rc31.num
 have aux:∀(l:List UInt8) (n:Nat),l.length≤n→l.foldr (fun c x=>c.toNat+256*x) 0<256^n:=by
  intro l
  induction l with
  |nil=>intro n _;exact Nat.pow_pos (by decide)
  |cons c r ih =>
   intro n h
   match n,h with
   |n+1,h =>
    have h1:=ih n (by simpa using h)
    have h2:=c.toNat_lt
    show c.toNat+256*_<256^(n+1)
    rw[Nat.pow_succ]
    omega
 exact Nat.lt_of_lt_of_le (aux _ 4 (by simp[List.length_take];omega)) (by decide)
theorem Gy (T:Tx g.K g.mg a):Pr g 6 a.uQ ["file"] (Lc a):=by
 refine Pr.on T.xF ic fun cF A outer s H vs Q E hr h=>?_
 obtain⟨f,b,rfl,hf,DJ,k0,k1⟩:=h
 refine⟨_,ae (aR (aU (Ip T) au hr (by decide) T.Al (aa (pv 0) ai)))
  (ae (aI (i:=1) ic.nd rfl (Or.inl rfl) (QP (Cq T) T.o9 au hr (by decide) T.FG))
  (ae (aI (i:=2) ic.nd rfl (Or.inl rfl) (aO ck (pk T.lQ) (aU (cp T) au hr (by decide) T.a7 (aa (pv 0) (aa ak (aa ak ai))))))
  (ae (l7 tU rfl (BA rfl T.sf (aa (aU (cp T) au hr (by decide) T.a7 (aa (pv 0) (aa ak (aa ak ai)))) ai)) (dH (i:=3) ic.nd rfl (Or.inl rfl)) (ae (aI (i:=4) ic.nd rfl (Or.inl rfl) (aU (cp T) au hr (by decide) T.a7 (aa (pv 0) (aa (aO ck (ar (pv 1) rfl) ak) (aa ak ai)))))
  (ae (az (aB T) au hr (by decide) T.aA (JX (aH zN (pv 4) ak (aC _)) (ub (aH bZ (aO jF (pv 4) ak) ak (aC _)))))
  (ae (az (aB T) au hr (by decide) T.aA (aH iK (aO ck (ar (pv 1) rfl) (pv 4)) (pv 2) (aC _)))
  (ae (aR (aU (Eo T) au hr (by decide) T.vc (aa (pv 1) (aa (jH mX (pv 0) (gV (ar (pv 1) rfl)) (gV (aO ck (ar (pv 1) rfl) (pv 4)))) (aa (pv 0) ai)))))
  (ag (IW (pv 1) (pv 4) T4)))))))
  (ae (az (aB T) au hr (by decide) T.aA (aH bZ (ar (pv 1) rfl) (pv 2) (aC _)))
  (ag (aS (pv 1))))))),?_⟩
 refine⟨_,rfl,f,b,rfl,hf,fun hh H1 s1=>?_,fun hh H1 s1=>k0 (by unfold yi;rw[if_neg hh]) _ s1⟩
 have eT:yi b=Bm b (32+Rc31.num b 20 4) (Rc31.num b 16 4) 32 {}:=by unfold yi;rw[if_pos hh]
 refine fun p d np nd ZH=>⟨p,d,rfl,af,(fun z e=>DJ z (s1.free (fw (fw e)))),fun H2 ls ll C2 nls Wz k2=>⟨rfl,?_⟩⟩
 have s2:ax H1 H2:=ax.tP np nd k2
 have s2:=s1.trans s2
 have np0:H p=none:=s1.free np
 have old:∀{x:Addr},upd (upd H1 d (.own p)) p (.ins a.bU d []) x=none→H x=none:=fun{x} e=>by
  have h1:x≠p:=fun z=>by rw[z,af]at e;cases e
  rw[aj h1]at e
  have h2:x≠d:=fun z=>by rw[z,af]at e;cases e
  rw[aj h2]at e
  exact s1.free e
 have aef:=old nls
 have aeg:=old Wz
 have C2:=C2 b
 refine⟨_,rfl,f,b,20,4,rfl,s2 _ _ hf,fun H3 s3=>⟨_,_,rfl,rfl,?_⟩⟩
 have s3':=s2.trans s3
 refine⟨_,rfl,f,b,16,4,rfl,s3' _ _ hf,fun H4 s4=>?_⟩
 have s4':=s3'.trans s4
 have C4:lU a H4 p ls ll b 32 {}:=(C2.same s3).same s4
 have n16:=Q9 b 16
 have n20:=Q9 b 20
 have bound:Rc31.num b 16 4≤256:=hh.2.2.2.2.1
 refine⟨_,rfl,by omega,by omega,qu (lo:=0) (n:=((Rc31.num b 16 4:Nat):Int).toNat) (fun i σ H5=>∃(t:Rc31.Told) (r:Nat) (v3 v4:Option V),σ=[some (.ref f),some (.ref p),some (.int (32+(Rc31.num b 20 4:Nat))),v3,v4]∧lU a H5 p ls ll b r t∧ax H H5∧t.segments.length≤i∧t.libraries.length≤64 ∧
  yi b=Bm b (32+Rc31.num b 20 4) (Rc31.num b 16 4-i) r t) ⟨{},32,none,none,rfl,C4,s4',Nat.le_refl _,by decide,eT⟩ ?_ ?_⟩
 ·rintro i σ H5 hi ⟨t,r,v3,v4,rfl,C5,s5,Zt,hll,eF⟩
  have hi':i<Rc31.num b 16 4:=by omega
  obtain⟨dx,bg,pt,sa,la,as,D5⟩:=id C5
  refine⟨_,rfl,_,rfl,p,_,dx,_,_,rfl,D5.ob,T.aM,T.bA,dA,_,_,rfl,rfl,f,b,r+4,4,rfl,s5 _ _ hf,fun H6 s6=>?_⟩
  rw[show Rc31.num b 16 4-i=(Rc31.num b 16 4-(i+1))+1 by omega]at eF
  rw[Vo (c:=b) rfl]at eF
  generalize hk:Rc31.num b (r+4) 4=k at *
  have s6':=s5.trans s6
  have D6:=D5.same s6
  have fail:∀{H':Hp},ax H H'→¬((8≤k∧k%8=0)∧r+k≤32+Rc31.num b 20 4)→E (.ref a.aE) none H':=fun{H'} s z=>k0 (by rw[eF,if_neg z]) _ s
  refine⟨_,rfl,_,_,rfl,rfl,_,rfl,aw (fun c1=>?_) fun c1=>?_⟩
  ·refine⟨_,rfl,_,_,rfl,rfl,(by show(0:Int)<8;decide),rfl,_,rfl,aw (fun c2=>?_) fun c2=>fail s6' fun z=>bq c2 (by omega)⟩
   have c2:=bo c2
   refine⟨_,rfl,p,_,dx,_,_,rfl,D6.ob,T.aM,T.bA,dA,_,rfl,_,_,rfl,rfl,_,rfl,_,_,rfl,rfl,_,rfl,aw (fun c3=>?_) fun c3=>fail s6' fun z=>c3 (by omega)⟩
   have cD:(8≤k∧k%8=0)∧r+k≤32+Rc31.num b 20 4:=⟨⟨by omega,by omega⟩,by omega⟩
   rw[if_pos cD]at eF
   refine⟨_,rfl,_,rfl,_,rfl,p,_,dx,_,_,rfl,D6.ob,T.aM,T.bA,dA,_,rfl,_,rfl,p,_,dx,_,_,rfl,D6.ob,T.aM,T.bA,dA,_,rfl,_,_,rfl,rfl,_,rfl,f,_,rfl,bO.of (s6' _ _ hf),fun c hc=>?_⟩
   rw[K9]
   have s7:ax H6 (upd H6 c (.lst (bv ((b.drop r).take k)))):=ax.upd hc
   have D7:=D6.same s7
   have kp:∀{H':Hp},Kp (In3 p ls ll) (upd H6 c (.lst (bv ((b.drop r).take k)))) H'→ax H H':=fun{H'} k=>fun y o e=>k y o (s7 _ _ (s6' _ _ e)) (by
    rintro(z|z|z)
    ·rw[z,np0]at e;cases e
    ·rw[z,aef]at e;cases e
    ·rw[z,aeg]at e;cases e)
   refine⟨_,rfl,p,ls,ll,c,f,b,_,r,t,rfl,⟨dx,bg,pt,sa,la,as,D7⟩,Nat.lt_of_le_of_lt Zt (by omega),hll,af,s7 _ _ (s6' _ _ hf),fun z H8 k8=>k0 (by rw[eF,z];rfl) _ (kp k8),fun t' ht' H8 C8 k8=>?_⟩
   obtain⟨dx8,bg8,pt8,sa8,la8,as8,D8⟩:=C8
   refine⟨_,rfl,p,_,dx8,_,_,rfl,D8.ob,T.aM,T.bA,dA,_,rfl,_,_,rfl,rfl,dx8,_,D8.ob,(by rw[oh];decide),?_⟩
   rw[vm]
   obtain⟨l1,l2⟩:=Vn ht'
   rw[ht']at eF
   refine⟨t',r+k,_,_,rfl,?_,?_,by omega,l2 hll,eF⟩
   ·have C9:=D8.Pt (reach':=r+k) (t':=t') rfl rfl D8.bg D8.pt fun y hy=>D8.off y (List.mem_append_right _ hy)
    exact C9
   ·intro y o e
    rw[aj (ao e np0)]
    exact kp k8 _ _ e
  ·exact⟨false,rfl,eg (fail s6' fun z=>c1 (by omega))⟩
 ·rintro σ H5 ⟨t,r,v3,v4,rfl,C5,s5,Zt,hll,eF⟩
  obtain⟨dx,bg,pt,sa,la,as,D5⟩:=id C5
  rw[show Rc31.num b 16 4-((Rc31.num b 16 4:Nat):Int).toNat=0 by omega]at eF
  refine⟨_,rfl,p,_,dx,_,_,rfl,D5.ob,T.aM,T.bA,dA,_,rfl,rfl,_,rfl,aw (fun c1=>?_) fun c1=>?_⟩
  ·have c1:=bo c1
   have er:r=32+Rc31.num b 20 4:=by omega
   subst er
   exact⟨_,rfl,k1 t (by rw[eF];show(if _ then _ else _)=_;rw[if_pos rfl]) p ls ll H5 C5 np0 aef aeg s5⟩
  ·have c1:=bq c1
   exact k0 (by rw[eF];show(if _ then _ else _)=_;rw[if_neg (by omega)]) _ s5
end
end MI
namespace MI
open Rc31
theorem Ld {b c:Bytes} {t u:Told} (h:command b c t=some u):t.libraries.length≤u.libraries.length:=by
 unfold command at h
 dsimp only at h
 repeat' split at h
 all_goals first
  |(cases h;done)
  |(cases h;exact Nat.le_refl _)
  |(obtain⟨x,hx,rfl⟩:=Option.map_eq_some_iff.mp h
    simp only[List.length_append,List.length_cons,List.length_nil]
    omega)
theorem yj {b:Bytes}:∀{n:Nat} {c:Bytes} {t u:Told},commands b n c t=some u→t.libraries.length≤u.libraries.length
 |0,c,t,u,h=>by
  unfold commands at h
  split at h
  ·cases h;exact Nat.le_refl _
  ·cases h
 |n+1,c,t,u,h=>by
  unfold commands at h
  dsimp only at h
  split at h
  ·cases h
  ·obtain⟨v,hv,h⟩:=Option.bind_eq_some_iff.mp h
   exact Nat.le_trans (Ld hv) (yj h)
theorem Yd {α:Type} (l:List α) (r k i n:Nat) (h:i+n≤k):(((l.drop r).take k).drop i).take n=(l.drop (r+i)).take n:=by
 rw[List.drop_take,List.drop_drop,List.take_take,Nat.min_eq_left (by omega)]
theorem Ye (b:Bytes) (r k i n:Nat) (h:i+n≤k):num ((b.drop r).take k) i n=num b (r+i) n:=by
 unfold num
 rw[Yd b r k i n h]
theorem Gz {b:Bytes} {e:Nat} (he:e≤b.length):∀{n r:Nat} {t:Told},r≤e→t.libraries.length≤64→Bm b e n r t=(commands b n ((b.drop r).take (e-r)) t).bind En
 |0,r,t,hr,ht=>by
  unfold Bm commands
  have hl:((b.drop r).take (e-r)).length=e-r:=by
   rw[List.length_take,List.length_drop]
   omega
  by_cases h:r=e
  ·subst h
   rw[if_pos rfl,Nat.sub_self,List.take_zero]
   show _=En t
   unfold En
   rw[if_pos ht]
  ·rw[if_neg h,if_neg]
   ·rfl
   ·intro z
    rw[List.isEmpty_iff]at z
    rw[z]at hl
    simp at hl
    omega
 |n+1,r,t,hr,ht=>by
  unfold Bm commands
  have hl:((b.drop r).take (e-r)).length=e-r:=by
   rw[List.length_take,List.length_drop]
   omega
  dsimp only
  rw[hl]
  by_cases h8:e-r<8
  ·rw[if_neg (by omega),if_pos (Or.inl h8)]
   rfl
  ·have hk:num ((b.drop r).take (e-r)) 4 4=num b (r+4) 4:=Ye b r (e-r) 4 4 (by omega)
   rw[hk]
   generalize num b (r+4) 4=k
   by_cases hc:(8≤k∧k%8=0)∧r+k≤e
   ·rw[if_pos hc,if_neg (by omega)]
    have e1:((b.drop r).take (e-r)).take k=(b.drop r).take k:=by rw[List.take_take,Nat.min_eq_left (by omega)]
    have e2:((b.drop r).take (e-r)).drop k=(b.drop (r+k)).take (e-(r+k)):=by
     rw[List.drop_take,List.drop_drop]
     congr 1
     omega
    rw[e1,e2,Yc _ _ _ ht]
    cases hcm:command b ((b.drop r).take k) t with
    |none=>rfl
    |some u =>
     show(En u).bind _=(commands b n _ u).bind En
     by_cases hu:u.libraries.length≤64
     ·have:En u=some u:=by unfold En;rw[if_pos hu]
      rw[this]
      exact Gz he hc.2 hu
     ·have:En u=none:=by unfold En;rw[if_neg hu]
      rw[this]
      cases hcs:commands b n ((b.drop (r+k)).take (e-(r+k))) u with
      |none=>rfl
      |some v =>
       have:=yj hcs
       show none=En v
       unfold En
       rw[if_neg (by omega)]
   ·rw[if_neg hc,if_pos (by omega)]
    rfl
def groundOk (t:Told) (e:Nat):Prop:=match t.laid with
 | []=>False
 |s::r=>rising 0 (s::r)=true∧((s::r).getLast?.getD s).at_+((s::r).getLast?.getD s).size<2^47∧((s::r).getLast?.getD s).at_+((s::r).getLast?.getD s).size-s.at_≤MOST∧s.file=0∧e≤s.raw∧(s::r).length≤16∧t.entry.all (fun e=>decide (e<s.raw))=true
instance {t:Told} {e:Nat}:Decidable (groundOk t e):=by
 unfold groundOk
 split<;>infer_instance
theorem Cs (b:Bytes):toldOf b=(yi b).bind fun t=>if groundOk t (32+num b 20 4) then some t else none:=by
 unfold toldOf yi
 dsimp only
 by_cases h:zt b
 ·obtain⟨h1,h2,h3,h4,h5,h6⟩:=id h
  rw[if_neg (by rintro(z|z|z|z|z|z)<;>first|omega|contradiction),if_pos h,Gz h6 (by omega) (by decide),Nat.add_sub_cancel_left]
  cases hc:commands b (num b 16 4) ((b.drop 32).take (num b 20 4)) {} with
  |none=>rfl
  |some t =>
   show(match t.laid with | []=>none|s::r=>_)=(En t).bind _
   unfold En
   by_cases hg:groundOk t (32+num b 20 4)
   ·unfold groundOk at hg
    have hg':groundOk t (32+num b 20 4):=hg
    cases hl:t.laid with
    |nil=>rw[hl]at hg;exact hg.elim
    |cons s r =>
     rw[hl]at hg
     obtain⟨x1,x2,x3,x4,x5,x6,x7⟩:=hg
     dsimp only
     by_cases Po:t.libraries.length≤64
     ·rw[if_pos ⟨x1,x2,x3,x4,x5,x6,Po,x7⟩,if_pos Po]
      show _=if _ then some t else none
      rw[if_pos hg']
     ·rw[if_neg (fun z=>Po z.2.2.2.2.2.2.1),if_neg Po]
      rfl
   ·have e1:((if t.libraries.length≤64 then some t else none:Option Told).bind fun t=>if groundOk t (32+num b 20 4) then some t else none)=none:=by
     by_cases Po:t.libraries.length≤64
     ·rw[if_pos Po]
      show(if _ then some t else none)=none
      rw[if_neg hg]
     ·rw[if_neg Po]
      rfl
    rw[e1]
    unfold groundOk at hg
    cases hl:t.laid with
    |nil=>rfl
    |cons s r =>
     rw[hl]at hg
     dsimp only
     rw[if_neg fun z=>hg ⟨z.1,z.2.1,z.2.2.1,z.2.2.2.1,z.2.2.2.2.1,z.2.2.2.2.2.1,z.2.2.2.2.2.2.2⟩]
 ·rw[if_neg h,if_pos]
  ·rfl
  ·unfold zt at h
   by_cases z:num b 12 4=2∨num b 12 4=6∨num b 12 4=8
   ·by_cases z1:num b 0 4=4277009103
    ·by_cases z2:num b 4 4=16777223
     ·have:¬(32≤b.length∧num b 16 4≤256∧32+num b 20 4≤b.length):=fun q=>h ⟨q.1,z1,z2,z,q.2.1,q.2.2⟩
      omega
     ·exact .inr (.inr (.inl z2))
    ·exact .inr (.inl z1)
   ·exact .inr (.inr (.inr (.inl z)))
end MI
namespace MI
open PySem L2
def bare (s:Rc31.Segment):Bool:=decide (s.raw=0∧s.rights=0)
def Ra:List Rc31.Segment→List Rc31.Segment
 | []=>[]
 |s::r=>if s.raw=0∧s.rights=0 then r else s::r
theorem Rb (t:Rc31.Told):t.laid=Ra t.segments:=by
 unfold Rc31.Told.laid Ra
 cases t.segments with
 |nil=>rfl
 |cons s r=>rfl
theorem qZ {α β:Type} {F:α→β→Prop}:∀{l:List α} {m:List β},Paired F l m→∀{i:Nat} {x:α},l[i]?=some x→∃y,m[i]?=some y∧F x y
 |_,_,.nil,i,x,h=>by simp at h
 |_,_,.cons r t,0,x,h=>⟨_,rfl,by simp at h;subst h;exact r⟩
 |_,_,.cons r t,i+1,x,h=>qZ t (by simpa using h)
theorem oG {α β:Type} {F:α→β→Prop}:∀{l:List α} {m:List β},Paired F l m→∀{i:Nat} {y:β},m[i]?=some y→∃x,l[i]?=some x∧F x y
 |_,_,.nil,i,x,h=>by simp at h
 |_,_,.cons r t,0,x,h=>⟨_,rfl,by simp at h;subst h;exact r⟩
 |_,_,.cons r t,i+1,x,h=>oG t (by simpa using h)
theorem pH {l:List Addr} {i:Nat} {x:V} (h:(l.map V.ref)[i]?=some x):∃y,l[i]?=some y∧x=V.ref y:=by
 rw[List.getElem?_map]at h
 cases e:l[i]? with
 |none=>rw[e]at h;cases h
 |some y=>rw[e]at h;exact⟨y,rfl,(Option.some.inj h).symm⟩
section
variable {g:Gm} {a:Ad}
def Vp (a:Ad):Sp:=fun vs H Q E=>∃(x:Addr) (s:Rc31.Segment) (n:Nat),vs=[.ref x]∧yh a H x s n∧Q (.bl (bare s)) H
theorem GB (T:Tx g.K g.mg a):Pr g 1 a.Ki ["segment"] (Vp a):=by
 refine Pr.on T.Jo Oz fun cF A outer s H vs Q E hr h=>?_
 obtain⟨x,s,n,rfl,⟨d,hx⟩,k⟩:=h
 refine⟨_,ag (aS (JX (aH bZ (ar (pv 0) rfl) ak (aC _)) (ub (aH bZ (ar (pv 0) rfl) ak (aC _))))),?_⟩
 refine⟨_,rfl,x,_,d,_,_,rfl,hx,T.aG,T.bK,d9,rfl,_,rfl,aw (fun c1=>?_) fun c1=>?_⟩
 ·have c1:=bo c1
  refine⟨_,rfl,x,_,d,_,_,rfl,hx,T.aG,T.da,kW,rfl,?_⟩
  have e:decide (V.int (s.rights:Int)=V.int 0)=bare s:=by
   unfold bare
   rw[Bool.eq_iff_iff,decide_eq_true_iff,decide_eq_true_iff]
   exact⟨fun z=>⟨by omega,by have:=bo z;omega⟩,fun z=>by rw[z.2];rfl⟩
  show Q (V.bl (decide (V.int (s.rights:Int)=V.int 0))) H
  rw[e]
  exact k
 ·have c1:=bq c1
  have e:bare s=false:=decide_eq_false fun z=>c1 (by rw[z.1];rfl)
  rw[e]at k
  exact k
def Nq (a:Ad):Sp:=fun vs H Q E=>∃(x:Addr) (s:Rc31.Segment) (n:Nat) (h:Int),vs=[.ref x,.int h]∧yh a H x s n∧∀p,H p=none→Q (.ref p) (upd H p (.tup [.int ((s.at_:Int)-h),.int ((s.at_:Int)-h+(s.size:Int))]))
theorem Px (T:Tx g.K g.mg a):Pr g 1 a.Kh ["segment","home"] (Nq a):=by
 refine Pr.on T.Jm Oy fun cF A outer s H vs Q E hr h=>?_
 obtain⟨x,s,n,h,rfl,⟨d,hx⟩,k⟩:=h
 refine⟨_,ag (aS (Of (aa (aO gx (ar (pv 0) rfl) (pv 1)) (aa (aO ck (aO gx (ar (pv 0) rfl) (pv 1)) (ar (pv 0) rfl)) ai)))),?_⟩
 refine⟨_,rfl,x,_,d,_,_,rfl,hx,T.aG,T.aX,bP,_,rfl,_,_,rfl,rfl,_,rfl,x,_,d,_,_,rfl,hx,T.aG,T.aX,bP,_,rfl,_,_,rfl,rfl,_,rfl,x,_,d,_,_,rfl,hx,T.aG,T.cg,gi,_,_,rfl,rfl,(by show 2≤sizeLine;decide),fun p hp=>k p hp⟩
def Vq (a:Ad):Sp:=fun vs H Q E=>∃(ls:Addr) (sa:List Addr) (ss:List Rc31.Segment),vs=[.ref ls]∧H ls=some (.lst (sa.map V.ref))∧jd a H sa ss∧∀l la H',H l=none→H' l=some (.lst (la.map V.ref))→jd a H' la (Ra ss)→ax H H'→Q (.ref l) H'
theorem Py (T:Tx g.K g.mg a):Pr g 2 a.Kj ["segments"] (Vq a):=by
 refine Pr.on T.Jp OB fun cF A outer s H vs Q E hr h=>?_
 obtain⟨ls,sa,ss,rfl,hl,hs,k⟩:=h
 refine⟨_,ae (dk (PW.pt (aah (jG (pv 0) (fun _=>rfl)) (WM (jG (aU (GB T) au hr (by decide) T.B0 (aa (fL cG (pv 0) ak (fun _ _=>rfl)) ai)) (fun _=>rfl))))) (ag (aS (jH mX (pv 0) (gV ak) Ez))) gw)
  (ag (aS (wu J5 (by rfl) T.OH rfl (aa (pv 0) ai)))),?_⟩
 have same:∀{p:Addr} {o:HO},H p=none→jd a (upd H p o) sa ss:=fun{p o} hp=>bc hs fun x _ y ⟨n,q⟩=>⟨n,q.keep fun _ _ _ e=>(ax.upd hp) _ _ e⟩
 have whole:Ra ss=ss→aai (tCB (fun xs H Q=>∃p ys,xs=[.ref p]∧(bO g.K H p ys∨tS g.K H p ys)∧∀l,H l=none→Q (.ref l) (upd H l (.lst ys))) (CJ (zK 0) Hj)) {nx:=fun _ H'=>Q .de H',rt:=Q} [some (.ref ls)] H:=fun e =>
  ⟨_,rfl,ls,_,rfl,.inl (bO.of hl),fun l nl=>k l sa _ nl af (by rw[e];exact same nl) (ax.upd nl)⟩
 refine⟨_,rfl,_,.inl ⟨_,bO.of hl,rfl⟩,?_⟩
 cases hs with
 |nil=>exact eg (eg (whole rfl))
 |cons r t =>
  rename_i x s sa ss
  obtain⟨n,q⟩:=id r
  refine iA ⟨_,rfl,ls,_,_,_,rfl,rfl,bO.of hl,at_of (j:=0) rfl rfl,x,s,n,rfl,q,_,rfl,?_⟩
  by_cases hb:s.raw=0∧s.rights=0
  ·rw[show bare s=true from decide_eq_true hb]
   refine iA ⟨_,rfl,_,rfl,ls,_,rfl,bO.of hl,fun l nl=>?_⟩
   have e1:zQ ((x::sa).map V.ref) (some 1) none=sa.map V.ref:=by
    unfold zQ
    rw[HT.E8,show(1:Int)=((1:Nat):Int) from rfl,HT.zP]
    simp
    rw[List.take_of_length_le (by rw[List.length_map];exact Nat.le_refl _)]
   rw[e1]
   refine k l sa _ nl af ?_ (ax.upd nl)
   show jd a _ sa (if s.raw=0∧s.rights=0 then ss else s::ss)
   rw[if_pos hb]
   exact bc t fun x _ y ⟨n,q⟩=>⟨n,q.keep fun _ _ _ e=>(ax.upd nl) _ _ e⟩
  ·rw[show bare s=false from decide_eq_false hb]
   refine eg (whole ?_)
   show(if s.raw=0∧s.rights=0 then ss else s::ss)=s::ss
   rw[if_neg hb]
end
end MI
namespace MI
open PySem L2
theorem dm {A B:Prop} {b:Bool} (h1:b=true→A) (h2:b=false→B):if b=true then A else B:=by
 cases b with
 |true=>exact iA (h1 rfl)
 |false=>exact eg (h2 rfl)
def endOf:Nat→List Rc31.Segment→Nat
 |a,[]=>a
 |_,s::r=>endOf (s.at_+s.size) r
theorem Ct:∀(l:List Rc31.Segment) (a:Nat) (s:Rc31.Segment),endOf a (l++[s])=s.at_+s.size
 | [],_,_=>rfl
 |_::r,_,s=>Ct r _ s
theorem GC (s:Rc31.Segment) (r:List Rc31.Segment) (a:Nat):endOf a (s::r)=((s::r).getLast?.getD s).at_+((s::r).getLast?.getD s).size:=by
 have h:s::r≠[]:=by simp
 rw[←List.dropLast_concat_getLast h,Ct]
 simp
def Nr:List Rc31.Segment→Prop
 | []=>False
 |s::r=>(s::r).length≤16∧Rc31.rising s.at_ (s::r)=true∧endOf s.at_ (s::r)<2^47∧endOf s.at_ (s::r)-s.at_≤Rc31.MOST
def Le (s:Rc31.Segment) (e:Nat) (o:Option Nat):Prop:=s.file=0∧e≤s.raw∧o.all (fun e=>decide (e<s.raw))=true
theorem ni (t:Rc31.Told) (e:Nat):groundOk t e↔Nr t.laid∧∀s r,t.laid=s::r→Le s e t.entry:=by
 unfold groundOk
 cases h:t.laid with
 |nil=>exact⟨fun z=>z.elim,fun z=>z.1⟩
 |cons s r =>
  have e1:=GC s r s.at_
  have e2:Rc31.rising 0 (s::r)=Rc31.rising s.at_ (s::r):=by
   unfold Rc31.rising
   congr 1
   rw[Bool.eq_iff_iff,decide_eq_true_iff,decide_eq_true_iff]
   omega
  constructor
  ·rintro⟨x1,x2,x3,x4,x5,x6,x7⟩
   refine⟨⟨x6,by rw[←e2];exact x1,by rw[e1];exact x2,by rw[e1];exact x3⟩,fun s' r' z=>?_⟩
   cases z
   exact⟨x4,x5,x7⟩
  ·rintro⟨⟨x6,x1,x2,x3⟩,z⟩
   obtain⟨x4,x5,x7⟩:=z s r rfl
   rw[e1]at x2 x3
   exact⟨by rw[e2];exact x1,x2,x3,x4,x5,x6,x7⟩
section
variable {g:Gm} {a:Ad}
def Pz (a:Ad):Sp:=fun vs H Q E=>∃(l:Addr) (la:List Addr) (ss:List Rc31.Segment),vs=[.ref l]∧H l=some (.lst (la.map V.ref))∧jd a H la ss∧(Nr ss→Q .de H)∧(¬Nr ss→E (.ref a.aE) none H)
theorem Lf (T:Tx g.K g.mg a):Pr g 2 a.BS ["laid"] (Pz a):=by
 refine Pr.on T.C7 m4 fun cF A outer s H vs Q E hr h=>?_
 obtain⟨l,la,ss,rfl,hl,hs,k1,k0⟩:=h
 refine⟨_,ae (az (aB T) au hr (by decide) T.aA (zO iK iK ak (aV aJ (by rfl) T.eL PySem.boot_len (aa (pv 0) ai)) (pk T.Dr)))
  (ae (aI (i:=1) m4.nd rfl (Or.inl rfl) (ar (fL cG (pv 0) ak (fun _ _=>rfl)) rfl))
  (ae (l7 tU rfl (lh (pv 0)) (dH (i:=2) m4.nd rfl (Or.inl rfl)) (ae (az (aB T) au hr (by decide) T.aA (aH zN (ar (pv 2) rfl) (pv 1) (aC _)))
  (ae (az (aB T) au hr (by decide) T.aA (aH IU (ar (pv 2) rfl) ak (aC _)))
  (ag (aI (i:=1) m4.nd rfl (Or.inl rfl) (aO ck (ar (pv 2) rfl) (ar (pv 2) rfl)))))))
  (ae (az (aB T) au hr (by decide) T.aA (aH nE (pv 1) (pk T.UL) (aC _)))
  (ag (az (aB T) au hr (by decide) T.aA (aH iK (aO gx (pv 1) (ar (fL cG (pv 0) ak (fun _ _=>rfl)) rfl)) (pk T.se) (aC _))))))),?_⟩
 have hlen:=bu hs
 have p1:Nr ss→1≤ss.length∧ss.length≤16:=fun z=>by
  match ss,z with
  |s::r,z=>exact⟨by simp,z.1⟩
 refine⟨_,rfl,l,_,rfl,.inl (bO.of hl),_,_,rfl,rfl,_,rfl,aw (fun c1=>?_) fun c1=>⟨false,rfl,eg (k0 fun z=>c1 (by rw[List.length_map,hlen];have:=p1 z;omega))⟩⟩
 rw[List.length_map,hlen]at c1
 refine⟨_,_,rfl,rfl,_,rfl,aw (fun c2=>?_) fun c2=>k0 fun z=>c2 (by rw[List.length_map,hlen];have:=p1 z;omega)⟩
 rw[List.length_map,hlen]at c2
 cases hs with
 |nil=>simp at c1
 |cons r0 t0 =>
  rename_i x0 s0 la ss
  have hs:jd a H (x0::la) (s0::ss):=.cons r0 t0
  obtain⟨n0,d0,h0⟩:=id r0
  refine⟨_,rfl,l,_,_,_,rfl,rfl,bO.of hl,at_of (j:=0) rfl rfl,x0,_,d0,_,_,rfl,h0,T.aG,T.aX,bP,?_⟩
  refine⟨_,rfl,l,rfl,⟨_,bO.of hl⟩,ud (K:=g.K) (a:=l) (xs:=(x0::la).map V.ref) (fun i σ H2=>∃v,σ=[some (.ref l),some (.int (endOf s0.at_ ((s0::ss).take i):Nat)),v]∧H2=H∧Rc31.rising s0.at_ (s0::ss)=Rc31.rising (endOf s0.at_ ((s0::ss).take i)) ((s0::ss).drop i))
   ⟨none,rfl,rfl,rfl⟩ (fun i σ H2 _ ⟨_,_,e,_⟩=>by rw[e];exact bO.of hl) ?_ ?_⟩
  ·rintro i y σ H2 hi ⟨v,rfl,rfl,eR⟩
   obtain⟨x,hx,rfl⟩:=pH hi
   obtain⟨s,hs',n,d,SG⟩:=qZ hs hx
   obtain⟨aeh,aei⟩:=List.getElem?_eq_some_iff.mp hs'
   have ed:(s0::ss).drop i=s::(s0::ss).drop (i+1):=by rw[List.drop_eq_getElem_cons aeh,aei]
   have et:endOf s0.at_ ((s0::ss).take (i+1))=s.at_+s.size:=by
    rw[List.take_succ,hs']
    exact Ct _ _ _
   generalize hE:endOf s0.at_ ((s0::ss).take i)=en at *
   have eR2:Rc31.rising s0.at_ (s0::ss)=(decide (en≤s.at_∧0<s.size)&&Rc31.rising (s.at_+s.size) ((s0::ss).drop (i+1))):=by
    rw[eR,ed]
    rfl
   refine⟨_,rfl,x,_,d,_,_,rfl,SG,T.aG,T.aX,bP,_,rfl,_,_,rfl,rfl,_,rfl,aw (fun c3=>?_) fun c3=>k0 fun z=>?_⟩
   ·refine⟨_,rfl,x,_,d,_,_,rfl,SG,T.aG,T.cg,gi,_,_,rfl,rfl,_,rfl,aw (fun c4=>?_) fun c4=>k0 fun z=>?_⟩
    ·refine⟨_,rfl,x,_,d,_,_,rfl,SG,T.aG,T.aX,bP,_,rfl,x,_,d,_,_,rfl,SG,T.aG,T.cg,gi,_,_,rfl,rfl,?_⟩
     refine⟨some (.ref x),?_,rfl,?_⟩
     ·rw[et]
      have e9:(s.at_:Int)+(s.size:Int)=((s.at_+s.size:Nat):Int):=by omega
      rw[←e9]
      rfl
     ·rw[et,eR2,show decide (en≤s.at_∧0<s.size)=true from decide_eq_true ⟨by omega,by omega⟩]
      rfl
    ·have z2:=z.2.1
     rw[eR2,Bool.and_eq_true,decide_eq_true_iff]at z2
     omega
   ·have z2:=z.2.1
    rw[eR2,Bool.and_eq_true,decide_eq_true_iff]at z2
    omega
  ·rintro σ H2 ⟨v,rfl,rfl,eR⟩
   have e1:(s0::ss).take ((x0::la).map V.ref).length=s0::ss:=List.take_of_length_le (by rw[List.length_map];exact Nat.le_of_eq hlen.symm)
   have e2:(s0::ss).drop ((x0::la).map V.ref).length=[]:=List.drop_of_length_le (by rw[List.length_map];exact Nat.le_of_eq hlen.symm)
   rw[e2]at eR
   rw[e1]
   generalize hE:endOf s0.at_ (s0::ss)=en
   refine⟨_,rfl,_,_,rfl,rfl,_,rfl,?_⟩
   generalize hb5:decide ((en:Int)<140737488355328)=b5
   refine dm ?_ ?_
   rotate_left
   ·intro c5
    exact k0 fun z=>of_decide_eq_false (hb5.trans c5) (by have:=z.2.2.1;omega)
   intro c5
   have c5:=of_decide_eq_true (hb5.trans c5)
   refine⟨_,rfl,_,rfl,l,_,_,_,rfl,rfl,bO.of hl,at_of (j:=0) rfl rfl,x0,_,d0,_,_,rfl,h0,T.aG,T.aX,bP,_,_,rfl,rfl,_,_,rfl,rfl,_,rfl,?_⟩
   refine dm (fun c6=>?_) fun c6=>k0 fun z=>of_decide_eq_false c6 (by have:=z.2.2.2;unfold Rc31.MOST at this;omega)
   have c6:=of_decide_eq_true c6
   exact k1 ⟨by omega,eR.trans rfl,by omega,by unfold Rc31.MOST;omega⟩
end
end MI
namespace MI
open PySem L2
def ahM (K:PySem.W.Frag) (ta:TE):TT:=fun σ H Q=>ta σ H fun x H'=>∃k,WT K x H' k∧Q k H'
section
variable {g:Gm} {a:Ad}
def Lg (a:Ad):Sp:=fun vs H Q E=>∃(x p ls ll:Addr) (s:Rc31.Segment) (n:Nat) (b:List UInt8) (reach:Nat) (t:Rc31.Told),vs=[.ref x,.ref p]∧yh a H x s n∧lU a H p ls ll b reach t∧(Le s reach t.entry→Q .de H)∧(¬Le s reach t.entry→E (.ref a.aE) none H)
theorem GF (T:Tx g.K g.mg a):Pr g 2 a.uS ["first","contents"] (Lg a):=by
 refine Pr.on T.xI Fp fun cF A outer s H vs Q E hr h=>?_
 obtain⟨x,p,ls,ll,s,n,b,reach,t,rfl,⟨d,hx⟩,⟨dx,bg,pt,sa,la,as,C⟩,k1,k0⟩:=h
 refine⟨_,ae (az (aB T) au hr (by decide) T.aA (aH bZ (ar (pv 0) rfl) ak (aC _)))
  (ae (az (aB T) au hr (by decide) T.aA (aH zN (ar (pv 0) rfl) (ar (pv 1) rfl) (aC _)))
  (ag (az (aB T) au hr (by decide) T.aA (QA (EV (By (ar (pv 1) rfl))) (ub (aH nE (ar (pv 1) rfl) (ar (pv 0) rfl) (aC _))))))),?_⟩
 refine⟨_,rfl,x,_,d,_,_,rfl,hx,T.aG,T.cy,iH,rfl,_,rfl,aw (fun c1=>?_) fun c1=>k0 fun z=>bq c1 (by rw[z.1];rfl)⟩
 have c1:=bo c1
 refine⟨_,rfl,x,_,d,_,_,rfl,hx,T.aG,T.bK,d9,_,rfl,p,_,dx,_,_,rfl,C.ob,T.aM,T.bA,dA,_,_,rfl,rfl,_,rfl,aw (fun c2=>?_) fun c2=>k0 fun z=>c2 (by have:=z.2.1;omega)⟩
 refine⟨_,rfl,p,_,dx,_,_,rfl,C.ob,T.aM,T.ba,dG,_,rfl,?_⟩
 have hbg:=C.bg
 cases he:t.entry with
 |none =>
  rw[he]at hbg
  obtain rfl:bg = .de:=hbg
  refine iA ⟨_,rfl,iA (k1 ⟨by omega,by omega,by rw[he];rfl⟩)⟩
 |some e =>
  rw[he]at hbg
  obtain rfl:bg = .int (e:Int):=hbg
  refine eg ⟨_,rfl,p,_,dx,_,_,rfl,C.ob,T.aM,T.ba,dG,_,rfl,x,_,d,_,_,rfl,hx,T.aG,T.bK,d9,_,_,rfl,rfl,_,rfl,aw (fun c3=>?_) fun c3=>k0 fun z=>c3 ?_⟩
  ·exact k1 ⟨by omega,by omega,by rw[he];exact decide_eq_true (by omega)⟩
  ·have z3:=z.2.2
   rw[he]at z3
   have z3:decide (e<s.raw)=true:=z3
   have:=of_decide_eq_true z3
   omega
def written (s:Rc31.Segment):Bool:=s.rights/2%2==1
def dC (h:Nat) (l:List Rc31.Segment):List (Int×Int):=(l.filter written).map fun s=>((s.at_:Int)-h,(s.at_:Int)-h+s.size)
abbrev Rc (H:Hp) (pa:List Addr) (ps:List (Int×Int)):Prop:=Paired (fun x p=>H x=some (.tup [.int p.1,.int p.2])) pa ps
structure GrD (a:Ad) (H:Hp) (p:Addr) (t:Rc31.Told) (dx ls kC sp:Addr) (sa la pa:List Addr):Prop where
 ob:H p=some (.ins a.cZ dx (gN (.ref ls) (.ref kC) (.int (t.base:Int)) (.int (t.size:Int)) (.ref sp)))
 hs:H ls=some (.lst (sa.map V.ref))
 oF:jd a H sa t.segments
 hl:H kC=some (.lst (la.map V.ref))
 laid:jd a H la t.laid
 hp:H sp=some (.lst (pa.map V.ref))
 spans:Rc H pa (dC t.base t.laid)
 Fc:a.new kC
def Cu (a:Ad) (H:Hp) (p:Addr) (t:Rc31.Told):Prop:=∃dx ls kC sp sa la pa,GrD a H p t dx ls kC sp sa la pa
theorem jd.same {H H':Hp} {sa:List Addr} {ss:List Rc31.Segment} (h:jd a H sa ss) (s:ax H H'):jd a H' sa ss:=bc h fun x _ y ⟨n,q⟩=>⟨n,q.keep fun _ _ _ e=>s _ _ e⟩
theorem Cu.same {H H':Hp} {p:Addr} {t:Rc31.Told} (h:Cu a H p t) (s:ax H H'):Cu a H' p t:=by
 obtain⟨dx,ls,kC,sp,sa,la,pa,h⟩:=h
 exact⟨dx,ls,kC,sp,sa,la,pa,s _ _ h.ob,s _ _ h.hs,h.oF.same s,s _ _ h.hl,h.laid.same s,s _ _ h.hp,bc h.spans fun x _ y q=>s _ _ q,h.Fc⟩
theorem ahN (n:Nat) (h:n<8):(Builtin.bitAnd (n:Int) 2 != 0)=(n/2%2==1):=by
 match n,h with
 |0,_=>rfl
 |1,_=>rfl
 |2,_=>rfl
 |3,_=>rfl
 |4,_=>rfl
 |5,_=>rfl
 |6,_=>rfl
 |7,_=>rfl
def Lh (a:Ad):Sp:=fun vs H Q E=>∃(p dx ls kC:Addr) (sa la:List Addr) (t:Rc31.Told),vs=[.ref p,.ref ls,.ref kC]∧a.new kC∧H p=some (.ins a.cZ dx [])∧H ls=some (.lst (sa.map V.ref))∧jd a H sa t.segments∧H kC=some (.lst (la.map V.ref))∧jd a H la t.laid∧t.laid≠[]∧t.laid.length≤16∧(∀s∈t.laid,s.rights<8) ∧
 (t.base:Int)≤((t.laid.getLast?).map fun s=>s.at_+s.size).getD 0∧∀H',Cu a H' p t→Kp (At p) H H'→Q .de H'
theorem GG (T:Tx g.K g.mg a):Pr g 2 a.uR ["self","segments","laid"] (Lh a):=by
 refine Pr.on T.xH nT fun cF A outer s H vs Q E hr h=>?_
 obtain⟨p,dx,ls,kC,sa,la,t,rfl,Om,hp,hs,oF,hl,laid,Hc,h16,h8,Jc,k⟩:=h
 refine⟨_,ae (aT (pv 0) (pv 1) rfl)
  (ae (aT (pv 0) (pv 2) rfl)
  (ae (aT (pv 0) (ar (fL cG (pv 2) ak (fun _ _=>rfl)) rfl) rfl)
  (ae (aT (pv 0) (aO gx (aO ck (ar (fL cG (pv 2) (zM rA ak) (fun _ _=>rfl)) rfl) (ar (fL cG (pv 2) (zM rA ak) (fun _ _=>rfl)) rfl)) (ar (pv 0) rfl)) rfl)
  (ag (aT (pv 0) (Cp (tt:=ahM g.K (Zh (TR fun i j=>.int (Builtin.bitAnd i j)) (J1 g.K (zK 3) "rights") (tC (.int 2)))) (te:=E5 (Nq a) [] E (CJ (zK 3) (CJ (J1 g.K (zK 0) "home") Hj))) JA rfl nT.nd (lh (pv 2)) (nG (N:=["self","segments","laid","segment"]) (sc:=aq lr) (own:=[("segment",3)]) (by decide +kernel)) (fun _ _ _ _ _ _=>dH (i:=3) nT.nd rfl (Or.inl rfl)) (fun _ _ _ _ _ _ _=>QL (jG (aO aaw (ar (pv 3) rfl) (pk T.Jx)) (fun _=>rfl))) (fun _ _ _ _ _ _ pass=>aU (Px T) pass hr (by decide) T.Jn (aa (pv 3) (aa (ar (pv 0) rfl) ai)))) rfl))))),?_⟩
 have nls:ls≠p:=cQ hs hp (by intro z;cases z)
 have Wz:kC≠p:=cQ hl hp (by intro z;cases z)
 have JB:∀{x:Addr} {s:Rc31.Segment} {n:Nat},yh a H x s n→x≠p:=fun{x s n} ⟨d,e⟩=>cQ e hp (by intro z;injection z with _ _ z;have:=congrArg List.length z;cases this)
 have su:∀{o:HO},jd a (upd H p o) sa t.segments∧jd a (upd H p o) la t.laid:=fun{o} =>
  ⟨bc oF fun x _ y ⟨n,q⟩=>⟨n,q.keep fun _ _ _ e=>by rw[aj (JB q)];exact e⟩,bc laid fun x _ y ⟨n,q⟩=>⟨n,q.keep fun _ _ _ e=>by rw[aj (JB q)];exact e⟩⟩
 have hlen:=bu laid
 obtain⟨pG,sl,el⟩:∃pG sl,t.laid=pG++[sl]:=⟨t.laid.dropLast,t.laid.getLast Hc,(List.dropLast_concat_getLast Hc).symm⟩
 obtain⟨s0,r0,e0⟩:∃s0 r0,t.laid=s0::r0:=by
  cases h:t.laid with
  |nil=>exact absurd h Hc
  |cons s r=>exact⟨s,r,rfl⟩
 have hb:t.base=s0.at_:=by
  unfold Rc31.Told.base
  rw[e0]
  rfl
 have hsz:t.size=sl.at_+sl.size-t.base:=by
  unfold Rc31.Told.size
  rw[el]
  simp
 rw[el]at Jc
 simp at Jc
 obtain⟨x0,Nj,n0,q0⟩:=oG laid (i:=0) (y:=s0) (by rw[e0];rfl)
 obtain⟨xl,hxl,nl,ql⟩:=oG laid (i:=pG.length) (y:=sl) (by rw[el];simp)
 obtain⟨d0,q0⟩:=q0
 obtain⟨dl,ql⟩:=ql
 have nx0:x0≠p:=JB (n:=n0) ⟨d0,q0⟩
 have nxl:xl≠p:=JB (n:=nl) ⟨dl,ql⟩
 have la0:(la.map V.ref)[0]?=some (.ref x0):=by rw[List.getElem?_map,Nj];rfl
 have aek:la.map V.ref=(la.map V.ref).dropLast++[.ref xl]:=by
  have Rf:la.length=pG.length+1:=by rw[hlen,el];simp
  have:la=la.dropLast++[xl]:=by
   have ael:la≠[]:=fun z=>by rw[z]at Rf;simp at Rf
   have e2:la.getLast ael=xl:=by
    rw[List.getLast_eq_getElem]
    have:la[la.length-1]?=some xl:=by rw[show la.length-1=pG.length by omega];exact hxl
    obtain⟨h1,h2⟩:=List.getElem?_eq_some_iff.mp this
    exact h2
   rw[←e2]
   exact(List.dropLast_concat_getLast ael).symm
  conv=>lhs;rw[this]
  rw[List.map_append,List.map_dropLast]
  rfl
 have atl:Ww (la.map V.ref) (-1)=some (.ref xl):=by rw[aek];exact Md _ _
 refine⟨_,rfl,_,rfl,p,_,dx,_,rfl,hp,T.bH,T.dv,(by show 0<1000;decide),_,rfl,_,rfl,p,_,dx,_,rfl,af,T.bH,T.gh,pl1,?_⟩
 rw[bM]
 refine⟨_,rfl,kC,_,_,_,rfl,rfl,bO.of (by rw[aj Wz];exact hl),at_of (j:=0) rfl la0,x0,_,d0,_,_,rfl,(by rw[aj nx0];exact q0),T.aG,T.aX,bP,_,rfl,p,_,dx,_,rfl,af,T.bH,T.cE,pl2,?_⟩
 rw[bM]
 have lk:List.lookup ("home" : Str) (aF "home" (V.int (s0.at_:Int)) (aF "laid" (V.ref kC) (aF "segments" (V.ref ls) [])))=some (V.int (s0.at_:Int)):=by rw[lK,if_pos rfl]
 refine⟨_,rfl,_,rfl,kC,_,_,_,rfl,rfl,bO.of (by rw[aj Wz];exact hl),atl,xl,_,dl,_,_,rfl,(by rw[aj nxl];exact ql),T.aG,T.aX,bP,_,rfl,_,rfl,kC,_,_,_,rfl,rfl,bO.of (by rw[aj Wz];exact hl),atl,xl,_,dl,_,_,rfl,(by rw[aj nxl];exact ql),T.aG,T.cg,gi,_,_,rfl,rfl,
  _,rfl,p,_,dx,_,_,rfl,af,T.bH,T.cE,lk,_,_,rfl,rfl,_,rfl,p,_,dx,_,rfl,af,T.bH,T.cS,pl3,?_⟩
 rw[bM]
 have esz:(sl.at_:Int)+(sl.size:Int)-(s0.at_:Int)=(t.size:Int):=by rw[hsz,hb];omega
 generalize ho:HO.ins a.cZ dx (aF "length" (V.int ((sl.at_:Int)+(sl.size:Int)-(s0.at_:Int))) (aF "home" (V.int (s0.at_:Int)) (aF "laid" (V.ref kC) (aF "segments" (V.ref ls) []))))=o
 have hlu:upd H p o kC=some (.lst (la.map V.ref)):=by rw[aj Wz];exact hl
 refine⟨_,rfl,kC,rfl,⟨_,bO.of hlu⟩,fun D hD=>?_⟩
 have sD:ax (upd H p o) (upd (upd H p o) D (.lst [])):=ax.upd hD
 have npD:p≠D:=ao af hD
 have nD:H D=none:=by rw[aj npD.symm]at hD;exact hD
 refine zV (K:=g.K) (a:=kC) (xs:=la.map V.ref) (fun i H4=>∃pa:List Addr,H4 D=some (.lst (pa.map V.ref))∧ax (upd H p o) H4∧Rc H4 pa (dC t.base (t.laid.take i))∧pa.length≤i∧∀q∈pa,q≠D∧upd H p o q=none) ⟨[],af,sD,.nil,Nat.le_refl _,fun _ h=>(nomatch h)⟩ (fun i H4 _ ⟨pa,_,s4,_⟩=>bO.of (s4 _ _ hlu)) ?_ ?_
 ·rintro i y H4 hi ⟨pa,hq,s4,QH,oI,Vr⟩
  obtain⟨x,hx,rfl⟩:=pH hi
  obtain⟨sg,SH,n,d,SG⟩:=qZ (su (o:=o)).2 hx
  have hx4:=s4 _ _ SG
  obtain⟨aeh,aei⟩:=List.getElem?_eq_some_iff.mp SH
  have r8:=h8 sg (List.mem_of_getElem? SH)
  have et:t.laid.take (i+1)=t.laid.take i++[sg]:=by rw[List.take_succ,SH];rfl
  refine⟨rfl,_,rfl,x,_,d,_,_,rfl,hx4,T.aG,T.da,kW,_,_,rfl,rfl,_,rfl,?_⟩
  rw[ahN sg.rights r8]
  have h4p:H4 p=some o:=s4 _ _ af
  rw[←ho]at h4p
  have e16:i<16:=by omega
  cases hw:(sg.rights/2%2==1) with
  |true =>
   refine iA ⟨_,rfl,_,rfl,p,_,dx,_,_,rfl,h4p,T.bH,T.cE,(by rw[lK,if_neg (by decide +kernel),lK,if_pos rfl]),x,sg,n,_,rfl,⟨d,hx4⟩,fun q hq0=>?_⟩
   have nqD:q≠D:=fun z=>by rw[z,hq]at hq0;cases hq0
   refine⟨_,(by rw[aj nqD.symm];exact hq),?_,pa++[q],by rw[af,List.map_append];rfl,?_,?_,by rw[List.length_append];simp;omega,?_⟩
   ·rw[List.length_map]
    exact Nat.lt_of_le_of_lt oI (Nat.lt_trans e16 (by decide))
   ·intro y u e
    have h1:y≠D:=ao e hD
    rw[aj h1,aj (ao (s4 _ _ e) hq0)]
    exact s4 _ _ e
   ·have e5:dC t.base (t.laid.take (i+1))=dC t.base (t.laid.take i)++[((sg.at_:Int)-t.base,(sg.at_:Int)-t.base+sg.size)]:=by
     unfold dC
     rw[et,List.filter_append,List.map_append]
     have:[sg].filter written=[sg]:=by
      rw[List.filter_cons,show written sg=true from hw]
      rfl
     rw[this]
     rfl
    rw[e5]
    refine gv (bc QH fun y hy z e=>?_) ?_
    ·rw[aj (Vr y hy).1,aj (ao e hq0)]
     exact e
    ·rw[aj nqD,af,hb]
   ·intro y hy
    rcases List.mem_append.mp hy with z|z
    ·exact Vr y z
    ·obtain rfl:y=q:=by simpa using z
     exact⟨nqD,s4.free hq0⟩
  |false =>
   refine eg ⟨pa,hq,s4,?_,by omega,Vr⟩
   have e5:dC t.base (t.laid.take (i+1))=dC t.base (t.laid.take i):=by
    unfold dC
    rw[et,List.filter_append,List.map_append]
    have:[sg].filter written=[]:=by
     rw[List.filter_cons,show written sg=false from hw]
     rfl
    rw[this]
    simp
   rw[e5]
   exact QH
 ·rintro H4 ⟨pa,hq,s4,QH,oI,Vr⟩
  rw[List.length_map,hlen,List.take_of_length_le (Nat.le_refl _)]at QH
  have h4p:H4 p=some o:=s4 _ _ af
  rw[←ho]at h4p
  refine⟨_,rfl,p,_,dx,_,rfl,h4p,T.bH,T.gM,pl4,?_⟩
  have keep:∀{y:Addr} {u:HO},H y=some u→y≠p→∀{o':HO},upd H4 p o' y=some u:=fun{y u} e n {o'}=>by
   rw[aj n]
   exact s4 _ _ (by rw[aj n];exact e)
  have fin:(aF "spans" (V.ref D) (aF "length" (V.int ((sl.at_:Int)+(sl.size:Int)-(s0.at_:Int))) (aF "home" (V.int (s0.at_:Int)) (aF "laid" (V.ref kC) (aF "segments" (V.ref ls) [])))))=gN (.ref ls) (.ref kC) (.int (t.base:Int)) (.int (t.size:Int)) (.ref D):=by
   rw[My,esz,hb]
  rw[fin]
  refine k _ ⟨dx,ls,kC,D,sa,la,pa,⟨af,keep hs nls,bc oF fun x _ y ⟨n,q⟩=>⟨n,q.keep fun _ _ _ e=>keep e (JB q)⟩,keep hl Wz,bc laid fun x _ y ⟨n,q⟩=>⟨n,q.keep fun _ _ _ e=>keep e (JB q)⟩,by rw[aj npD.symm];exact hq,(bc QH fun y hy z e=>?_),Om⟩⟩ fun y u e n=>keep e n
  have nyp:y≠p:=fun z=>by
   have:=(Vr y hy).2
   rw[z,af]at this;cases this
  rw[aj nyp]
  exact e
end
end MI
namespace MX
open Rc31
theorem gU:W64=18446744073709551616:=by decide
def bQ (p skip i:Nat):Nat:=(p+i*(8+skip))%W64
theorem jB {p skip:Nat} (h:p<W64):bQ p skip 0=p:=by
 unfold bQ
 rw[Nat.zero_mul,Nat.add_zero,Nat.mod_eq_of_lt h]
theorem pI (p skip i:Nat):bQ ((p+8+skip)%W64) skip i=bQ p skip (i+1):=by
 unfold bQ
 rw[Nat.add_mod,Nat.mod_mod,←Nat.add_mod,Nat.succ_mul]
 congr 1
 omega
theorem Li {t:Told} {skip:Nat}:∀{n p:Nat},p<W64→(∀i,i<n→wordAt t (bQ p skip i)=true)→row t n p skip=some ((List.range n).map (bQ p skip),bQ p skip n)
 |0,p,hp,_=>by simp[row,jB hp]
 |n+1,p,hp,h=>by
  have h0:=h 0 (by omega)
  rw[jB hp]at h0
  rw[row,if_neg (by rw[h0];decide),Li (n:=n) (Nat.mod_lt _ (by decide)) (fun i hi=>by rw[pI];exact h (i+1) (by omega))]
  simp only[Option.map_some,pI]
  rw[List.range_succ_eq_map,List.map_cons,List.map_map,jB hp]
  congr 3
  apply List.map_congr_left
  intro i _
  exact pI p skip i
theorem GH {t:Told} {skip:Nat}:∀{n p i:Nat},p<W64→i<n→wordAt t (bQ p skip i)=false→row t n p skip=none
 |0,_,_,_,h,_=>by omega
 |n+1,p,0,hp,_,h=>by
  rw[jB hp]at h
  rw[row,if_pos h]
 |n+1,p,i+1,hp,hi,h=>by
  rw[row]
  by_cases h0:wordAt t p=false
  ·rw[if_pos h0]
  ·rw[if_neg h0,GH (n:=n) (i:=i) (Nat.mod_lt _ (by decide)) (by omega) (by rw[pI];exact h)]
   rfl
theorem count_le {d:Int} (hd:0<d) (lo b:Int):∀c:Nat,(((List.range c).countP fun(i:Nat)=>decide (lo+d*(i:Int)≤b):Nat):Int)=max 0 (min (c:Int) ((b-lo)/d+1))
 |0=>by simp;omega
 |c+1=>by
  have hi:(lo+d*(c:Int)≤b)↔(c:Int)≤(b-lo)/d:=by
   rw[Int.le_ediv_iff_mul_le hd,Int.mul_comm]
   omega
  rw[List.range_succ,List.countP_append]
  have ih:=count_le hd lo b c
  by_cases hc:lo+d*(c:Int)≤b
  ·have h2:=hi.mp hc
   simp only[List.countP_cons,List.countP_nil,hc,decide_true,if_true]
   omega
  ·have h2:=fun q=>hc (hi.mpr q)
   simp only[List.countP_cons,List.countP_nil,hc,decide_false]
   simp
   omega
theorem JC {α:Type} (p q r:α→Bool) (h:∀x,(q x=true→p x=true)∧(r x=true↔p x=true∧q x=false)):∀l:List α,l.countP p=l.countP q+l.countP r
 | []=>rfl
 |x::l=>by
  have ih:=JC p q r h l
  obtain⟨h1,h2⟩:=h x
  simp only[List.countP_cons]
  cases hp:p x<;>cases hq:q x<;>cases hr:r x<;>simp_all<;>omega
theorem Nt {α:Type} (p q r:α→Bool) (h:∀x,(r x=true↔p x=true∨q x=true)∧¬(p x=true∧q x=true)):∀l:List α,l.countP r=l.countP p+l.countP q
 | []=>rfl
 |x::l=>by
  have ih:=Nt p q r h l
  obtain⟨h1,h2⟩:=h x
  simp only[List.countP_cons]
  cases hp:p x<;>cases hq:q x<;>cases hr:r x<;>simp_all<;>omega
def pl (p s:Int) (i:Nat):Int:=p+s*(i:Int)
def low (p s:Int) (c:Nat):Int:=min p (p+s*((c:Int)-1))
def upTo (p s:Int) (c:Nat) (b:Int):Int:=max 0 (min (c:Int) ((b-low p s c)/(s.natAbs:Int)+1))
def vR (p s:Int) (c:Nat) (x:Int×Int):Int:=upTo p s c (x.2-8)-upTo p s c (x.1-1)
structure Apart (l:List (Int×Int)):Prop where
 big:∀x∈l,x.1+8≤x.2
 sep:l.Pairwise fun x y=>x.2≤y.1
def hits (x:Int×Int) (q:Int):Prop:=x.1≤q∧q+8≤x.2
instance (x:Int×Int) (q:Int):Decidable (hits x q):=inferInstanceAs (Decidable (_∧_))
def qn (p s:Int) (c i:Nat):Int:=low p s c+(s.natAbs:Int)*(i:Int)
theorem Lj {p s:Int} (hs:s≠0) {c:Nat} {x:Int×Int} (hx:x.1+8≤x.2):vR p s c x=(((List.range c).countP fun i=>decide (hits x (qn p s c i)):Nat):Int):=by
 have hd:(0:Int)<(s.natAbs:Int):=by omega
 unfold vR upTo
 rw[←count_le hd,←count_le hd]
 have:=JC (fun(i:Nat)=>decide (low p s c+(s.natAbs:Int)*(i:Int)≤x.2-8)) (fun(i:Nat)=>decide (low p s c+(s.natAbs:Int)*(i:Int)≤x.1-1)) (fun i=>decide (hits x (qn p s c i))) (fun i=>by
  have e:hits x (qn p s c i)↔x.1≤low p s c+(s.natAbs:Int)*(i:Int)∧low p s c+(s.natAbs:Int)*(i:Int)+8≤x.2:=Iff.rfl
  generalize low p s c+(s.natAbs:Int)*(i:Int)=y at e ⊢
  simp only[decide_eq_true_eq,decide_eq_false_iff_not,e]
  omega) (List.range c)
 omega
theorem JD {p s:Int} (hs:s≠0) {c:Nat}:∀{l:List (Int×Int)},Apart l→(l.map (vR p s c)).sum=(((List.range c).countP fun i=>decide (∃x∈l,hits x (qn p s c i)):Nat):Int)
 | [],_=>by simp
 |x::l,A=>by
  have hp:=List.pairwise_cons.mp A.sep
  have ih:=JD hs (p:=p) (c:=c) (l:=l) ⟨fun y hy=>A.big y (List.mem_cons_of_mem _ hy),hp.2⟩
  rw[List.map_cons,List.sum_cons,ih,Lj hs (A.big x (List.mem_cons_self ..))]
  have:=Nt (fun i=>decide (hits x (qn p s c i))) (fun i=>decide (∃x∈l,hits x (qn p s c i))) (fun i=>decide (∃y∈x::l,hits y (qn p s c i))) (fun i=>by
   simp only[decide_eq_true_eq,List.mem_cons]
   refine⟨⟨?_,?_⟩,?_⟩
   ·rintro⟨y,rfl|hy,h⟩
    ·exact .inl h
    ·exact .inr ⟨y,hy,h⟩
   ·rintro(h|⟨y,hy,h⟩)
    ·exact⟨x,.inl rfl,h⟩
    ·exact⟨y,.inr hy,h⟩
   ·rintro⟨h1,y,hy,h2⟩
    have:=hp.1 y hy
    unfold hits at h1 h2
    omega) (List.range c)
  omega
theorem aeo {p s:Int} {c:Nat} (P:Int→Prop):(∀i,i<c→P (qn p s c i))↔∀i,i<c→P (pl p s i):=by
 unfold qn low pl
 by_cases h:0≤s
 ·obtain⟨n,rfl⟩:=Int.eq_ofNat_of_zero_le h
  constructor
  ·intro H i hi
   have hm:min p (p+(n:Int)*((c:Int)-1))=p:=by
    have:0≤(n:Int)*((c:Int)-1):=Int.mul_nonneg (by omega) (by omega)
    omega
   have:=H i hi
   rw[hm]at this
   simpa using this
  ·intro H i hi
   have hm:min p (p+(n:Int)*((c:Int)-1))=p:=by
    have:0≤(n:Int)*((c:Int)-1):=Int.mul_nonneg (by omega) (by omega)
    omega
   rw[hm]
   simpa using H i hi
 ·obtain⟨n,rfl⟩:∃n:Nat,s = -(n:Int):=⟨s.natAbs,by omega⟩
  have ea:((-(n:Int)).natAbs:Int)=n:=by omega
  have key:∀i j:Nat,i+j+1=c→min p (p + -(n:Int)*((c:Int)-1))+((-(n:Int)).natAbs:Int)*(i:Int)=p + -(n:Int)*(j:Int):=by
   intro i j hij
   have h1:0≤(n:Int)*((c:Int)-1):=Int.mul_nonneg (by omega) (by omega)
   have hm:min p (p + -(n:Int)*((c:Int)-1))=p + -(n:Int)*((c:Int)-1):=by
    rw[Int.neg_mul]
    omega
   rw[hm,ea]
   have:((c:Int)-1)=(i:Int)+(j:Int):=by omega
   rw[this,Int.neg_mul,Int.neg_mul,Int.mul_add]
   omega
  constructor
  ·intro H j hj
   have:=H (c-1-j) (by omega)
   rw[key (c-1-j) j (by omega)]at this
   exact this
  ·intro H i hi
   rw[key i (c-1-i) (by omega)]
   exact H _ (by omega)
theorem Rg {p s:Int} (hs:s≠0) {c:Nat} {l:List (Int×Int)} (A:Apart l):(l.map (vR p s c)).sum=(c:Int)↔∀i,i<c→∃x∈l,hits x (pl p s i):=by
 rw[JD hs A]
 have:=aeo (p:=p) (s:=s) (c:=c) (fun q=>∃x∈l,hits x q)
 rw[←this]
 constructor
 ·intro h i hi
  have h':(List.range c).countP (fun i=>decide (∃x∈l,hits x (qn p s c i)))=(List.range c).length:=by
   rw[List.length_range]
   omega
  have:=List.countP_eq_length.mp h' i (List.mem_range.mpr hi)
  simpa using this
 ·intro h
  have h':(List.range c).countP (fun i=>decide (∃x∈l,hits x (qn p s c i)))=(List.range c).length:=List.countP_eq_length.mpr fun i hi=>by
   simpa using h i (List.mem_range.mp hi)
  rw[List.length_range]at h'
  omega
end MX
namespace MX
open Rc31
structure wD (t:Told):Prop where
 rise:t.laid.Pairwise fun x y=>x.at_+x.size≤y.at_
 big:∀s∈t.laid,8≤s.size
 lo:∀s∈t.laid,t.base≤s.at_
 hi:∀s∈t.laid,s.at_+s.size≤t.base+4194304
def zw (t:Told) (s:Segment):Int×Int:=((s.at_:Int)-(t.base:Int),(s.at_:Int)-(t.base:Int)+(s.size:Int))
def dC (t:Told):List (Int×Int):=(t.laid.filter fun s=>s.rights/2%2==1).map (zw t)
theorem wD.apart {t:Told} (T:wD t):Apart (dC t) where
 big:=fun x hx=>by
  obtain⟨s,hs,rfl⟩:=List.mem_map.mp hx
  have:=T.big s (List.mem_filter.mp hs).1
  unfold zw
  omega
 sep:=by
  unfold dC
  rw[List.pairwise_map]
  refine(T.rise.sublist List.filter_sublist).imp ?_
  intro a b h
  unfold zw
  omega
theorem wD.word {t:Told} (T:wD t) {p:Nat}:wordAt t p=true↔∃x∈dC t,hits x (p:Int):=by
 unfold wordAt dC
 rw[List.any_eq_true]
 constructor
 ·rintro⟨s,hs,h⟩
  simp only[Bool.and_eq_true,decide_eq_true_eq]at h
  refine⟨zw t s,List.mem_map.mpr ⟨s,List.mem_filter.mpr ⟨hs,h.2⟩,rfl⟩,?_⟩
  unfold hits zw
  omega
 ·rintro⟨x,hx,h⟩
  obtain⟨s,hs,rfl⟩:=List.mem_map.mp hx
  obtain⟨h1,h2⟩:=List.mem_filter.mp hs
  refine⟨s,h1,?_⟩
  simp only[Bool.and_eq_true,decide_eq_true_eq]
  unfold hits zw at h
  exact⟨by omega,h2⟩
theorem wD.hit {t:Told} (T:wD t) {q:Int} {x:Int×Int} (hx:x∈dC t) (h:hits x q):0≤q∧q+8≤4194304:=by
 obtain⟨s,hs,rfl⟩:=List.mem_map.mp hx
 obtain⟨h1,h2⟩:=List.mem_filter.mp hs
 have:=T.lo s h1
 have:=T.hi s h1
 unfold hits zw at h
 omega
theorem wD.Lk {t:Told} (T:wD t) {p:Nat} (h:wordAt t p=true):p+8≤4194304:=by
 obtain⟨x,hx,h⟩:=T.word.mp h
 have:=T.hit hx h
 omega
def aD (c b:Nat):Int:=if c<2 then 8 else if (8+b)%W64<9223372036854775808 then(((8+b)%W64:Nat):Int) else(((8+b)%W64:Nat):Int)-18446744073709551616
theorem Dx (p b i:Nat):bQ p b (i+1)=(bQ p b i+(8+b)%W64)%W64:=by
 unfold bQ
 rw[←Nat.add_mod]
 congr 1
 rw[Nat.succ_mul]
 omega
theorem Dy {c b:Nat} (hc:2≤c) {x y:Nat} (hx:x<4194304) (hy:y=(x+(8+b)%W64)%W64):(0≤(x:Int)+aD c b∧(x:Int)+aD c b<4194304→(y:Int)=x+aD c b)∧(y<4194304→(y:Int)=x+aD c b):=by
 have h1:(8+b)%W64<W64:=Nat.mod_lt _ (by decide)
 unfold aD
 rw[gU]at *
 rw[if_neg (by omega)]
 split<;>omega
theorem PB {t:Told} (T:wD t) {c b p:Nat} (hp:p<W64) (H:∀i,i<c→∃x∈dC t,hits x (pl (p:Int) (aD c b) i)):∀i,i<c→(bQ p b i:Int)=pl (p:Int) (aD c b) i:=by
 intro i
 induction i with
 |zero =>
  intro _
  rw[jB hp]
  unfold pl
  simp
 |succ i ih =>
  intro hi
  have e:=ih (by omega)
  obtain⟨x0,Nj,h0⟩:=H i (by omega)
  obtain⟨x1,Yf,h1⟩:=H (i+1) hi
  have b0:=T.hit Nj h0
  have b1:=T.hit Yf h1
  have es:pl (p:Int) (aD c b) (i+1)=(bQ p b i:Int)+aD c b:=by
   rw[e]
   unfold pl
   rw[Int.natCast_add,Int.mul_add]
   omega
  rw[es]at b1 ⊢
  exact(Dy (by omega) (by omega) (Dx p b i)).1 (by omega)
theorem pJ {t:Told} (T:wD t) {c b p:Nat} (hp:p<W64) (H:∀i,i<c→wordAt t (bQ p b i)=true):∀i,i<c→(bQ p b i:Int)=pl (p:Int) (aD c b) i:=by
 intro i
 induction i with
 |zero =>
  intro _
  rw[jB hp]
  unfold pl
  simp
 |succ i ih =>
  intro hi
  have e:=ih (by omega)
  have b0:=T.Lk (H i (by omega))
  have b1:=T.Lk (H (i+1) hi)
  have es:pl (p:Int) (aD c b) (i+1)=(bQ p b i:Int)+aD c b:=by
   rw[e]
   unfold pl
   rw[Int.natCast_add,Int.mul_add]
   omega
  rw[es]
  exact(Dy (by omega) (by omega) (Dx p b i)).2 (by omega)
theorem Yg {t:Told} (T:wD t) {c b p:Nat} (hp:p<W64) (hs:aD c b≠0) (h:((dC t).map (vR (p:Int) (aD c b) c)).sum=(c:Int)) :
 row t c p b=some ((List.range c).map (fun i=>(pl (p:Int) (aD c b) i).toNat),(p+c*(8+b))%W64)∧(∀i,i<c→0≤pl (p:Int) (aD c b) i)∧∀i,i<c→wordAt t (pl (p:Int) (aD c b) i).toNat=true:=by
 have H:=(Rg hs T.apart).mp h
 have E:=PB T hp H
 have Wd:∀i,i<c→wordAt t (bQ p b i)=true:=fun i hi=>T.word.mpr (by rw[E i hi];exact H i hi)
 have N:∀i,i<c→0≤pl (p:Int) (aD c b) i:=fun i hi=>by rw[←E i hi];omega
 refine⟨?_,N,fun i hi=>?_⟩
 ·rw[Li hp Wd]
  congr 2
  apply List.map_congr_left
  intro i hi
  have:=E i (List.mem_range.mp hi)
  omega
 ·have:=E i hi
  have e:(pl (p:Int) (aD c b) i).toNat=bQ p b i:=by omega
  rw[e]
  exact Wd i hi
theorem Ll {t:Told} (T:wD t) {c b p:Nat} (hp:p<W64) (hs:aD c b≠0) (h:((dC t).map (vR (p:Int) (aD c b) c)).sum≠(c:Int)):row t c p b=none:=by
 by_cases H:∀i,i<c→wordAt t (bQ p b i)=true
 ·exfalso
  refine h ((Rg hs T.apart).mpr fun i hi=>?_)
  rw[←pJ T hp H i hi]
  exact T.word.mp (H i hi)
 ·have:∃i,i<c∧wordAt t (bQ p b i)=false:=by
   apply Classical.byContradiction
   intro q
   apply H
   intro i hi
   cases e:wordAt t (bQ p b i) with
   |true=>rfl
   |false=>exact absurd ⟨i,hi,e⟩ q
  obtain⟨i,hi,e⟩:=this
  exact GH hp hi e
theorem dt:∀l:List Nat,distant l=true↔l.Pairwise fun x y=>x+8≤y∨y+8≤x
 | []=>by simp[distant]
 |x::r=>by
  have ih:=dt r
  simp only[distant,Bool.and_eq_true,ih,List.pairwise_cons,List.all_eq_true,decide_eq_true_eq]
theorem SI {t:Told} (T:wD t) {c b p:Nat} (hp:p<W64) (hs:(aD c b).natAbs<8) {l:List Nat} {q:Nat} (h:row t c p b=some (l,q)):distant l=false:=by
 have hc:2≤c:=by
  apply Classical.byContradiction
  intro q
  unfold aD at hs
  rw[if_pos (by omega)]at hs
  simp at hs
 have H:∀i,i<c→wordAt t (bQ p b i)=true:=by
  intro i hi
  cases e:wordAt t (bQ p b i) with
  |true=>rfl
  |false =>
   rw[GH hp hi e]at h
   cases h
 rw[Li hp H]at h
 cases h
 have e0:=pJ T hp H 0 (by omega)
 have e1:=pJ T hp H 1 (by omega)
 unfold pl at e0 e1
 cases hd:distant ((List.range c).map (bQ p b)) with
 |false=>rfl
 |true =>
  exfalso
  obtain⟨c,rfl⟩:∃d,c=d+2:=⟨c-2,by omega⟩
  rw[dt,List.range_succ_eq_map,List.range_succ_eq_map]at hd
  simp only[List.map_cons,List.pairwise_cons]at hd
  have:=hd.1 (bQ p b 1) (by simp)
  omega
theorem ko {a b:List Nat} (h:distant a=false):distant (a++b)=false∧distant (b++a)=false:=by
 constructor
 ·cases hd:distant (a++b) with
  |false=>rfl
  |true =>
   rw[dt,List.pairwise_append]at hd
   rw[(dt a).mpr hd.1]at h
   cases h
 ·cases hd:distant (b++a) with
  |false=>rfl
  |true =>
   rw[dt,List.pairwise_append]at hd
   rw[(dt a).mpr hd.2.1]at h
   cases h
theorem vS {l s:List Nat} (hp:s.Perm l) (hs:s.Pairwise (·≤·)):distant l=true↔s.Pairwise fun x y=>x+8≤y:=by
 have e:(l.Pairwise fun x y=>x+8≤y∨y+8≤x)↔(s.Pairwise fun x y=>x+8≤y∨y+8≤x):=by
  refine(hp.pairwise_iff ?_).symm
  intro x y h
  exact h.symm
 rw[dt,e]
 constructor
 ·intro h
  refine(h.and hs).imp ?_
  intro a b q
  omega
 ·intro h
  exact h.imp fun q=>.inl q
theorem yk:∀{s:List Nat},s.Pairwise (fun x y=>x+8≤y)↔∀x∈s.zip s.tail,x.1+8≤x.2
 | []=>by simp
 | [a]=>by simp
 |a::b::r=>by
  have ih:=yk (s:=b::r)
  rw[List.pairwise_cons,ih]
  simp only[List.tail_cons,List.zip_cons_cons,List.mem_cons,forall_eq_or_imp]
  constructor
  ·rintro⟨⟨h1,_⟩,h2⟩
   exact⟨h1,h2⟩
  ·rintro⟨h1,h2⟩
   refine⟨⟨h1,fun y hy=>?_⟩,h2⟩
   have:=List.rel_of_pairwise_cons (ih.mpr h2) hy
   omega
theorem Bn {l:List Nat} {n:Nat} (h:distant l=true) (hn:∀x∈l,x+8≤n):l.length*8≤n:=by
 have key:∀(s:List Nat) (a:Nat),s.Pairwise (fun x y=>x+8≤y)→(∀x∈s,a≤x∧x+8≤n)→a≤n→a+s.length*8≤n:=by
  intro s
  induction s with
  |nil=>intro a _ _ h;simpa using h
  |cons x r ih =>
   intro a h1 h2 h3
   obtain⟨h4,h5⟩:=List.pairwise_cons.mp h1
   have h6:=h2 x (List.mem_cons_self ..)
   have:=ih (x+8) h5 (fun y hy=>⟨h4 y hy,(h2 y (List.mem_cons_of_mem _ hy)).2⟩) (by omega)
   rw[List.length_cons]
   omega
 have hp:=(List.mergeSort_perm l (fun a b=>decide (a≤b)))
 have hs:(l.mergeSort fun a b=>decide (a≤b)).Pairwise (·≤·):=by
  have:=List.pairwise_mergeSort (le:=fun(a b:Nat)=>decide (a≤b)) (fun a b c h1 h2=>by simp at *;omega) (fun a b=>by simp;omega) l
  exact this.imp (by simp)
 have:=key _ 0 ((vS hp hs).mp h) (fun x hx=>⟨by omega,hn x (hp.mem_iff.mp hx)⟩) (by omega)
 rw[hp.length_eq]at this
 omega
end MX
namespace MX
open Rc31
def ZI (b:Bytes) (s:Segment):Prop:=s.at_%4096=0∧s.size%4096=0∧s.file%4096=0∧s.raw≤s.size∧s.file+s.raw≤b.length∧s.rights<8
def rb (b:Bytes) (d:Dir):Prop:=d.1+d.2≤b.length
structure qo (b:Bytes) (t:Told):Prop where
 oF:∀s∈t.segments,ZI b s
 libs:∀l∈t.libraries,l.length≤255
 info:∀d,t.info=some d→rb b d.1∧rb b d.2.1∧rb b d.2.2
theorem GJ {b:Bytes} {x:Bytes×Bytes} (h:textIn b=some x):x.1.length≤255:=by
 unfold textIn at h
 dsimp only at h
 split at h
 ·rename_i hc
  cases h
  exact hc.2.1
 ·cases h
theorem PD {b c:Bytes} {t u:Told} (T:qo b t) (h:command b c t=some u):qo b u:=by
 unfold command at h
 dsimp only at h
 split at h
 ·split at h
  ·rename_i hc
   cases h
   refine⟨fun s hs=>?_,T.libs,T.info⟩
   rcases List.mem_append.mp hs with hs|hs
   ·exact T.oF s hs
   ·rw[List.mem_singleton.mp hs]
    obtain⟨_,h1,h2,h3,h4,h5,h6⟩:=hc
    exact⟨h1,h2,h3,h4,by simpa [within] using h5,h6⟩
  ·cases h
 ·split at h
  ·split at h
   ·cases h
   ·obtain⟨x,hx,rfl⟩:=Option.map_eq_some_iff.mp h
    refine⟨T.oF,fun l hl=>?_,T.info⟩
    rcases List.mem_append.mp hl with hl|hl
    ·exact T.libs l hl
    ·rw[List.mem_singleton.mp hl]
     exact GJ hx
  ·split at h
   ·split at h
    ·cases h
     exact⟨T.oF,T.libs,T.info⟩
    ·cases h
   ·split at h
    ·split at h
     ·rename_i hc
      cases h
      refine⟨T.oF,T.libs,fun d hd=>?_⟩
      cases hd
      obtain⟨_,_,h1,h2,h3,_⟩:=hc
      exact⟨by simpa [within,rb] using h1,by simpa [within,rb] using h2,by simpa [within,rb] using h3⟩
     ·cases h
    ·cases h
     exact T
theorem Dz {b:Bytes}:∀{n:Nat} {c:Bytes} {t u:Told},qo b t→commands b n c t=some u→qo b u
 |0,c,t,u,T,h=>by
  unfold commands at h
  split at h
  ·cases h;exact T
  ·cases h
 |n+1,c,t,u,T,h=>by
  unfold commands at h
  dsimp only at h
  split at h
  ·cases h
  ·obtain⟨v,hv,h⟩:=Option.bind_eq_some_iff.mp h
   exact Dz (PD T hv) h
theorem PF (b:Bytes):qo b {}:=⟨fun _ h=>(nomatch h),fun _ h=>(nomatch h),fun _ h=>(nomatch h)⟩
theorem DA:∀{a:Nat} {l:List Segment},rising a l=true→(l.Pairwise fun x y=>x.at_+x.size≤y.at_)∧(∀s∈l,a≤s.at_∧0<s.size)
 |_,[],_=>⟨.nil,fun _ h=>(nomatch h)⟩
 |a,s::r,h=>by
  unfold rising at h
  rw[Bool.and_eq_true,decide_eq_true_eq]at h
  obtain⟨h1,h2⟩:=DA h.2
  refine⟨List.pairwise_cons.mpr ⟨fun y hy=>(h2 y hy).1,h1⟩,fun x hx=>?_⟩
  rcases List.mem_cons.mp hx with rfl|hx
  ·exact h.1
  ·have:=h2 x hx
   have:=h.1
   omega
theorem Lm:∀{l:List Segment} {s x:Segment},(l.Pairwise fun x y=>x.at_+x.size≤y.at_)→x∈l→x.at_+x.size≤(l.getLast?.getD s).at_+(l.getLast?.getD s).size
 | [],_,_,_,h=>nomatch h
 | [y],_,x,_,h=>by
  rw[List.mem_singleton.mp h]
  simp
 |y::z::r,s,x,hp,h=>by
  have e:(y::z::r).getLast?=(z::r).getLast?:=by simp[List.getLast?_cons_cons]
  rw[e]
  obtain⟨h1,h2⟩:=List.pairwise_cons.mp hp
  have ih:=fun(x:Segment) (hx:x∈z::r)=>Lm (s:=s) h2 hx
  rcases List.mem_cons.mp h with rfl|h
  ·have a:=h1 z (List.mem_cons_self ..)
   have b:=ih z (List.mem_cons_self ..)
   omega
  ·exact ih x h
def Ln (n:Nat) (t:Told):Bool:=match t.laid with
 | []=>false
 |s::r =>
  let last:=((s::r).getLast?.getD s)
  decide (rising 0 (s::r)=true∧last.at_+last.size<2^47∧last.at_+last.size-s.at_≤MOST∧s.file=0∧32+n≤s.raw∧(s::r).length≤16∧t.libraries.length≤64∧t.entry.all (fun e=>decide (e<s.raw))=true)
theorem PJ {b:Bytes} {n:Nat} {t:Told} (T:qo b t) (h:Ln n t=true):wD t∧∃s r,t.laid=s::r∧t.base=s.at_∧s.file=0∧32+n≤s.raw:=by
 unfold Ln at h
 cases hl:t.laid with
 |nil=>rw[hl]at h;simp at h
 |cons s r =>
  rw[hl]at h
  dsimp only at h
  rw[decide_eq_true_eq]at h
  obtain⟨h1,h2,h3,h4,h5,h6,h7,h8⟩:=h
  obtain⟨p1,p2⟩:=DA h1
  have hb:t.base=s.at_:=by
   unfold Told.base
   rw[hl]
   rfl
  have sub:∀x∈t.laid,x∈t.segments:=by
   intro x hx
   unfold Told.laid at hx
   split at hx
   ·cases hx
   ·rename_i y z hs
    rw[hs]
    split at hx
    ·exact List.mem_cons_of_mem _ hx
    ·exact hx
  refine⟨⟨by rw[hl];exact p1,fun x hx=>?_,fun x hx=>?_,fun x hx=>?_⟩,s,r,rfl,hb,h4,h5⟩
  ·have a:=T.oF x (sub x hx)
   rw[hl]at hx
   have b:=(p2 x hx).2
   unfold ZI at a
   omega
  ·rw[hl]at hx
   rw[hb]
   rcases List.mem_cons.mp hx with rfl|hx
   ·exact Nat.le_refl _
   ·have:=(List.pairwise_cons.mp p1).1 x hx
    omega
  ·rw[hl]at hx
   have:=Lm (s:=s) p1 hx
   have e:MOST=4194304:=rfl
   rw[hb]
   omega
end MX
namespace MI
open PySem L2
structure TG (b:List UInt8) (t:Rc31.Told):Prop where
 ok:MX.qo b t
 tok:MX.wD t
 libs:t.libraries.length≤64
 row:Nr t.laid
theorem Vs {b:List UInt8} {t:Rc31.Told} (h:yi b=some t):MX.qo b t∧t.libraries.length≤64:=by
 unfold yi at h
 split at h
 ·rename_i hh
  rw[Gz hh.2.2.2.2.2 (by omega) (by decide)]at h
  obtain⟨u,hu,h⟩:=Option.bind_eq_some_iff.mp h
  unfold En at h
  split at h
  ·cases h
   exact⟨MX.Dz (MX.PF b) hu,by assumption⟩
  ·cases h
 ·cases h
theorem ZJ {b:List UInt8} {t:Rc31.Told} {n:Nat} (h:MX.qo b t) (hl:t.libraries.length≤64) (hg:groundOk t (32+n)):TG b t:=by
 have hr:=(ni _ _).mp hg
 refine⟨h,(MX.PJ (n:=n) h ?_).1,hl,hr.1⟩
 unfold groundOk at hg
 unfold MX.Ln
 cases e:t.laid with
 |nil=>rw[e]at hg;exact hg.elim
 |cons s r =>
  rw[e]at hg
  obtain⟨x1,x2,x3,x4,x5,x6,x7⟩:=hg
  exact decide_eq_true ⟨x1,x2,x3,x4,x5,x6,hl,x7⟩
theorem Vt {t:Rc31.Told}:∀x∈t.laid,x∈t.segments:=by
 intro x hx
 unfold Rc31.Told.laid at hx
 split at hx
 ·cases hx
 ·rename_i y z hs
  rw[hs]
  split at hx
  ·exact List.mem_cons_of_mem _ hx
  ·exact hx
section
variable {g:Gm} {a:Ad}
def SJ (a:Ad):Sp:=fun vs H Q E=>∃(p:Addr) (b:List UInt8) (t:Rc31.Told) (k:Nat),vs=[.ref p,.int k]∧Cu a H p t∧TG b t∧(Rc31.segmentAt t k=none→E (.ref a.aE) none H)∧∀n,Rc31.segmentAt t k=some n→Q (.int (n:Int)) H
theorem zx (T:Tx g.K g.mg a):Pr g 2 a.mf ["self","index"] (SJ a):=by
 refine Pr.on T.oY nU fun cF A outer s H vs Q E hr h=>?_
 obtain⟨p,b,t,k,rfl,⟨dx,ls,kC,sp,sa,la,pa,G⟩,tg,k0,k1⟩:=h
 refine⟨_,ae (az (aB T) au hr (by decide) T.aA (aH nE (pv 1) (aV aJ (by rfl) T.eL PySem.boot_len (aa (ar (pv 0) rfl) ai)) (aC _)))
  (ae (aI (i:=2) nU.nd rfl (Or.inl rfl) (fL cG (ar (pv 0) rfl) (pv 1) (fun _ _=>rfl)))
  (ae (az (aB T) au hr (by decide) T.aA (QA (aH IU (pv 1) ak (aC _)) (ub (TJ (aU (GB T) au hr (by decide) T.B0 (aa (pv 2) ai))))))
  (ag (aS (aO gx (ar (pv 2) rfl) (ar (pv 0) rfl)))))),?_⟩
 have hlen:=bu G.oF
 refine⟨_,rfl,_,rfl,p,_,dx,_,_,rfl,G.ob,T.bH,T.dv,pf,ls,_,rfl,.inl (bO.of G.hs),_,_,rfl,rfl,_,rfl,aw (fun c1=>?_) fun c1=>k0 ?_⟩
 ·rw[List.length_map,hlen]at c1
  have hk:k<t.segments.length:=by omega
  obtain⟨sg,SH⟩:∃sg,t.segments[k]?=some sg:=⟨_,List.getElem?_eq_getElem hk⟩
  obtain⟨x,hx,n,d,SG⟩:=oG G.oF SH
  refine⟨_,rfl,p,_,dx,_,_,rfl,G.ob,T.bH,T.dv,pf,_,rfl,ls,_,_,_,rfl,rfl,bO.of G.hs,QK (j:=k) (v:=.ref x) (by rw[List.getElem?_map,hx];rfl),?_⟩
  have fin:¬(k=0∧t.laid.length≠t.segments.length)→sg∈t.laid→Q (V.int ((sg.at_:Int)-(t.base:Int))) H:=fun hn hm=>by
   have hge:=tg.tok.lo sg hm
   have e:(sg.at_:Int)-(t.base:Int)=((sg.at_-t.base:Nat):Int):=by omega
   rw[e]
   refine k1 _ ?_
   unfold Rc31.segmentAt
   rw[if_neg hn,SH]
   rfl
  have last:¬(k=0∧t.laid.length≠t.segments.length)→sg∈t.laid→aai (Zh (TR fun i j=>.int (i-j)) (J1 g.K (zK 2) "place") (J1 g.K (zK 0) "home")) {nx:=fun _ H'=>Q .de H',rt:=Q} [some (.ref p),some (.int (k:Int)),some (.ref x)] H:=fun hn hm =>
   ⟨_,rfl,x,_,d,_,_,rfl,SG,T.aG,T.aX,bP,_,rfl,p,_,dx,_,_,rfl,G.ob,T.bH,T.cE,lD,_,_,rfl,rfl,fin hn hm⟩
  refine⟨_,rfl,_,_,rfl,rfl,_,rfl,?_⟩
  cases hs:t.segments with
  |nil=>rw[hs]at hk;simp at hk
  |cons s0 r0 =>
   have el:t.laid=if s0.raw=0∧s0.rights=0 then r0 else s0::r0:=by
    rw[Rb,hs]
    rfl
   cases k with
   |succ k =>
    refine aw (fun _=>⟨_,rfl,iA (last (fun z=>by cases z.1) ?_)⟩) fun c=>absurd (by omega) c
    have hm:sg∈r0:=by
     rw[hs]at SH
     exact List.mem_of_getElem? (by simpa using SH)
    rw[el]
    split
    ·exact hm
    ·exact List.mem_cons_of_mem _ hm
   |zero =>
    obtain rfl:sg=s0:=by
     rw[hs]at SH
     simpa using SH.symm
    refine aw (fun c=>absurd c (by omega)) fun _=>⟨_,rfl,x,sg,n,rfl,⟨d,SG⟩,_,rfl,_,rfl,?_⟩
    by_cases hb:sg.raw=0∧sg.rights=0
    ·rw[show bare sg=true from decide_eq_true hb]
     refine eg (k0 ?_)
     unfold Rc31.segmentAt
     rw[if_pos ⟨rfl,by rw[el,if_pos hb,hs];simp⟩]
    ·rw[show bare sg=false from decide_eq_false hb]
     rw[if_neg hb]at el
     exact iA (last (fun z=>z.2 (by rw[el,hs])) (by rw[el];exact List.mem_cons_self))
 ·rw[List.length_map,hlen]at c1
  unfold Rc31.segmentAt
  split
  ·rfl
  ·rw[List.getElem?_eq_none (by omega)]
   rfl
def PK (a:Ad):Sp:=fun vs H Q E=>∃(p ls ll:Addr) (b:List UInt8) (n:Nat) (t:Rc31.Told),vs=[.ref p]∧lU a H p ls ll b (32+n) t∧MX.qo b t∧t.libraries.length≤64∧(¬groundOk t (32+n)→∀H',ax H H'→E (.ref a.aE) none H') ∧
 (groundOk t (32+n)→∀x H',Cu a H' x t→H x=none→ax H H'→Q (.ref x) H')
theorem Lo (T:Tx g.K g.mg a):Pr g 4 a.BU ["contents"] (PK a):=by
 refine Pr.on T.Dd Ae fun cF A outer s H vs Q E hr h=>?_
 obtain⟨p,ls,ll,b,n,t,rfl,C,cD,Po,k0,k1⟩:=h
 obtain⟨dx,bg,pt,sa,la,as,D⟩:=id C
 refine⟨_,ae (aI (i:=1) Ae.nd rfl (Or.inl rfl) (aU (Py T) au hr (by decide) T.Jq (aa (ar (pv 0) rfl) ai)))
  (ae (aR (aU (Lf T) au hr (by decide) T.Dc (aa (pv 1) ai)))
  (ae (aR (aU (GF T) au hr (by decide) T.xJ (aa (fL cG (pv 1) ak (fun _ _=>rfl)) (aa (pv 0) ai))))
  (ag (aS (kO (GG T) T.wB au hr (by decide) T.Mv (aa (ar (pv 0) rfl) (aa (pv 1) ai))))))),?_⟩
 refine⟨_,rfl,p,_,dx,_,_,rfl,D.ob,T.aM,T.b6,jb,ls,sa,_,rfl,D.hs,D.oF,fun l lla H1 nl EF Rh s1=>?_⟩
 rw[←Rb]at Rh
 have D1:=D.same s1
 refine⟨_,rfl,l,lla,_,rfl,EF,Rh,fun PL=>?_,fun PL=>k0 (fun z=>PL ((ni _ _).mp z).1) _ s1⟩
 obtain⟨s0,r0,e0⟩:∃s0 r0,t.laid=s0::r0:=by
  cases h:t.laid with
  |nil=>rw[h]at PL;exact PL.elim
  |cons s r=>exact⟨s,r,rfl⟩
 obtain⟨x0,Nj,n0,q0⟩:=oG Rh (i:=0) (y:=s0) (by rw[e0];rfl)
 refine⟨_,rfl,l,_,_,_,rfl,rfl,bO.of EF,at_of (j:=0) rfl (by rw[List.getElem?_map,Nj];rfl),_,rfl,x0,p,ls,ll,s0,n0,b,32+n,t,rfl,q0,⟨dx,bg,pt,sa,la,as,D1⟩,fun PM=>?_,fun PM=>k0 (fun z=>PM (((ni _ _).mp z).2 s0 r0 e0)) _ s1⟩
 have hg:groundOk t (32+n):=(ni _ _).mpr ⟨PL,fun s r e=>by rw[e0]at e;cases e;exact PM⟩
 have tg:=ZJ cD Po hg
 refine⟨_,rfl,p,_,dx,_,_,rfl,D1.ob,T.aM,T.b6,jb,_,rfl,fun x d nx nd nex=>?_⟩
 have s2:ax H1 (upd (upd H1 d (.own x)) x (.ins a.cZ d [])):=fun y o e=>by
  rw[aj (ao e nx),aj (ao e nd)]
  exact e
 refine⟨x,d,ls,l,sa,lla,t,rfl,D.fresh l nl,af,s2 _ _ D1.hs,D1.oF.same s2,s2 _ _ EF,Rh.same s2,by rw[e0];simp,?_,fun s hs=>(cD.oF s (Vt s hs)).2.2.2.2.2,?_,fun H3 G3 k3=>⟨rfl,k1 hg x H3 G3 (s1.free nx) (s1.trans (ax.tP nx nd k3))⟩⟩
 ·rw[e0]at PL ⊢
  exact PL.1
 ·have Hc:t.laid≠[]:=by rw[e0];simp
  have hm:t.laid.getLast Hc∈t.laid:=List.getLast_mem Hc
  have:=tg.tok.lo _ hm
  rw[List.getLast?_eq_getLast Hc]
  simp
  omega
end
end MI
namespace L2
open PySem PySem.Spec PyProof.Rows
section
variable {X:Cx}
theorem Vu:zH X (binaryOp .FloorDiv) (rI (fun _ j=>0<j∧j<2^64) fun i j=>.int (i/j)):=opI fun i j _ _ _ _ _ hc q=>by
 have h1:(0:Int)<j:=hc.1
 have h2:j<2^64:=hc.2
 refine floordiv_int (by omega) (by rw[Int.fdiv_eq_ediv_of_nonneg i (by omega)];exact q) (.inl (PyProof.noPylong_of_log2 ?_))
 have h3:j.natAbs<2^64:=by omega
 have h4:j.natAbs≠0:=by omega
 exact Nat.lt_trans ((Nat.log2_lt h4).mpr h3) (by decide)
theorem Lp:oR X (.builtin "sorted") (fun vs H Q=>∃(a:Addr) (ns:List Int),vs=[V.ref a]∧bO X.K H a (ns.map V.int) ∧
 ∀(Ep:List Int) (p:Addr),Ep.Perm ns→Ep.Pairwise (·≤·)→H p=none→Q (.ref p) (upd H p (.lst (Ep.map V.int)))):=by
 intro pins s σ H vs us Q I r h
 obtain⟨a,ns,rfl,hs,q⟩:=h
 obtain⟨bt,rv,hl,hz⟩:=I.list hs
 rw[Vals.Xd r]
 have hi:=rv.ints
 have hlen:=rv.length
 refine PyProof.Rows.sorted_intsAny hl.isList hi (by rw[←hlen];exact hz) fun out Ep h1 h2 h3=>?_
 obtain⟨ep,he'⟩:=PyProof.Rows.sortedAll_at s.heap bt out
 have hlen:(Ep.map V.int).length≤sizeLine:=by rw[List.length_map,h2.length_eq];rw[List.length_map]at hz;exact hz
 exact⟨.ref _,upd H (s.heap.objs.size+1) (.lst (Ep.map V.int)),I.laid (t':=s.toks) (fun _ _=>PyProof.Rows.sortedAll_old) (Nat.le_succ _) ⟨hlen,out.toList,ep,zR h1,he'⟩,rfl,q Ep _ h2 h3 (I.cD.fresh (Nat.le_succ _))⟩
def RgO (i j c:Int) (r:Addr):HO:=.ext fun h=>∃t u v,IsRange h r i j c t u v
def ahO (ta:TA):TE:=fun σ H Q=>ta σ H fun vs H1=>∃i j c:Int,vs=[.int i,.int j,.int c]∧c≠0∧c.natAbs<1073741824∧∀r,H1 r=none→Q (.ref r) (upd H1 r (RgO i j c r))
theorem SK {a b c:Expr} {ta:TA} {p pos:Pos} (hg:Gl X "range") (hm:X.mg "range" = none) (ha:PA X [a,b,c] ta)
 (hs:starEach [a,b,c] X.env=(false,eval a X.env)::starEach [b,c] X.env:=by rfl) (oI:(backTo pos (starEach [b,c] X.env)).any (·.1)=false:=by rfl) :
 PE X (.Call (.Name "range" p) [a,b,c] [] pos) (ahO ta):=by
 intro pins s σ H Q I h
 refine wpAny_Call_Name_kw (rp I hg hm boot_range (PyProof.Rows.callWith_type1 (dj (ha pos pins s σ H _ I h) fun us s1 ⟨vs,H1,I1,r1,q1⟩=>?_) hs oI))
 obtain⟨i,j,k,e,c0,c1,q⟩:=q1
 subst e
 cases r1 with
 |cons r rr =>
  cases rr with
  |cons r' rr =>
   cases rr with
   |cons r'' rr =>
    cases rr
    obtain⟨t,rfl⟩:=r
    obtain⟨t',rfl⟩:=r'
    obtain⟨t'',rfl⟩:=r''
    refine call_range_3 c0 ?_ (.inl (PyProof.noPylong_small c1))
    have hn:IsRange (s1.heap.push {cls:=.type "range",data:=.fields #[.int i t,.int j t',.int k t'']}) s1.heap.objs.size i j k t t' t'':=IsRange.new ..
    refine⟨.ref s1.heap.objs.size,_,I1.laid (o:=RgO i j k s1.heap.objs.size) (t':=s1.toks) (fun b o e=>Heap.get?_push_of_some _ e) (Nat.le_refl _) ⟨⟨t,t',t'',hn⟩,⟨_,hn⟩,fun h1 h2 ⟨t,u,v,e⟩ k=>⟨t,u,v,k _ e⟩⟩,rfl,q _ (I1.cD.fresh (Nat.le_refl _))⟩
theorem Lq (hc:X.calm=true):oR X (.type "list") (fun xs H Q=>∃(r:Addr) (i j c:Int) (n:Nat),xs=[.ref r]∧H r=some (RgO i j c r)∧Builtin.Range.small i j c=true∧Builtin.Range.rangeSize i j c=n∧n≤2^24 ∧
 ∀l,H l=none→Q (.ref l) (upd H l (.lst (((List.range n).map fun(k:Nat)=>i+(k:Int)*c).map V.int)))):=by
 intro pins s σ H xs us Q I r h
 obtain⟨ra,i,j,c,n,rfl,hr,hs,hn,hz,q⟩:=h
 rw[Vals.Xd r]
 obtain⟨⟨t,u,v,hx⟩,_⟩:=I.cD ra _ hr
 refine call_list_range (I.ok.hd hc) hx hs hn hz fun h' tk Yh c' hk e hi=>?_
 have rv:Vals (((List.range n).map fun(k:Nat)=>i+(k:Int)*c).map V.int) Yh.toList:=by
  obtain⟨h1,h2⟩:=hi
  have aux:∀(xs:List V) (us:List Value),xs.length=us.length→(∀(k:Nat) (x:V) (w':Value),xs[k]?=some x→us[k]?=some w'→RelV x w')→Vals xs us:=by
   intro xs
   induction xs with
   |nil=>intro us hl _;cases us with|nil=>exact .nil|cons _ _=>simp at hl
   |cons x xs ih =>
    intro us hl hr
    cases us with
    |nil=>simp at hl
    |cons w' us=>exact .cons (hr 0 x w' rfl rfl) (ih us (by simpa using hl) fun k x' w'' e1 e2=>hr (k+1) x' w'' (by simpa using e1) (by simpa using e2))
  refine aux _ _ (by simp[h1]) fun k x w' e1 e2=>?_
  obtain⟨t',rfl⟩:=h2 k w' (by simpa using e2)
  rw[List.getElem?_map,List.getElem?_map]at e1
  cases q:(List.range n)[k]? with
  |none=>rw[q]at e1;cases e1
  |some m =>
   rw[q]at e1
   have em:m=k:=by
    obtain⟨hk',e'⟩:=List.getElem?_eq_some_iff.mp q
    simpa using e'.symm
   subst em
   obtain rfl:V.int (i+(m:Int)*c)=x:=Option.some.inj e1
   exact⟨t',rfl⟩
 exact⟨.ref s.heap.objs.size,_,I.laid (t':=tk) hk (Nat.le_refl _) (show eX X.prog X.w _ h' _ (.lst _) from ⟨by rw[List.length_map,List.length_map,List.length_range];exact hz,Yh.toList,c',rv,by simpa using e⟩),rfl,q _ (I.cD.fresh (Nat.le_refl _))⟩
end
end L2
namespace MI
open PySem L2
def pK (a:Ad) (H:Hp) (x:Addr) (p:Int) (c:Nat) (s:Int):Prop:=∃dx,H x=some (.ins a.tw dx (xS (.int p) (.int (c:Int)) (.int s)))
theorem pK.same {a:Ad} {H H':Hp} {x:Addr} {p:Int} {c:Nat} {s:Int} (h:pK a H x p c s) (k:ax H H'):pK a H' x p c s:=by
 obtain⟨d,e⟩:=h
 exact⟨d,k _ _ e⟩
abbrev Big (s:Int):Prop:=-(2^64)<s∧s<2^64
section
variable {g:Gm} {a:Ad}
def SM (a:Ad):Sp:=fun vs H Q E=>∃(x dx:Addr) (p s:Int) (c:Nat),vs=[.ref x,.int p,.int c,.int s]∧H x=some (.ins a.tw dx [])∧∀H',pK a H' x p c s→Kp (At x) H H'→Q .de H'
theorem Nu (T:Tx g.K g.mg a):Pr g 1 a.Fs ["self","place","count","stride"] (SM a):=by
 refine Pr.on T.Fw Mn fun cF A outer s H vs Q E hr h=>?_
 obtain⟨x,dx,p,s,c,rfl,hx,k⟩:=h
 refine⟨_,ae (aT (pv 0) (pv 1) rfl)
  (ae (aT (pv 0) (pv 2) rfl)
  (ag (aT (pv 0) (pv 3) rfl))),?_⟩
 refine⟨_,rfl,_,rfl,x,_,dx,_,rfl,hx,T.dR,T.gA,(by show 0<1000;decide),_,rfl,_,rfl,x,_,dx,_,rfl,af,T.dR,T.cH,pl1,_,rfl,_,rfl,x,_,dx,_,rfl,af,T.dR,T.dW,pl2,?_⟩
 rw[bM,bM,UQ]
 exact k _ ⟨dx,af⟩ (Kp.upd (.inl rfl))
def Ir (a:Ad):Sp:=fun vs H Q E=>∃(x:Addr) (p s k:Int) (c:Nat),vs=[.ref x,.int k]∧pK a H x p c s∧Big s∧Q (.int (p+s*k)) H
theorem iu (T:Tx g.K g.mg a):Pr g 1 a.jL ["self","k"] (Ir a):=by
 refine Pr.on T.mq uE fun cF A outer s H vs Q E hr h=>?_
 obtain⟨x,p,s,kk,c,rfl,⟨d,hx⟩,hb,k⟩:=h
 refine⟨_,ag (aS (aO ck (ar (pv 0) rfl) (aO yp (ar (pv 0) rfl) (pv 1)))),?_⟩
 exact⟨_,rfl,x,_,d,_,_,rfl,hx,T.dR,T.gA,vj,_,rfl,x,_,d,_,_,rfl,hx,T.dR,T.dW,m5,_,rfl,_,_,rfl,rfl,.inl hb,_,_,rfl,rfl,k⟩
def Vv (a:Ad):Sp:=fun vs H Q E=>∃(x:Addr) (p s:Int) (c:Nat),vs=[.ref x]∧pK a H x p c s∧Big s∧Q (.int (MX.low p s c)) H
theorem Iu (T:Tx g.K g.mg a):Pr g 2 a.yF ["self"] (Vv a):=by
 refine Pr.on T.Ah Hm fun cF A outer s H vs Q E hr h=>?_
 obtain⟨x,p,s,c,rfl,⟨d,hx⟩,hb,k⟩:=h
 refine⟨_,ag (aS (aV (IV rfl) (by rfl) T.UO PyProof.Rows.boot_min (aa (ar (pv 0) rfl) (aa (cK (pv 0) (iu T) T.dR T.fO au hr (by decide) (aa (aO gx (ar (pv 0) rfl) ak) ai)) ai)))),?_⟩
 refine⟨_,rfl,x,_,d,_,_,rfl,hx,T.dR,T.gA,vj,_,rfl,x,d,_,rfl,hx,gE,_,rfl,x,_,d,_,_,rfl,hx,T.dR,T.cH,gu,_,_,rfl,rfl,x,p,s,_,c,rfl,⟨d,hx⟩,hb,_,_,rfl,?_⟩
 have e:(if p+s*((c:Int)-1)<p then p+s*((c:Int)-1) else p)=MX.low p s c:=by
  unfold MX.low
  split<;>omega
 rw[←e]at k
 exact k
def PN:Sp:=fun vs H Q E=>∃(c b:Nat),vs=[.int c,.int b]∧Q (.int (MX.aD c b)) H
theorem Lr (T:Tx g.K g.mg a):Pr g 1 a.BO ["count","between"] PN:=by
 refine Pr.on T.CS z9 fun cF A outer s H vs Q E hr h=>?_
 obtain⟨c,b,rfl,k⟩:=h
 refine⟨_,ae (dk (bG nE (pv 0) ak (aC _)) (ag (aS (pk T.mm))) gw)
  (ae (aI (i:=2) z9.nd rfl (Or.inl rfl) (aO jF (aO ck (pk T.mm) (pv 1)) (pk T.gQ)))
  (ag (aS (EW (bG nE (pv 2) (aO JZ (pk T.gQ) ak) (aC _)) (pv 2) (aO gx (pv 2) (pk T.gQ)))))),?_⟩
 unfold MX.aD at k
 refine⟨_,rfl,_,_,rfl,rfl,_,rfl,aw (fun c1=>?_) fun c1=>?_⟩
 ·rw[if_pos (by omega)]at k
  exact k
 ·rw[if_neg (by omega)]at k
  refine⟨_,rfl,_,_,rfl,rfl,_,_,rfl,rfl,(by show(0:Int)<18446744073709551616;decide),?_⟩
  have e:((8:Int)+(b:Int))%18446744073709551616=(((8+b)%Rc31.W64:Nat):Int):=by
   rw[MX.gU]
   omega
  rw[←e]at k
  generalize hv:((8:Int)+(b:Int))%18446744073709551616=v at k
  refine⟨_,rfl,_,_,rfl,rfl,⟨by decide,by decide⟩,_,_,rfl,rfl,_,rfl,?_⟩
  show if decide ((8+(b:Int))%18446744073709551616<18446744073709551616/2)=true then _ else _
  rw[hv]
  generalize hq:decide (v<18446744073709551616/2)=q
  refine dm (fun c2=>?_) fun c2=>?_
  ·have c2:=of_decide_eq_true (hq.trans c2)
   rw[if_pos (by omega)]at k
   exact⟨_,rfl,by rw[←hv]at k;exact k⟩
  ·have c2:=of_decide_eq_false (hq.trans c2)
   rw[if_neg (by omega)]at k
   exact⟨_,rfl,_,_,rfl,rfl,by rw[←hv]at k;exact k⟩
def abN (a:Ad):Sp:=fun vs H Q E=>∃(x:Addr) (p s b:Int) (c:Nat),vs=[.ref x,.int b]∧pK a H x p c s∧Big s∧s≠0∧Q (.int (MX.upTo p s c b)) H
theorem vT (T:Tx g.K g.mg a):Pr g 3 a.uO ["run","bound"] (abN a):=by
 refine Pr.on T.xC Fo fun cF A outer s H vs Q E hr h=>?_
 obtain⟨x,p,s,b,c,rfl,⟨d,hx⟩,hb,h0,k⟩:=h
 refine⟨_,ag (aS (aV (RL rfl) (by rfl) T.ZA PyProof.Rows.boot_max (aa ak (aa (aV (IV rfl) (by rfl) T.UO PyProof.Rows.boot_min (aa (ar (pv 0) rfl) (aa (aO ck (aO Vu (aO gx (pv 1) (a6 (pv 0) (Iu T) T.dR T.Az au hr (by decide))) (aV L8 (by rfl) T.UM PyProof.Rows.boot_abs (aa (ar (pv 0) rfl) ai))) ak) ai))) ai)))),?_⟩
 refine⟨_,rfl,x,_,d,_,_,rfl,hx,T.dR,T.cH,gu,_,rfl,_,rfl,x,d,_,rfl,hx,DV,x,p,s,c,rfl,⟨d,hx⟩,hb,_,_,rfl,rfl,_,rfl,x,_,d,_,_,rfl,hx,T.dR,T.dW,m5,_,rfl,_,_,rfl,rfl,?_,_,_,rfl,rfl,_,_,rfl,_,_,rfl,?_⟩
 ·show 0<(if s<0 then -s else s)∧(if s<0 then -s else s)<2^64
  obtain⟨b1,b2⟩:=hb
  split<;>omega
 ·have e1:(if s<0 then -s else s)=(s.natAbs:Int):=by split<;>omega
  show Q (V.int (if (if (b-MX.low p s c)/(if s<0 then -s else s)+1<(c:Int) then(b-MX.low p s c)/(if s<0 then -s else s)+1 else(c:Int))>0 then(if (b-MX.low p s c)/(if s<0 then -s else s)+1<(c:Int) then(b-MX.low p s c)/(if s<0 then -s else s)+1 else(c:Int)) else 0)) H
  rw[e1]
  unfold MX.upTo at k
  have e2:∀y:Int,(if (if y<(c:Int) then y else(c:Int))>0 then(if y<(c:Int) then y else(c:Int)) else 0)=max 0 (min (c:Int) y):=by
   intro y
   split<;>split<;>omega
  rw[e2]
  exact k
def Nv (a:Ad):Sp:=fun vs H Q E=>∃(x y:Addr) (p s:Int) (sp:Int×Int) (c:Nat),vs=[.ref x,.ref y]∧pK a H x p c s∧Big s∧s≠0∧H y=some (.tup [.int sp.1,.int sp.2])∧Q (.int (MX.vR p s c sp)) H
theorem Er (T:Tx g.K g.mg a):Pr g 4 a.rQ ["run","span"] (Nv a):=by
 refine Pr.on T.uX DM fun cF A outer s H vs Q E hr h=>?_
 obtain⟨x,y,p,s,sp,c,rfl,hx,hb,h0,hy,k⟩:=h
 refine⟨_,ag (aS (aO gx (aU (vT T) au hr (by decide) T.p8 (aa (pv 0) (aa (aO gx (fL Oh (pv 1) ak (fun _ _=>rfl)) (pk T.mm)) ai))) (aU (vT T) au hr (by decide) T.p8 (aa (pv 0) (aa (aO gx (fL Oh (pv 1) ak (fun _ _=>rfl)) ak) ai))))),?_⟩
 refine⟨_,rfl,_,rfl,y,_,_,_,rfl,rfl,tS.of hy,at_of (j:=1) rfl rfl,_,_,rfl,rfl,x,p,s,_,c,rfl,hx,hb,h0,_,rfl,_,rfl,y,_,_,_,rfl,rfl,tS.of hy,at_of (j:=0) rfl rfl,_,_,rfl,rfl,x,p,s,_,c,rfl,hx,hb,h0,_,_,rfl,rfl,k⟩
end
end MI
namespace MI
open PySem L2
theorem Ri {σ:St} {H:Hp} {A B:Hp→Prop} (h:A H):aaG σ H (fun b H3=>if b=true then A H3 else B H3):=iA (B:=B H) h
theorem Nw (t:Rc31.Told):dC t.base t.laid=MX.dC t:=rfl
theorem PQ (c b:Nat):Big (MX.aD c b):=by
 unfold MX.aD
 have h:(8+b)%Rc31.W64<Rc31.W64:=Nat.mod_lt _ (by decide)
 rw[MX.gU]at *
 generalize (8+b)%18446744073709551616=m at *
 split
 ·exact⟨by decide,by decide⟩
 ·split<;>exact⟨by omega,by omega⟩
def t5 (t:Rc31.Told) (n p skip:Nat):Option (List Nat×Nat):=if n≤65536∧8≤(MX.aD n skip).natAbs then Rc31.row t n p skip else none
section
variable {g:Gm} {a:Ad}
def Yi (a:Ad):Sp:=fun vs H Q E=>∃(gr:Addr) (b:List UInt8) (t:Rc31.Told) (p n skip:Nat),vs=[.ref gr,.int p,.int n,.int skip]∧Cu a H gr t∧TG b t∧p<Rc31.W64∧(t5 t n p skip=none→∀H',ax H H'→E (.ref a.aE) none H') ∧
 ∀y,t5 t n p skip=some y→∀x H',pK a H' x p n (MX.aD n skip)→H x=none→ax H H'→Q (.ref x) H'
theorem SN (T:Tx g.K g.mg a):Pr g 5 a.OD ["ground","place","count","between"] (Yi a):=by
 refine Pr.on T.Mq wz fun cF A outer s H vs Q E hr h=>?_
 obtain⟨gr,b,t,p,n,skip,rfl,G,tg,hp,k0,k1⟩:=h
 refine⟨_,ae (az (aB T) au hr (by decide) T.aA (aH iK (pv 2) (pk T.AH) (aC _)))
  (ae (aI (i:=4) wz.nd rfl (Or.inr rfl) (kO (Nu T) T.Kk au hr (by decide) T.Zz (aa (pv 1) (aa (pv 2) (aa (aU (Lr T) au hr (by decide) T.CT (aa (pv 2) (aa (pv 3) ai))) ai)))))
  (ae (az (aB T) au hr (by decide) T.aA (aH zN (aV L8 (by rfl) T.UM PyProof.Rows.boot_abs (aa (ar (pv 4) rfl) ai)) (pk T.mm) (aC _)))
  (ae (az (aB T) au hr (by decide) T.aA (aH bZ (aV (Oo rfl) (by rfl) T.Q0 PyProof.Rows.boot_sum (aa (Cp (te:=E5 (Nv a) [] E (CJ (zK 4) (CJ (zK 5) Hj))) JA rfl wz.nd (lh (ar (pv 0) rfl)) (nG (N:=["ground","place","count","between","run","span"]) (sc:=aq zZ) (own:=[("span",5)]) (by decide +kernel)) (fun _ _ _ _ _ _=>dH (i:=5) wz.nd rfl (Or.inl rfl)) (fun _ _ _ _ _ _ _=>zT) (fun _ _ _ _ _ _ pass=>aU (Er T) pass hr (by decide) T.uY (aa (pv 4) (aa (pv 5) ai)))) ai)) (pv 2) (aC _)))
  (ag (aS (pv 4)))))),?_⟩
 have fail:∀{H':Hp},ax H H'→¬(n≤65536∧8≤(MX.aD n skip).natAbs)→E (.ref a.aE) none H':=fun{H'} s z=>k0 (by unfold t5;rw[if_neg z]) _ s
 refine⟨_,rfl,_,_,rfl,rfl,_,rfl,?_⟩
 generalize Yb:decide ((n:Int)≤65536)=b1
 refine dm (fun c1=>?_) fun c1=>fail (ax.refl _) fun z=>of_decide_eq_false (Yb.trans c1) (by have:=z.1;omega)
 have c1:=of_decide_eq_true (Yb.trans c1)
 refine⟨_,rfl,_,rfl,_,rfl,_,rfl,n,skip,rfl,fun x d nx nd nex=>⟨x,d,_,_,n,rfl,af,fun H1 Yf k1'=>⟨rfl,?_⟩⟩⟩
 have s1:ax H H1:=ax.tP nx nd k1'
 obtain⟨d1,SG⟩:=id Yf
 have abO:=PQ n skip
 refine⟨_,rfl,x,_,d1,_,_,rfl,SG,T.dR,T.dW,m5,_,rfl,_,_,rfl,rfl,_,rfl,?_⟩
 have ahQ:(if MX.aD n skip<0 then -MX.aD n skip else MX.aD n skip)=((MX.aD n skip).natAbs:Int):=by split<;>omega
 show if decide ((8:Int)≤(if MX.aD n skip<0 then -MX.aD n skip else MX.aD n skip))=true then _ else _
 rw[ahQ]
 refine aw (fun c2=>?_) fun c2=>fail s1 fun z=>c2 (by have:=z.2;omega)
 have cD:n≤65536∧8≤(MX.aD n skip).natAbs:=⟨by omega,by omega⟩
 have eR:t5 t n p skip=Rc31.row t n p skip:=by unfold t5;rw[if_pos cD]
 have hs0:MX.aD n skip≠0:=by
  intro z
  have:=cD.2
  rw[z]at this
  simp at this
 obtain⟨dx,ls,kC,sp,sa,la,pa,G1⟩:=G.same s1
 refine⟨_,rfl,gr,_,dx,_,_,rfl,G1.ob,T.bH,T.gM,FJ,sp,rfl,⟨_,bO.of G1.hp⟩,fun D hD=>?_⟩
 have hlen:=bu G1.spans
 refine zV (K:=g.K) (a:=sp) (xs:=pa.map V.ref) (fun i H4=>H4 D=some (.lst ((((dC t.base t.laid).take i).map (MX.vR (p:Int) (MX.aD n skip) n)).map V.int))∧ax H1 H4) ⟨af,ax.upd hD⟩ (fun i H4 _ ⟨_,s4⟩=>bO.of (s4 _ _ G1.hp)) ?_ ?_
 ·rintro i y H4 hi ⟨Rj,s4⟩
  obtain⟨y,hy,rfl⟩:=pH hi
  obtain⟨q,hq,hyy⟩:=qZ G1.spans hy
  refine⟨rfl,Ri ?_⟩
  refine⟨_,rfl,_,rfl,x,y,_,_,q,n,rfl,Yf.same s4,abO,hs0,s4 _ _ hyy,_,Rj,?_,?_,?_⟩
  ·rw[List.length_map,List.length_map,List.length_take]
   refine Nat.lt_of_le_of_lt (Nat.min_le_right _ _) ?_
   unfold dC
   rw[List.length_map]
   refine Nat.lt_of_le_of_lt (List.length_filter_le _ _) ?_
   have:=tg.row
   cases hl:t.laid with
   |nil=>decide
   |cons s0 r0 =>
    rw[hl]at this
    exact Nat.lt_of_le_of_lt this.1 (by decide)
  ·rw[af,List.take_succ,hq,List.map_append,List.map_append]
   rfl
  ·intro z o e
   rw[aj (ao e hD)]
   exact s4 _ _ e
 ·rintro H4 ⟨Rj,s4⟩
  rw[List.length_map,hlen,List.take_of_length_le (Nat.le_refl _)]at Rj
  refine⟨D,_,rfl,bO.of Rj,_,rfl,rfl,_,rfl,aw (fun c3=>?_) fun c3=>?_⟩
  ·have c3:=bo c3
   rw[Nw]at c3
   have hy:=(MX.Yg tg.tok hp hs0 c3).1
   exact⟨_,rfl,k1 _ (eR.trans hy) x H4 (Yf.same s4) nx (s1.trans s4)⟩
  ·have c3:=bq c3
   rw[Nw]at c3
   exact k0 (eR.trans (MX.Ll tg.tok hp hs0 c3)) _ (s1.trans s4)
end
end MI
namespace MX
open Rc31
theorem zy:∀{f:Nat} {b:Bytes} {x:Nat×Bytes},sevens f b=some x→x.2.length<b.length
 |0,_,_,h=>by simp[sevens]at h
 |f+1,[],_,h=>by simp[sevens]at h
 |f+1,c::r,x,h=>by
  unfold sevens at h
  split at h
  ·cases h;simp
  ·obtain⟨y,hy,rfl⟩:=Option.map_eq_some_iff.mp h
   have:=zy hy
   simp only[List.length_cons]
   omega
theorem bf {b:Bytes} {x:Nat×Bytes} (h:uleb b=some x):x.2.length<b.length∧x.1<W64:=by
 unfold uleb at h
 obtain⟨y,hy,h⟩:=Option.bind_eq_some_iff.mp h
 split at h
 ·cases h;exact⟨zy hy,by assumption⟩
 ·cases h
theorem GK {b:Bytes} {x:Nat×Bytes} (h:sleb b=some x):x.2.length<b.length:=by
 unfold sleb at h
 obtain⟨y,hy,h⟩:=Option.bind_eq_some_iff.mp h
 cases h
 exact(zy hy:y.2.length<b.length)
theorem vU {b:Bytes} {x:Bytes×Bytes} (h:textIn b=some x):x.2.length<b.length:=by
 unfold textIn at h
 dsimp only at h
 split at h
 ·rename_i hc
  cases h
  simp only[List.length_drop]
  omega
 ·cases h
def Rk (t:Told) (s:Now) (n skip:Nat) (r:Bytes):Option (List Nat×Now×Bytes) :=
 if s.placed=false∨s.typed=false∨COUNT<n then none else(row t n s.place skip).map fun x=>(x.1,{s with place:=x.2},r)
def fM (t:Told) (s:Now) (op cq:Nat) (r:Bytes):Option (List Nat×Now×Bytes) :=
 if op=1 then(if cq=1 then some ([],{s with typed:=true},r) else none)
 else if op=2 then(uleb r).bind fun x=>(segmentAt t cq).map fun a=>([],{s with place:=(a+x.1)%W64,placed:=true},x.2)
 else if op=3 then(if cq≠0 then none else(uleb r).map fun x=>([],{s with place:=(s.place+x.1)%W64},x.2))
 else if op=4 then some ([],{s with place:=(s.place+8*cq)%W64},r)
 else if op=5 then Rk t s cq 0 r
 else if op=6 then(if cq≠0 then none else(uleb r).bind fun x=>Rk t s x.1 0 x.2)
 else if op=7 then(if cq≠0 then none else(uleb r).bind fun x=>Rk t s 1 x.1 x.2)
 else if op=8 then(if cq≠0 then none else(uleb r).bind fun x=>(uleb x.2).bind fun y=>Rk t s x.1 y.1 y.2)
 else none
theorem EG {t:Told} {s:Now} {n skip:Nat} {r:Bytes} {y:List Nat×Now×Bytes} (h:Rk t s n skip r=some y):y.2.2=r:=by
 unfold Rk at h
 split at h
 ·cases h
 ·obtain⟨x,_,rfl⟩:=Option.map_eq_some_iff.mp h
  rfl
theorem JE {t:Told} {s:Now} {op cq:Nat} {r:Bytes} {y:List Nat×Now×Bytes} (h:fM t s op cq r=some y):y.2.2.length≤r.length:=by
 unfold fM at h
 split at h
 ·split at h
  ·cases h;exact Nat.le_refl _
  ·cases h
 split at h
 ·obtain⟨x,hx,h⟩:=Option.bind_eq_some_iff.mp h
  obtain⟨a,_,rfl⟩:=Option.map_eq_some_iff.mp h
  exact Nat.le_of_lt (bf hx).1
 split at h
 ·split at h
  ·cases h
  ·obtain⟨x,hx,rfl⟩:=Option.map_eq_some_iff.mp h
   exact Nat.le_of_lt (bf hx).1
 split at h
 ·cases h;exact Nat.le_refl _
 split at h
 ·rw[EG h];exact Nat.le_refl _
 split at h
 ·split at h
  ·cases h
  ·obtain⟨x,hx,h⟩:=Option.bind_eq_some_iff.mp h
   rw[EG h];exact Nat.le_of_lt (bf hx).1
 split at h
 ·split at h
  ·cases h
  ·obtain⟨x,hx,h⟩:=Option.bind_eq_some_iff.mp h
   rw[EG h];exact Nat.le_of_lt (bf hx).1
 split at h
 ·split at h
  ·cases h
  ·obtain⟨x,hx,h⟩:=Option.bind_eq_some_iff.mp h
   obtain⟨z,hz,h⟩:=Option.bind_eq_some_iff.mp h
   rw[EG h]
   have:=(bf hx).1
   have:=(bf hz).1
   omega
 ·cases h
theorem zz (t:Told) (f:Nat) (s:Now) (c:UInt8) (r:Bytes) (h0:c≠0):mends t (f+1) s (c::r)=(fM t s (c.toNat/16) (c.toNat%16) r).bind fun y=>(mends t f y.2.1 y.2.2).map fun l=>y.1++l:=by
 have hc:¬(c.toNat/16=0∧c.toNat%16=0):=by
  intro q
  apply h0
  have:c.toNat=0:=by omega
  exact UInt8.toNat_inj.mp this
 have Yj:∀n skip r',(if s.placed=false∨s.typed=false∨COUNT<n then none else(row t n s.place skip).bind fun x=>(mends t f {s with place:=x.2} r').map fun l=>x.1++l)=(Rk t s n skip r').bind fun y=>(mends t f y.2.1 y.2.2).map fun l=>y.1++l:=by
  intro n skip r'
  unfold Rk
  split
  ·rfl
  ·cases row t n s.place skip<;>rfl
 rw[mends]
 unfold fM
 by_cases h:c.toNat/16=0
 ·rw[if_pos h,if_neg (fun q=>hc ⟨h,q.1⟩),if_neg (by omega),if_neg (by omega),if_neg (by omega),if_neg (by omega),if_neg (by omega),if_neg (by omega),if_neg (by omega),if_neg (by omega)]
  rfl
 rw[if_neg h]
 by_cases h1:c.toNat/16=1
 ·rw[if_pos h1,if_pos h1]
  split
  ·simp
  ·rfl
 rw[if_neg h1,if_neg h1]
 by_cases h2:c.toNat/16=2
 ·rw[if_pos h2,if_pos h2]
  cases uleb r with
  |none=>rfl
  |some x =>
   simp only[Option.bind_some]
   cases segmentAt t (c.toNat%16) with
   |none=>rfl
   |some a=>simp
 rw[if_neg h2,if_neg h2]
 by_cases h3:c.toNat/16=3
 ·rw[if_pos h3,if_pos h3]
  split
  ·rfl
  ·cases uleb r<;>simp
 rw[if_neg h3,if_neg h3]
 by_cases h4:c.toNat/16=4
 ·rw[if_pos h4,if_pos h4]
  simp
 rw[if_neg h4,if_neg h4]
 by_cases h5:c.toNat/16=5
 ·rw[if_pos h5,if_pos h5]
  exact Yj _ _ _
 rw[if_neg h5,if_neg h5]
 by_cases h6:c.toNat/16=6
 ·rw[if_pos h6,if_pos h6]
  split
  ·rfl
  ·cases uleb r with
   |none=>rfl
   |some x=>exact Yj _ _ _
 rw[if_neg h6,if_neg h6]
 by_cases h7:c.toNat/16=7
 ·rw[if_pos h7,if_pos h7]
  split
  ·rfl
  ·cases uleb r with
   |none=>rfl
   |some x=>exact Yj _ _ _
 rw[if_neg h7,if_neg h7]
 by_cases h8:c.toNat/16=8
 ·rw[if_pos h8,if_pos h8]
  split
  ·rfl
  ·cases uleb r with
   |none=>rfl
   |some x =>
    simp only[Option.bind_some]
    cases uleb x.2 with
    |none=>rfl
    |some y=>exact Yj _ _ _
 rw[if_neg h8,if_neg h8]
 rfl
theorem GL (t:Told):∀(n:Nat) (s:Now) (b:Bytes) (f f':Nat),b.length≤n→b.length<f→b.length<f'→mends t f s b=mends t f' s b
 |n,s,[],f+1,f'+1,_,_,_=>by simp[mends]
 |0,s,c::r,f+1,f'+1,h,_,_=>by simp at h
 |n+1,s,c::r,f+1,f'+1,h,h1,h2=>by
  by_cases h0:c=0
  ·subst h0
   simp[mends]
  ·rw[zz t f s c r h0,zz t f' s c r h0]
   cases hs:fM t s (c.toNat/16) (c.toNat%16) r with
   |none=>rfl
   |some y =>
    have:=JE hs
    simp only[List.length_cons]at h h1 h2
    simp only[Option.bind_some]
    rw[GL t n y.2.1 y.2.2 f f' (by omega) (by omega) (by omega)]
def lV (t:Told) (s:Now) (b:Bytes):Option (List Nat):=mends t (b.length+1) s b
theorem Ls (t:Told) (s:Now):lV t s []=some []:=by simp[lV,mends]
theorem Iv (t:Told) (s:Now) (r:Bytes):lV t s (0::r)=if (r.all fun x=>x==0)=true then some [] else none:=by
 unfold lV
 rw[mends]
 have e:(0:UInt8).toNat=0:=rfl
 rw[if_pos (by rw[e])]
 by_cases h:(r.all fun x=>x==0)=true
 ·rw[if_pos h,if_pos ⟨by rw[e],h⟩]
 ·rw[if_neg h,if_neg (fun q=>h q.2)]
theorem Iw (t:Told) (s:Now) (c:UInt8) (r:Bytes) (h0:c≠0):lV t s (c::r)=(fM t s (c.toNat/16) (c.toNat%16) r).bind fun y=>(lV t y.2.1 y.2.2).map fun l=>y.1++l:=by
 unfold lV
 rw[List.length_cons,zz t _ s c r h0]
 cases hs:fM t s (c.toNat/16) (c.toNat%16) r with
 |none=>rfl
 |some y =>
  have:=JE hs
  simp only[Option.bind_some]
  rw[GL t _ y.2.1 y.2.2 (r.length+1) (y.2.2.length+1) (Nat.le_refl _) (by omega) (by omega)]
def Rl (t:Told) (s:Now) (n skip:Nat) (r:Bytes):Option (List Want×Now×Bytes):=match s.name with
 |none=>none
 |some nm=>if s.placed=false∨s.typed=false∨s.library=0∨t.libraries.length<s.library∨COUNT<n then none else(row t n s.place skip).map fun x=>(x.1.map fun p=>(⟨s.library,nm,s.plus,p⟩:Want),{s with place:=x.2},r)
def eN (t:Told) (s:Now) (op cq:Nat) (r:Bytes):Option (List Want×Now×Bytes) :=
 if op=1 then some ([],{s with library:=cq},r)
 else if op=2 then(if cq≠0 then none else(uleb r).map fun x=>([],{s with library:=x.1},x.2))
 else if op=4 then(if cq≠0 then none else(textIn r).bind fun x=>if x.1.isEmpty=true then none else some ([],{s with name:=some x.1},x.2))
 else if op=5 then(if cq=1 then some ([],{s with typed:=true},r) else none)
 else if op=6 then(if cq≠0 then none else(sleb r).map fun x=>([],{s with plus:=x.1},x.2))
 else if op=7 then(uleb r).bind fun x=>(segmentAt t cq).map fun a=>([],{s with place:=(a+x.1)%W64,placed:=true},x.2)
 else if op=8 then(if cq≠0 then none else(uleb r).map fun x=>([],{s with place:=(s.place+x.1)%W64},x.2))
 else if op=9 then(if cq≠0 then none else Rl t s 1 0 r)
 else if op=10 then(if cq≠0 then none else(uleb r).bind fun x=>Rl t s 1 x.1 x.2)
 else if op=11 then Rl t s 1 (8*cq) r
 else if op=12 then(if cq≠0 then none else(uleb r).bind fun x=>(uleb x.2).bind fun y=>Rl t s x.1 y.1 y.2)
 else none
theorem EH {t:Told} {s:Now} {n skip:Nat} {r:Bytes} {y:List Want×Now×Bytes} (h:Rl t s n skip r=some y):y.2.2=r:=by
 unfold Rl at h
 split at h
 ·cases h
 ·split at h
  ·cases h
  ·obtain⟨x,_,rfl⟩:=Option.map_eq_some_iff.mp h
   rfl
theorem JF {t:Told} {s:Now} {op cq:Nat} {r:Bytes} {y:List Want×Now×Bytes} (h:eN t s op cq r=some y):y.2.2.length≤r.length:=by
 unfold eN at h
 have g1:∀{z:Option (List Want×Now×Bytes)},(if cq≠0 then none else z)=some y→z=some y:=by
  intro z q
  by_cases hi:cq≠0
  ·rw[if_pos hi]at q;cases q
  ·rw[if_neg hi]at q;exact q
 by_cases h1:op=1
 ·rw[if_pos h1]at h
  cases h;exact Nat.le_refl _
 rw[if_neg h1]at h
 by_cases h1:op=2
 ·rw[if_pos h1]at h
  obtain⟨x,hx,rfl⟩:=Option.map_eq_some_iff.mp (g1 h)
  exact Nat.le_of_lt (bf hx).1
 rw[if_neg h1]at h
 by_cases h1:op=4
 ·rw[if_pos h1]at h
  obtain⟨x,hx,h⟩:=Option.bind_eq_some_iff.mp (g1 h)
  by_cases he:x.1.isEmpty=true
  ·rw[if_pos he]at h;cases h
  ·rw[if_neg he]at h
   cases h
   exact Nat.le_of_lt (vU hx)
 rw[if_neg h1]at h
 by_cases h1:op=5
 ·rw[if_pos h1]at h
  by_cases he:cq=1
  ·rw[if_pos he]at h
   cases h;exact Nat.le_refl _
  ·rw[if_neg he]at h;cases h
 rw[if_neg h1]at h
 by_cases h1:op=6
 ·rw[if_pos h1]at h
  obtain⟨x,hx,rfl⟩:=Option.map_eq_some_iff.mp (g1 h)
  exact Nat.le_of_lt (GK hx)
 rw[if_neg h1]at h
 by_cases h1:op=7
 ·rw[if_pos h1]at h
  obtain⟨x,hx,h⟩:=Option.bind_eq_some_iff.mp h
  obtain⟨a,_,rfl⟩:=Option.map_eq_some_iff.mp h
  exact Nat.le_of_lt (bf hx).1
 rw[if_neg h1]at h
 by_cases h1:op=8
 ·rw[if_pos h1]at h
  obtain⟨x,hx,rfl⟩:=Option.map_eq_some_iff.mp (g1 h)
  exact Nat.le_of_lt (bf hx).1
 rw[if_neg h1]at h
 by_cases h1:op=9
 ·rw[if_pos h1]at h
  rw[EH (g1 h)];exact Nat.le_refl _
 rw[if_neg h1]at h
 by_cases h1:op=10
 ·rw[if_pos h1]at h
  obtain⟨x,hx,h⟩:=Option.bind_eq_some_iff.mp (g1 h)
  rw[EH h];exact Nat.le_of_lt (bf hx).1
 rw[if_neg h1]at h
 by_cases h1:op=11
 ·rw[if_pos h1]at h
  rw[EH h];exact Nat.le_refl _
 rw[if_neg h1]at h
 by_cases h1:op=12
 ·rw[if_pos h1]at h
  obtain⟨x,hx,h⟩:=Option.bind_eq_some_iff.mp (g1 h)
  obtain⟨z,hz,h⟩:=Option.bind_eq_some_iff.mp h
  rw[EH h]
  have:=(bf hx).1
  have:=(bf hz).1
  omega
 rw[if_neg h1]at h
 cases h
theorem zA (t:Told) (f:Nat) (s:Now) (c:UInt8) (r:Bytes) (h0:c≠0):binds t (f+1) s (c::r)=(eN t s (c.toNat/16) (c.toNat%16) r).bind fun y=>(binds t f y.2.1 y.2.2).map fun l=>y.1++l:=by
 have hc:¬(c.toNat/16=0∧c.toNat%16=0):=by
  intro q
  apply h0
  have:c.toNat=0:=by omega
  exact UInt8.toNat_inj.mp this
 have Yj:∀n skip r',(match s.name with
  |none=>none
  |some nm=>if s.placed=false∨s.typed=false∨s.library=0∨t.libraries.length<s.library∨COUNT<n then none else(row t n s.place skip).bind fun x=>(binds t f {s with place:=x.2} r').map fun l=>(x.1.map fun p=>(⟨s.library,nm,s.plus,p⟩:Want))++l)=(Rl t s n skip r').bind fun y=>(binds t f y.2.1 y.2.2).map fun l=>y.1++l:=by
  intro n skip r'
  unfold Rl
  cases s.name with
  |none=>rfl
  |some nm =>
   dsimp only
   split
   ·rfl
   ·cases row t n s.place skip<;>rfl
 rw[binds]
 unfold eN
 by_cases h:c.toNat/16=0
 ·rw[if_pos h,if_neg (fun q=>hc ⟨h,q.1⟩)]
  rw[if_neg (by omega),if_neg (by omega),if_neg (by omega),if_neg (by omega),if_neg (by omega),if_neg (by omega),if_neg (by omega),if_neg (by omega),if_neg (by omega),if_neg (by omega),if_neg (by omega)]
  rfl
 rw[if_neg h]
 by_cases h1:c.toNat/16=1
 ·rw[if_pos h1,if_pos h1]
  simp
 rw[if_neg h1,if_neg h1]
 by_cases h2:c.toNat/16=2
 ·rw[if_pos h2,if_pos h2]
  split
  ·rfl
  ·cases uleb r<;>simp
 rw[if_neg h2,if_neg h2]
 by_cases h4:c.toNat/16=4
 ·rw[if_pos h4,if_pos h4]
  split
  ·rfl
  ·cases textIn r with
   |none=>rfl
   |some x =>
    simp only[Option.bind_some]
    split<;>simp
 rw[if_neg h4,if_neg h4]
 by_cases h5:c.toNat/16=5
 ·rw[if_pos h5,if_pos h5]
  split
  ·simp
  ·rfl
 rw[if_neg h5,if_neg h5]
 by_cases h6:c.toNat/16=6
 ·rw[if_pos h6,if_pos h6]
  split
  ·rfl
  ·cases sleb r<;>simp
 rw[if_neg h6,if_neg h6]
 by_cases h7:c.toNat/16=7
 ·rw[if_pos h7,if_pos h7]
  cases uleb r with
  |none=>rfl
  |some x =>
   simp only[Option.bind_some]
   cases segmentAt t (c.toNat%16) with
   |none=>rfl
   |some a=>simp
 rw[if_neg h7,if_neg h7]
 by_cases h8:c.toNat/16=8
 ·rw[if_pos h8,if_pos h8]
  split
  ·rfl
  ·cases uleb r<;>simp
 rw[if_neg h8,if_neg h8]
 by_cases h9:c.toNat/16=9
 ·rw[if_pos h9,if_pos h9]
  split
  ·rfl
  ·exact Yj _ _ _
 rw[if_neg h9,if_neg h9]
 by_cases Vj:c.toNat/16=10
 ·rw[if_pos Vj,if_pos Vj]
  split
  ·rfl
  ·cases uleb r with
   |none=>rfl
   |some x=>exact Yj _ _ _
 rw[if_neg Vj,if_neg Vj]
 by_cases Yk:c.toNat/16=11
 ·rw[if_pos Yk,if_pos Yk]
  exact Yj _ _ _
 rw[if_neg Yk,if_neg Yk]
 by_cases ZK:c.toNat/16=12
 ·rw[if_pos ZK,if_pos ZK]
  split
  ·rfl
  ·cases uleb r with
   |none=>rfl
   |some x =>
    simp only[Option.bind_some]
    cases uleb x.2 with
    |none=>rfl
    |some y=>exact Yj _ _ _
 rw[if_neg ZK,if_neg ZK]
 rfl
theorem GN (t:Told):∀(n:Nat) (s:Now) (b:Bytes) (f f':Nat),b.length≤n→b.length<f→b.length<f'→binds t f s b=binds t f' s b
 |n,s,[],f+1,f'+1,_,_,_=>by simp[binds]
 |0,s,c::r,f+1,f'+1,h,_,_=>by simp at h
 |n+1,s,c::r,f+1,f'+1,h,h1,h2=>by
  by_cases h0:c=0
  ·subst h0
   simp[binds]
  ·rw[zA t f s c r h0,zA t f' s c r h0]
   cases hs:eN t s (c.toNat/16) (c.toNat%16) r with
   |none=>rfl
   |some y =>
    have:=JF hs
    simp only[List.length_cons]at h h1 h2
    simp only[Option.bind_some]
    rw[GN t n y.2.1 y.2.2 f f' (by omega) (by omega) (by omega)]
def lW (t:Told) (s:Now) (b:Bytes):Option (List Want):=binds t (b.length+1) s b
theorem Lu (t:Told) (s:Now):lW t s []=some []:=by simp[lW,binds]
theorem Iy (t:Told) (s:Now) (r:Bytes):lW t s (0::r)=if (r.all fun x=>x==0)=true then some [] else none:=by
 unfold lW
 rw[binds]
 have e:(0:UInt8).toNat=0:=rfl
 rw[if_pos (by rw[e])]
 by_cases h:(r.all fun x=>x==0)=true
 ·rw[if_pos h,if_pos ⟨by rw[e],h⟩]
 ·rw[if_neg h,if_neg (fun q=>h q.2)]
theorem Iz (t:Told) (s:Now) (c:UInt8) (r:Bytes) (h0:c≠0):lW t s (c::r)=(eN t s (c.toNat/16) (c.toNat%16) r).bind fun y=>(lW t y.2.1 y.2.2).map fun l=>y.1++l:=by
 unfold lW
 rw[List.length_cons,zA t _ s c r h0]
 cases hs:eN t s (c.toNat/16) (c.toNat%16) r with
 |none=>rfl
 |some y =>
  have:=JF hs
  simp only[Option.bind_some]
  rw[GN t _ y.2.1 y.2.2 (r.length+1) (y.2.2.length+1) (Nat.le_refl _) (by omega) (by omega)]
end MX
namespace MI
open PySem L2
theorem row_end {t:Rc31.Told} {skip:Nat}:∀{n p:Nat} {y:List Nat×Nat},p<Rc31.W64→Rc31.row t n p skip=some y→y=((List.range n).map (MX.bQ p skip),(p+n*(8+skip))%Rc31.W64):=by
 intro n p y hp h
 by_cases H:∀i,i<n→Rc31.wordAt t (MX.bQ p skip i)=true
 ·rw[MX.Li hp H]at h
  cases h
  rfl
 ·have:∃i,i<n∧Rc31.wordAt t (MX.bQ p skip i)=false:=by
   apply Classical.byContradiction
   intro q
   apply H
   intro i hi
   cases e:Rc31.wordAt t (MX.bQ p skip i) with
   |true=>rfl
   |false=>exact absurd ⟨i,hi,e⟩ q
  obtain⟨i,hi,e⟩:=this
  rw[MX.GH hp hi e]at h
  cases h
theorem Ny {t:Rc31.Told} {skip n p:Nat} {y:List Nat×Nat} (hp:p<Rc31.W64) (h:t5 t n p skip=some y):n≤65536∧8≤(MX.aD n skip).natAbs∧Rc31.row t n p skip=some y∧y.2=(p+n*(8+skip))%Rc31.W64:=by
 unfold t5 at h
 split at h
 ·rename_i hc
  exact⟨hc.1,hc.2,h,by rw[row_end hp h]⟩
 ·cases h
abbrev t8 (p q:Addr):Addr→Prop:=fun b=>b=p∨b=q
structure He (a:Ad) (C:Addr) (H0 H:Hp) (w cu gr:Addr) (b:List UInt8) (t:Rc31.Told) (s:Rc31.Now) (rest:List UInt8) (ext:List (Str×V)) (dx pr:Addr) (part:List UInt8) (i:Nat):Prop where
 ob:H w=some (.ins C dx (bC (.ref cu) (.ref gr) (.bl s.typed) (.bl s.placed) (.int (s.place:Int)) ext))
 cur:oB a.bz H cu pr i
 Vw:H0 pr=some (.lst (bv part))
 rest:part.drop i=rest
 gr:Cu a H0 gr t
 tg:TG b t
 same:ax H0 H
 nw:H0 w=none
 nc:H0 cu=none
 pl:s.place<Rc31.W64
 ext:ext.length≤10
def rf (a:Ad) (C:Addr) (H0 H:Hp) (w cu gr:Addr) (b:List UInt8) (t:Rc31.Told) (s:Rc31.Now) (rest:List UInt8) (ext:List (Str×V)):Prop:=∃dx pr part i,He a C H0 H w cu gr b t s rest ext dx pr part i
section
variable {a:Ad} {C:Addr} {H0 H H':Hp} {w cu gr:Addr} {b:List UInt8} {t:Rc31.Told} {s:Rc31.Now} {rest:List UInt8} {ext:List (Str×V)} {dx pr:Addr} {part:List UInt8} {i:Nat}
theorem He.row (h:He a C H0 H w cu gr b t s rest ext dx pr part i):H pr=some (.lst (bv part)):=h.same _ _ h.Vw
theorem He.wc (h:He a C H0 H w cu gr b t s rest ext dx pr part i):w≠cu:=by
 obtain⟨d,hc⟩:=h.cur
 refine cQ h.ob hc (by intro z;injection z with _ _ z;have:=congrArg List.length z;simp[bC,bW]at this)
theorem He.read (h:He a C H0 H w cu gr b t s rest ext dx pr part i) {i':Nat} {Nz:List UInt8} (k:Kp (At cu) H H') (c:oB a.bz H' cu pr i') (e:part.drop i'=Nz):He a C H0 H' w cu gr b t s Nz ext dx pr part i':=by
 obtain⟨d,hc⟩:=h.cur
 exact⟨k _ _ h.ob h.wc,c,h.Vw,e,h.gr,h.tg,fun y o q=>k _ _ (h.same _ _ q) (fun z=>by obtain rfl:y=cu:=z;rw[h.nc]at q;cases q),h.nw,h.nc,h.pl,h.ext⟩
theorem He.kept (h:He a C H0 H w cu gr b t s rest ext dx pr part i) (k:ax H H'):He a C H0 H' w cu gr b t s rest ext dx pr part i:=by
 obtain⟨d,hc⟩:=h.cur
 exact⟨k _ _ h.ob,⟨d,k _ _ hc⟩,h.Vw,h.rest,h.gr,h.tg,h.same.trans k,h.nw,h.nc,h.pl,h.ext⟩
theorem He.put (h:He a C H0 H w cu gr b t s rest ext dx pr part i) {s':Rc31.Now} {ext':List (Str×V)} (hp:s'.place<Rc31.W64) (he:ext'.length≤10):He a C H0 (upd H w (.ins C dx (bC (.ref cu) (.ref gr) (.bl s'.typed) (.bl s'.placed) (.int (s'.place:Int)) ext'))) w cu gr b t s' rest ext' dx pr part i:=by
 obtain⟨d,hc⟩:=h.cur
 exact⟨af,⟨d,by rw[aj h.wc.symm];exact hc⟩,h.Vw,h.rest,h.gr,h.tg,fun y o q=>by rw[aj (ao q h.nw)];exact h.same _ _ q,h.nw,h.nc,hp,he⟩
theorem He.other (h:He a C H0 H w cu gr b t s rest ext dx pr part i) {y:Addr} {o:HO} (ny:H0 y=none) (n1:y≠w) (n2:y≠cu):He a C H0 (upd H y o) w cu gr b t s rest ext dx pr part i:=by
 obtain⟨d,hc⟩:=h.cur
 exact⟨by rw[aj n1.symm];exact h.ob,⟨d,by rw[aj n2.symm];exact hc⟩,h.Vw,h.rest,h.gr,h.tg,fun z u q=>by rw[aj (ao q ny)];exact h.same _ _ q,h.nw,h.nc,h.pl,h.ext⟩
theorem He.len (h:He a C H0 H w cu gr b t s rest ext dx pr part i) {v1 v2 v3 v4 v5:V}:(bC v1 v2 v3 v4 v5 ext).length<1000:=by
 have:=h.ext
 simp only[bC,List.length_cons]
 omega
end
structure WC (g:Gm) (a:Ad) (C:Addr):Prop where
 cl:CI g.K C
 je:aK g.K C "cursor"
 ground:aK g.K C "ground"
 Cv:aK g.K C "kind_told"
 zB:aK g.K C "place_told"
 place:aK g.K C "place"
 IA:Meth g.K C "check_zeros" a.dY
 ZL:Meth g.K C "tell_kind" a.gf
 acT:Meth g.K C "go_into" a.iB
 Yl:Meth g.K C "go_on" a.kS
 af0:Meth g.K C "do_words_apart" a.bT
 ajz:Meth g.K C "run" a.qx
 ahS:Meth g.K C "walk_through" a.cx
theorem wcM {g:Gm} {a:Ad} (T:Tx g.K g.mg a):WC g a a.a8:=⟨T.cM,T.gY,T.gZ,T.fq,T.eU,T.iG,T.kK,T.ja,T.jZ,T.ji,T.fG,T.qc,T.gC⟩
theorem wcB {g:Gm} {a:Ad} (T:Tx g.K g.mg a):WC g a a.aP:=⟨T.aQ,T.gW,T.gX,T.fo,T.eQ,T.iF,T.kJ,T.i8,T.jY,T.mj,T.fC,T.qb,T.gB⟩
theorem fz {v1 v2 v3 v4 v5:V} {ext:List (Str×V)} {m:Str} (h1:¬m = "cursor") (h2:¬m = "ground") (h3:¬m = "kind_told") (h4:¬m = "place_told") (h5:¬m = "place"):(bC v1 v2 v3 v4 v5 ext).lookup m=ext.lookup m:=by
 unfold bC
 rw[cY h1,cY h2,cY h3,cY h4,cY h5]
structure Clean (ext:List (Str×V)):Prop where
 NA:ext.lookup ("check_zeros" : Str)=none
 aer:ext.lookup ("go_on" : Str)=none
 SO:ext.lookup ("take_step" : Str)=none
 Vx:ext.lookup ("do_words" : Str)=none
section
variable {g:Gm} {a:Ad} {C:Addr}
def abQ (a:Ad) (C:Addr) (f:Nat→Rc31.Told→Rc31.Now→List UInt8→Option (Rc31.Now×List UInt8)):Sp:=fun vs H Q E=>∃(H0:Hp) (w cu gr:Addr) (b:List UInt8) (t:Rc31.Told) (s:Rc31.Now) (rest:List UInt8) (ext:List (Str×V)) (n:Nat),vs=[.ref w,.int n]∧rf a C H0 H w cu gr b t s rest ext ∧
 (f n t s rest=none→∀H',ax H0 H'→E (.ref a.aE) none H')∧∀y,f n t s rest=some y→∀H',rf a C H0 H' w cu gr b t y.1 y.2 ext→Kp (t8 w cu) H H'→Q .de H'
def kM (n:Nat) (_:Rc31.Told) (s:Rc31.Now) (r:List UInt8):Option (Rc31.Now×List UInt8):=if n=1 then some ({s with typed:=true},r) else none
theorem pL (T:Tx g.K g.mg a) (W:WC g a C):Pr g 2 a.gf ["self","n"] (abQ a C kM):=by
 refine Pr.on T.qz Aa fun cF A outer s H vs Q E hr h=>?_
 obtain⟨H0,w,cu,gr,b,t,s,rest,ext,n,rfl,⟨dx,pr,part,i,D⟩,k0,k1⟩:=h
 refine⟨_,ae (az (aB T) au hr (by decide) T.aA (aH bZ (pv 1) ak (aC _)))
  (ag (aT (pv 0) EU rfl)),?_⟩
 refine⟨_,rfl,rfl,_,rfl,aw (fun c1=>?_) fun c1=>k0 (by unfold kM;rw[if_neg fun z=>bq c1 (by rw[z];rfl)]) _ D.same⟩
 have c1:=bo c1
 refine⟨_,rfl,w,_,dx,_,rfl,D.ob,W.cl,W.Cv,D.len,?_⟩
 rw[vk]
 exact k1 ({s with typed:=true},rest) (by unfold kM;rw[if_pos (by omega)]) _ ⟨dx,pr,part,i,D.put (s':={s with typed:=true}) D.pl D.ext⟩ (Kp.upd (.inl (.inl rfl)))
def NB (n:Nat) (_:Rc31.Told) (s:Rc31.Now) (r:List UInt8):Option (Rc31.Now×List UInt8):=some ({s with place:=(s.place+n)%Rc31.W64},r)
theorem lJ (T:Tx g.K g.mg a) (W:WC g a C):Pr g 1 a.kS ["self","far"] (abQ a C NB):=by
 refine Pr.on T.Aj Ho fun cF A outer s H vs Q E hr h=>?_
 obtain⟨H0,w,cu,gr,b,t,s,rest,ext,n,rfl,⟨dx,pr,part,i,D⟩,k0,k1⟩:=h
 refine⟨_,ag (aT (pv 0) (aO jF (aO ck (ar (pv 0) rfl) (pv 1)) (pk T.gQ)) rfl),?_⟩
 refine⟨_,rfl,w,_,dx,_,_,rfl,D.ob,W.cl,W.place,AL,_,rfl,_,_,rfl,rfl,_,_,rfl,rfl,(by show(0:Int)<18446744073709551616;decide),_,rfl,w,_,dx,_,rfl,D.ob,W.cl,W.place,D.len,?_⟩
 rw[qG]
 have e:((s.place:Int)+(n:Int))%18446744073709551616=(((s.place+n)%Rc31.W64:Nat):Int):=by rw[MX.gU];omega
 have D':=D.put (s':={s with place:=(s.place+n)%Rc31.W64}) (Nat.mod_lt _ (by decide)) D.ext
 show Q V.de (upd H w (.ins C dx (bC (.ref cu) (.ref gr) (.bl s.typed) (.bl s.placed) (.int (((s.place:Int)+(n:Int))%18446744073709551616)) ext)))
 rw[e]
 exact k1 _ rfl _ ⟨dx,pr,part,i,D'⟩ (Kp.upd (.inl (.inl rfl)))
def jC (n:Nat) (t:Rc31.Told) (s:Rc31.Now) (r:List UInt8):Option (Rc31.Now×List UInt8):=(Rc31.uleb r).bind fun x=>(Rc31.segmentAt t n).map fun p=>({s with place:=(p+x.1)%Rc31.W64,placed:=true},x.2)
theorem tQ (T:Tx g.K g.mg a) (W:WC g a C):Pr g 5 a.iB ["self","n"] (abQ a C jC):=by
 refine Pr.on T.u0 DN fun cF A outer s H vs Q E hr h=>?_
 obtain⟨H0,w,cu,gr,b,t,s,rest,ext,n,rfl,⟨dx,pr,part,i,D⟩,k0,k1⟩:=h
 refine⟨_,ae (aT (pv 0) (aO jF (aO ck (cK (ar (pv 0) rfl) (zx T) T.bH T.pb au hr (by decide) (aa (pv 1) ai)) (a6 (ar (pv 0) rfl) (bj T) T.aL T.bp au hr (by decide))) (pk T.gQ)) rfl)
  (ag (aT (pv 0) EU rfl)),?_⟩
 have G:=D.gr.same D.same
 obtain⟨gd,ls,kC,sp,sa,la,pa,GD⟩:=id G
 refine⟨_,rfl,w,_,dx,_,_,rfl,D.ob,W.cl,W.ground,xT,gr,gd,_,rfl,GD.ob,vo,_,rfl,gr,b,t,n,rfl,G,D.tg,fun hn=>k0 (by unfold jC;rw[hn];cases Rc31.uleb rest<;>rfl) _ D.same,fun p hp=>?_⟩
 obtain⟨cd,pM⟩:=D.cur
 refine⟨_,rfl,w,_,dx,_,_,rfl,D.ob,W.cl,W.je,bE,cu,cd,_,rfl,pM,aY,cu,pr,part,i,rfl,⟨cd,pM⟩,D.row,fun hn H1 k=>?_,fun x r hx v H1 i1 ev c1 lt le er k=>?_⟩
 ·rw[D.rest]at hn
  exact k0 (by unfold jC;rw[hn];rfl) _ fun y o q=>k _ _ (D.same _ _ q) (fun z=>by obtain rfl:y=cu:=z;rw[D.nc]at q;cases q)
 ·subst ev
  rw[D.rest]at hx
  have D1:=D.read k c1 er
  refine⟨_,_,rfl,rfl,_,_,rfl,rfl,(by show(0:Int)<18446744073709551616;decide),_,rfl,w,_,dx,_,rfl,D1.ob,W.cl,W.place,D1.len,?_⟩
  rw[qG]
  refine⟨_,rfl,w,_,dx,_,rfl,af,W.cl,W.zB,D1.len,?_⟩
  rw[bM,tZ]
  have e:((p:Int)+(x:Int))%18446744073709551616=(((p+x)%Rc31.W64:Nat):Int):=by rw[MX.gU];omega
  have D':=D1.put (s':={s with place:=(p+x)%Rc31.W64,placed:=true}) (Nat.mod_lt _ (by decide)) D.ext
  show Q V.de (upd H1 w (.ins C dx (bC (.ref cu) (.ref gr) (.bl s.typed) (.bl true) (.int (((p:Int)+(x:Int))%18446744073709551616)) ext)))
  rw[e]
  refine k1 ({s with place:=(p+x)%Rc31.W64,placed:=true},r) (by unfold jC;rw[hx,hp];rfl) _ ⟨dx,pr,part,i1,D'⟩ ?_
  exact(Kp.step (S:=t8 w cu) Kp.refl k fun _ z=>.inl (.inr z)).step (Kp.upd (S:=At w) (.inl rfl)) fun _ z=>.inl (.inl z)
end
end MI
namespace MI
open PySem L2
section
variable {g:Gm} {a:Ad} {C:Addr}
def Cw (n skip:Nat) (t:Rc31.Told) (s:Rc31.Now):Option Rc31.Now:=if s.typed=true∧s.placed=true then(t5 t n s.place skip).map fun y=>{s with place:=y.2} else none
def abR (a:Ad) (C:Addr):Sp:=fun vs H Q E=>∃(H0:Hp) (w cu gr:Addr) (b:List UInt8) (t:Rc31.Told) (s:Rc31.Now) (rest:List UInt8) (ext:List (Str×V)) (n skip:Nat),vs=[.ref w,.int n,.int skip]∧rf a C H0 H w cu gr b t s rest ext∧Clean ext ∧
 (Cw n skip t s=none→∀H',ax H0 H'→E (.ref a.aE) none H')∧∀s',Cw n skip t s=some s'→∀x H',rf a C H0 H' w cu gr b t s' rest ext→pK a H' x s.place n (MX.aD n skip)→H x=none→Kp (t8 w cu) H H'→Q (.ref x) H'
theorem DB (T:Tx g.K g.mg a) (W:WC g a C):Pr g 6 a.qx ["self","count","between"] (abR a C):=by
 refine Pr.on T.Fx CP fun cF A outer s H vs Q E hr h=>?_
 obtain⟨H0,w,cu,gr,b,t,s,rest,ext,n,skip,rfl,⟨dx,pr,part,i,D⟩,cln,k0,k1⟩:=h
 refine⟨_,ae (az (aB T) au hr (by decide) T.aA (JX (ar (pv 0) rfl) (ub (ar (pv 0) rfl))))
  (ae (aI (i:=3) CP.nd rfl (Or.inl rfl) (aU (SN T) au hr (by decide) T.Mr (aa (ar (pv 0) rfl) (aa (ar (pv 0) rfl) (aa (pv 1) (aa (pv 2) ai))))))
  (ae (aR (cK (pv 0) (lJ T W) W.cl W.Yl au hr (by decide) (aa (aO yp (pv 1) (aO ck (pk T.mm) (pv 2))) ai)))
  (ag (aS (pv 3))))),?_⟩
 refine⟨_,rfl,w,_,dx,_,_,rfl,D.ob,W.cl,W.Cv,B7,_,rfl,?_⟩
 cases ht:s.typed with
 |false=>exact eg ⟨false,rfl,eg (k0 (by unfold Cw;rw[if_neg fun z=>by rw[ht]at z;cases z.1]) _ D.same)⟩
 |true =>
  refine iA ⟨_,rfl,w,_,dx,_,_,rfl,D.ob,W.cl,W.zB,AK,_,rfl,?_⟩
  cases hp:s.placed with
  |false=>exact eg (k0 (by unfold Cw;rw[if_neg fun z=>by rw[hp]at z;cases z.2]) _ D.same)
  |true =>
   have eF:Cw n skip t s=(t5 t n s.place skip).map fun y=>{s with place:=y.2}:=by unfold Cw;rw[if_pos ⟨ht,hp⟩]
   have G:=D.gr.same D.same
   refine iA ⟨_,rfl,w,_,dx,_,_,rfl,D.ob,W.cl,W.ground,xT,_,rfl,w,_,dx,_,_,rfl,D.ob,W.cl,W.place,AL,_,rfl,_,rfl,gr,b,t,s.place,n,skip,rfl,G,D.tg,D.pl,fun hn H1 s1=>k0 (by rw[eF,hn];rfl) _ (D.same.trans s1),fun y hy x H1 hx nx s1=>?_⟩
   obtain⟨h1,h2,h3,h4⟩:=Ny D.pl hy
   have D1:=D.kept s1
   have ahT:(n:Int)≤65536:=by omega
   have lkn:(bC (.ref cu) (.ref gr) (.bl s.typed) (.bl s.placed) (.int (s.place:Int)) ext).lookup ("go_on" : Str)=none:=by
    rw[fz (by decide +kernel) (by decide +kernel) (by decide +kernel) (by decide +kernel) (by decide +kernel)]
    exact cln.aer
   refine⟨_,rfl,w,dx,_,rfl,D1.ob,lkn,_,rfl,_,rfl,_,_,rfl,rfl,_,_,rfl,rfl,.inl ⟨?_,?_⟩,H0,w,cu,gr,b,t,s,rest,ext,n*(8+skip),?_,⟨dx,pr,part,i,D1⟩,(fun z=>by cases z),fun y' hy' H2 W2 k2=>?_⟩
   ·exact Int.lt_of_lt_of_le (by decide) (Int.natCast_nonneg n)
   ·exact Int.lt_of_le_of_lt ahT (by decide)
   ·show[V.ref w,V.int ((n:Int)*((8:Int)+(skip:Int)))]=_
    have e:(n:Int)*((8:Int)+(skip:Int))=((n*(8+skip):Nat):Int):=by
     rw[Int.natCast_mul,Int.natCast_add]
     rfl
    rw[e]
   ·obtain rfl:({s with place:=(s.place+n*(8+skip))%Rc31.W64},rest)=y':=Option.some.inj hy'
    refine⟨_,rfl,k1 _ (by rw[eF,hy];rfl) x H2 (by dsimp only;rw[h4];exact W2) ?_ nx ((Kp.same s1).step k2 fun _ z=>.inl z)⟩
    obtain⟨d,e⟩:=hx
    refine⟨d,k2 _ _ e ?_⟩
    rintro(z|z)
    ·rw[z]at e
     rw[D1.ob]at e
     injection e with e
     injection e with _ _ e
     have:=congrArg List.length e
     simp[bC,xS]at this
    ·obtain⟨d',e'⟩:=D1.cur
     rw[z,e']at e
     injection e with e
     injection e with _ _ e
     have:=congrArg List.length e
     cases this
def vV (s:Rc31.Now) (r:List UInt8):Option (Rc31.Now×List UInt8):=if (r.all fun x=>x==0)=true then some (s,[]) else none
def ahU (a:Ad) (C:Addr):Sp:=fun vs H Q E=>∃(H0:Hp) (w cu gr:Addr) (b:List UInt8) (t:Rc31.Told) (s:Rc31.Now) (rest:List UInt8) (ext:List (Str×V)),vs=[.ref w]∧rf a C H0 H w cu gr b t s rest ext ∧
 (vV s rest=none→∀H',ax H0 H'→E (.ref a.aE) none H')∧∀y,vV s rest=some y→∀H',rf a C H0 H' w cu gr b t y.1 y.2 ext→Kp (t8 w cu) H H'→Q .de H'
theorem xp (T:Tx g.K g.mg a) (W:WC g a C):Pr g 3 a.dY ["self"] (ahU a C):=by
 refine Pr.on T.nW wI fun cF A outer s H vs Q E hr h=>?_
 obtain⟨H0,w,cu,gr,b,t,s,rest,ext,rfl,⟨dx,pr,part,i,D⟩,k0,k1⟩:=h
 refine⟨_,ag (qt tU (JW (jG (a6 (ar (pv 0) rfl) (mn T) T.aL T.jV au hr (by decide)) (fun _=>rfl))) (ag (az (aB T) au hr (by decide) T.aA (aH bZ (a6 (ar (pv 0) rfl) (ir T) T.aL T.fB au hr (by decide)) ak (aC _))))),?_⟩
 refine⟨fun m σ H2=>∃j,σ=[some (.ref w)]∧He a C H0 H2 w cu gr b t s (part.drop j) ext dx pr part j∧Kp (t8 w cu) H H2∧m=part.length-j∧vV s rest=vV s (part.drop j),⟨_,i,rfl,by rw[D.rest];exact D,Kp.refl,rfl,by rw[D.rest]⟩,?_⟩
 rintro m σ H2 ⟨j,rfl,D2,kp,rfl,eF⟩
 obtain⟨cd,pM⟩:=D2.cur
 refine⟨_,rfl,w,_,dx,_,_,rfl,D2.ob,W.cl,W.je,bE,cu,cd,_,rfl,pM,kc,cu,pr,part,j,rfl,⟨cd,pM⟩,D2.row,_,rfl,?_⟩
 by_cases hj:part.length≤j
 ·rw[decide_eq_true hj]
  refine eg (k1 (s,[]) ?_ _ ⟨dx,pr,part,j,?_⟩ kp)
  ·rw[eF,List.drop_of_length_le hj]
   rfl
  ·have:=D2
   rw[List.drop_of_length_le hj]at this
   exact this
 ·rw[decide_eq_false hj]
  refine iA ⟨fun σ' H'=>∃m',m'<part.length-j∧_,fun σ' H' q=>q,?_⟩
  refine⟨_,rfl,w,_,dx,_,_,rfl,D2.ob,W.cl,W.je,bE,cu,cd,_,rfl,pM,d7,cu,pr,part,j,rfl,⟨cd,pM⟩,D2.row,fun hn H3 k3=>?_,fun x r hx v H3 j3 ev c3 lt le er k3=>?_⟩
  ·have:part.drop j≠[]:=fun z=>hj (by have:=congrArg List.length z;simp at this;omega)
   cases hd:part.drop j with
   |nil=>exact absurd hd this
   |cons y ys=>rw[hd]at hn;cases hn
  ·subst ev
   have hdj:part.drop j=x::r:=by
    cases hd:part.drop j with
    |nil=>rw[hd]at hx;cases hx
    |cons y ys=>rw[hd]at hx;cases hx;rfl
   have D3:=D2.read k3 c3 rfl
   have kp3:Kp (t8 w cu) H H3:=kp.step k3 fun _ z=>.inl (.inr z)
   refine⟨rfl,_,rfl,aw (fun c1=>?_) fun c1=>k0 ?_ _ D3.same⟩
   ·have c1:=bo c1
    have Nj:x=0:=UInt8.toNat.inj (by show x.toNat=0;omega)
    refine⟨part.length-j3,by omega,j3,rfl,D3,kp3,rfl,?_⟩
    rw[eF,hdj,er,Nj]
    unfold vV
    rw[List.all_cons]
    simp
   ·rw[eF,hdj]
    unfold vV
    rw[List.all_cons,if_neg]
    intro z
    rw[Bool.and_eq_true]at z
    have:=beq_iff_eq.mp z.1
    exact bq c1 (by rw[this];rfl)
end
end MI
namespace MI
open PySem L2
def jD {α:Type} (step:Nat→Nat→Rc31.Now→α→List UInt8→Option (Rc31.Now×α×List UInt8)):Nat→Rc31.Now→α→List UInt8→Option (Rc31.Now×α)
 |0,_,_,_=>none
 |_+1,s,x,[]=>some (s,x)
 |f+1,s,x,c::r=>if c=0 then(if (r.all fun y=>y==0)=true then some (s,x) else none) else(step (c.toNat/16) (c.toNat%16) s x r).bind fun y=>jD step f y.1 y.2.1 y.2.2
def Wk (a:Ad) (C:Addr) (w cu gr:Addr) (b:List UInt8) (t:Rc31.Told) {α:Type} (J:Hp→Rc31.Now→α→List (Str×V)→Nat→Prop) (H0 H:Hp) (s:Rc31.Now) (x:α) (rest:List UInt8):Prop:=∃ext,rf a C H0 H w cu gr b t s rest ext∧J H s x ext rest.length
section
variable {g:Gm} {a:Ad} {C:Addr} {w cu gr:Addr} {b:List UInt8} {t:Rc31.Told} {α:Type} {J:Hp→Rc31.Now→α→List (Str×V)→Nat→Prop} {H0:Hp}
def PR (a:Ad) (C:Addr) (w cu gr:Addr) (b:List UInt8) (t:Rc31.Told) (J:Hp→Rc31.Now→α→List (Str×V)→Nat→Prop) (H0:Hp) (step:Nat→Nat→Rc31.Now→α→List UInt8→Option (Rc31.Now×α×List UInt8)):Sp:=fun vs H Q E=>∃(op cq:Nat) (s:Rc31.Now) (x:α) (rest:List UInt8) (ext:List (Str×V)),vs=[.ref w,.int op,.int cq]∧rf a C H0 H w cu gr b t s rest ext∧J H s x ext (rest.length+1)∧op<16∧cq<16 ∧
 (step op cq s x rest=none→∀H',ax H0 H'→E (.ref a.aE) none H')∧∀y,step op cq s x rest=some y→∀H',Wk a C w cu gr b t J H0 H' y.1 y.2.1 y.2.2→Q .de H'
def PU (a:Ad) (C:Addr) (w cu gr:Addr) (b:List UInt8) (t:Rc31.Told) (J:Hp→Rc31.Now→α→List (Str×V)→Nat→Prop) (H0:Hp) (step:Nat→Nat→Rc31.Now→α→List UInt8→Option (Rc31.Now×α×List UInt8)):Sp:=fun vs H Q E=>∃(s:Rc31.Now) (x:α) (rest:List UInt8),vs=[.ref w]∧Wk a C w cu gr b t J H0 H s x rest ∧
 (jD step (rest.length+1) s x rest=none→∀H',ax H0 H'→E (.ref a.aE) none H')∧∀y,jD step (rest.length+1) s x rest=some y→∀H',Wk a C w cu gr b t J H0 H' y.1 y.2 []→Q .de H'
theorem lX {k:Nat} {fs:Addr} {step:Nat→Nat→Rc31.Now→α→List UInt8→Option (Rc31.Now×α×List UInt8)} (T:Tx g.K g.mg a) (W:WC g a C) (M:Meth g.K C "take_step" fs) (G:Pr g k fs ["self","what","n"] (PR a C w cu gr b t J H0 step)) (hk:3≤k)
 (cln:∀H s x ext n,J H s x ext n→Clean ext) (hJ:∀H H' s x ext n n',J H s x ext n→Kp (t8 w cu) H H'→n'≤n→J H' s x ext n') (hlen:∀op cq s x r y,step op cq s x r=some y→y.2.2.length≤r.length) :
 Pr g (k+1) a.cx ["self"] (PU a C w cu gr b t J H0 step):=by
 refine Pr.on T.mr lN fun cF A outer s H vs Q E hr h=>?_
 obtain⟨s0,x0,Vy,rfl,W0,k0,k1⟩:=h
 refine⟨_,ag (qt tU (JW (jG (a6 (ar (pv 0) rfl) (mn T) T.aL T.jV au hr (Nat.le_trans (by decide) hk)) (fun _=>rfl))) (ae (aI (i:=1) lN.nd rfl (Or.inl rfl) (a6 (ar (pv 0) rfl) (ir T) T.aL T.fB au hr (Nat.le_trans (by decide) hk)))
  (ag (dk (bG bZ (pv 1) ak (aC _)) (ag (aR (a6 (pv 0) (xp T W) W.cl W.IA au hr hk))) (ag (aR (cK (pv 0) G W.cl M au hr (Nat.le_refl _) (aa (aO JZ (pv 1) ak) (aa (aO jF (pv 1) ak) ai))))))))),?_⟩
 refine⟨fun m σ H2=>∃(s:Rc31.Now) (x:α) (rest:List UInt8) (v:Option V),σ=[some (.ref w),v]∧Wk a C w cu gr b t J H0 H2 s x rest∧rest.length<m∧jD step (Vy.length+1) s0 x0 Vy=jD step m s x rest,⟨_,s0,x0,Vy,none,rfl,W0,Nat.lt_succ_self _,rfl⟩,?_⟩
 rintro m σ H2 ⟨s,x,rest,v,rfl,⟨ext,⟨dx,pr,part,i,D⟩,hj⟩,hm,eF⟩
 obtain⟨cd,pM⟩:=D.cur
 obtain⟨f,rfl⟩:∃f,m=f+1:=⟨m-1,by omega⟩
 refine⟨_,rfl,w,_,dx,_,_,rfl,D.ob,W.cl,W.je,bE,cu,cd,_,rfl,pM,kc,cu,pr,part,i,rfl,⟨cd,pM⟩,D.row,_,rfl,?_⟩
 by_cases hi:part.length≤i
 ·rw[decide_eq_true hi]
  have er:rest=[]:=by rw[←D.rest,List.drop_of_length_le hi]
  subst er
  exact eg (k1 (s,x) (by rw[eF];rfl) _ ⟨ext,⟨dx,pr,part,i,D⟩,hj⟩)
 ·rw[decide_eq_false hi]
  refine iA ⟨fun σ' H'=>∃m',m'<f+1∧_,fun σ' H' q=>q,?_⟩
  refine⟨_,rfl,w,_,dx,_,_,rfl,D.ob,W.cl,W.je,bE,cu,cd,_,rfl,pM,d7,cu,pr,part,i,rfl,⟨cd,pM⟩,D.row,fun hn H3 k3=>?_,fun c r hx v3 H3 j3 ev c3 lt le er k3=>?_⟩
  ·have:part.drop i≠[]:=fun z=>hi (by have:=congrArg List.length z;simp at this;omega)
   cases hd:part.drop i with
   |nil=>exact absurd hd this
   |cons y ys=>rw[hd]at hn;cases hn
  ·subst ev
   have hdj:rest=c::r:=by
    rw[←D.rest]
    cases hd:part.drop i with
    |nil=>rw[hd]at hx;cases hx
    |cons y ys=>rw[hd]at hx;cases hx;rfl
   subst hdj
   have hr:r.length<f:=by simpa using hm
   have D3:=D.read k3 c3 er
   have hj3:J H3 s x ext (r.length+1):=hJ _ _ _ _ _ _ _ hj (Kp.step (S:=t8 w cu) Kp.refl k3 fun _ z=>.inl (.inr z)) (Nat.le_refl _)
   have lkz:(bC (.ref cu) (.ref gr) (.bl s.typed) (.bl s.placed) (.int (s.place:Int)) ext).lookup ("check_zeros" : Str)=none:=by
    rw[fz (by decide +kernel) (by decide +kernel) (by decide +kernel) (by decide +kernel) (by decide +kernel)]
    exact(cln _ _ _ _ _ hj).NA
   have lks:(bC (.ref cu) (.ref gr) (.bl s.typed) (.bl s.placed) (.int (s.place:Int)) ext).lookup ("take_step" : Str)=none:=by
    rw[fz (by decide +kernel) (by decide +kernel) (by decide +kernel) (by decide +kernel) (by decide +kernel)]
    exact(cln _ _ _ _ _ hj).SO
   refine⟨_,rfl,rfl,_,rfl,aw (fun c1=>?_) fun c1=>?_⟩
   ·have c1:=bo c1
    have ZM:c=0:=UInt8.toNat.inj (by show c.toNat=0;omega)
    subst ZM
    have eF2:jD step (f+1) s x (0::r)=if (r.all fun y=>y==0)=true then some (s,x) else none:=by
     unfold jD
     rw[if_pos rfl]
    refine⟨_,rfl,w,dx,_,rfl,D3.ob,lkz,H0,w,cu,gr,b,t,s,r,ext,rfl,⟨dx,pr,part,j3,D3⟩,fun hz H4 s4=>k0 ?_ _ s4,fun y hy H4 W4 k4=>?_⟩
    ·rw[eF,eF2]
     unfold vV at hz
     split at hz
     ·cases hz
     ·rw[if_neg (by assumption)]
    ·unfold vV at hy
     split at hy
     ·rename_i Ml
      cases hy
      refine⟨f,Nat.lt_succ_self _,s,x,[],_,rfl,⟨ext,W4,hJ _ _ _ _ _ _ _ hj3 k4 (Nat.zero_le _)⟩,by simp;omega,?_⟩
      rw[eF,eF2,if_pos Ml]
      cases f with
      |zero=>omega
      |succ f=>rfl
     ·cases hy
   ·have c1:=bq c1
    have ZM:c≠0:=fun z=>c1 (by rw[z];rfl)
    have eF2:jD step (f+1) s x (c::r)=(step (c.toNat/16) (c.toNat%16) s x r).bind fun y=>jD step f y.1 y.2.1 y.2.2:=by
     conv=>lhs;unfold jD
     rw[if_neg ZM]
    have al9:=c.toNat_lt
    refine⟨_,rfl,w,dx,_,rfl,D3.ob,lks,_,rfl,_,_,rfl,rfl,⟨by decide,by decide⟩,_,rfl,_,_,rfl,rfl,(by show(0:Int)<16;decide),c.toNat/16,c.toNat%16,s,x,r,ext,rfl,⟨dx,pr,part,j3,D3⟩,hj3,by omega,by omega,fun hz H4 s4=>k0 (by rw[eF,eF2,hz];rfl) _ s4,fun y hy H4 W4=>?_⟩
    have:=hlen _ _ _ _ _ _ hy
    exact⟨f,Nat.lt_succ_self _,y.1,y.2.1,y.2.2,_,rfl,W4,by omega,by rw[eF,eF2,hy];rfl⟩
end
end MI
namespace MI
open PySem L2
structure Rn where
 p:Nat
 n:Nat
 skip:Nat
abbrev Lv (a:Ad) (H:Hp) (ra:List Addr) (rs:List Rn):Prop:=Paired (fun x r=>pK a H x (r.p:Int) r.n (MX.aD r.n r.skip)) ra rs
section
variable {g:Gm} {a:Ad} {C:Addr}
def PV (a:Ad) (C:Addr):Sp:=fun vs H Q E=>∃(w dx pr gr:Addr),vs=[.ref w,.ref pr,.ref gr]∧H w=some (.ins C dx []) ∧
 ∀cu H',H' w=some (.ins C dx (bC (.ref cu) (.ref gr) (.bl false) (.bl false) (.int 0) []))→oB a.bz H' cu pr 0→H cu=none→Kp (At w) H H'→Q .de H'
theorem Bo (T:Tx g.K g.mg a) (W:WC g a C):Pr g 3 a.wA ["self","part","ground"] (PV a C):=by
 refine Pr.on T.CV Ka fun cF A outer s H vs Q E hr h=>?_
 obtain⟨w,dx,pr,gr,rfl,hw,k⟩:=h
 refine⟨_,ae (aT (pv 0) (kO (oC T) T.nB au hr (by decide) T.Ay (aa (pv 1) (aa ak ai))) rfl)
  (ae (aT (pv 0) (pv 2) rfl)
  (ae (aT (pv 0) EU rfl)
  (ae (aT (pv 0) EU rfl)
  (ag (aT (pv 0) ak rfl))))),?_⟩
 refine⟨_,rfl,fun x d nx nd nex=>⟨x,d,pr,0,rfl,af,fun H1 cu k1=>⟨rfl,?_⟩⟩⟩
 have s1:ax H H1:=ax.tP nx nd k1
 have Tv:=s1 _ _ hw
 obtain⟨d1,hx⟩:=cu
 have nxw:x≠w:=(ao hw nx).symm
 refine⟨_,rfl,w,_,dx,_,rfl,Tv,W.cl,W.je,(by show 0<1000;decide),_,rfl,_,rfl,w,_,dx,_,rfl,af,W.cl,W.ground,pl1,_,rfl,w,_,dx,_,rfl,af,W.cl,W.Cv,pl2,_,rfl,w,_,dx,_,rfl,af,W.cl,W.zB,pl3,_,rfl,w,_,dx,_,rfl,af,W.cl,W.place,pl4,?_⟩
 rw[bM,bM,bM,bM,R0]
 refine k x _ af ⟨d1,by rw[aj nxw];exact hx⟩ nx ((Kp.same s1).step (Kp.upd (S:=At w) (.inl rfl)) fun _ z=>.inl z)
theorem PX (ml:Addr):Clean [("mended",.ref ml)]:=⟨by rw[cY (by decide +kernel)];rfl,by rw[cY (by decide +kernel)];rfl,by rw[cY (by decide +kernel)];rfl,by rw[cY (by decide +kernel)];rfl⟩
def mJ (a:Ad) (ml w cu:Addr) (H0:Hp) (L:Nat):Hp→Rc31.Now→List Rn→Nat→Prop:=fun H _ rs m=>H0 ml=none∧ml≠w∧ml≠cu∧rs.length+m≤L∧L<16000000∧∃ra,H ml=some (.lst (ra.map V.ref))∧Lv a H ra rs∧∀x∈ra,x≠w∧x≠cu
def mJx (a:Ad) (ml w cu:Addr) (H0:Hp) (L:Nat):Hp→Rc31.Now→List Rn→List (Str×V)→Nat→Prop:=fun H s rs ext m=>ext=([("mended",V.ref ml)]:List (Str×V))∧mJ a ml w cu H0 L H s rs m
theorem Bp {ml w cu:Addr} {H0:Hp} {L:Nat}:∀H H' s x n n',mJ a ml w cu H0 L H s x n→Kp (t8 w cu) H H'→n'≤n→mJ a ml w cu H0 L H' s x n':=by
 rintro H H' s x n n' ⟨h1,h2,h3,h4,h5,ra,h6,h7,h8⟩ k hn
 have off:∀{y:Addr},y≠w→y≠cu→¬t8 w cu y:=fun a1 a2 z=>z.elim a1 a2
 refine⟨h1,h2,h3,by omega,h5,ra,k _ _ h6 (off h2 h3),bc h7 fun y hy r ⟨d,e⟩=>⟨d,k _ _ e (off (h8 y hy).1 (h8 y hy).2)⟩,h8⟩
def Hf (n skip:Nat) (t:Rc31.Told) (s:Rc31.Now) (rs:List Rn):Option (Rc31.Now×List Rn):=(Cw n skip t s).map fun s'=>(s',rs++[⟨s.place,n,skip⟩])
def aeu (a:Ad) (ml w cu gr:Addr) (b:List UInt8) (t:Rc31.Told) (H0:Hp) (L:Nat):Sp:=fun vs H Q E=>∃(s:Rc31.Now) (rs:List Rn) (rest:List UInt8) (m n skip:Nat),vs=[.ref w,.int n,.int skip]∧rf a a.a8 H0 H w cu gr b t s rest [("mended",.ref ml)]∧mJ a ml w cu H0 L H s rs (m+1) ∧
 (Hf n skip t s rs=none→∀H',ax H0 H'→E (.ref a.aE) none H')∧∀y,Hf n skip t s rs=some y→∀H',rf a a.a8 H0 H' w cu gr b t y.1 rest [("mended",.ref ml)]→mJ a ml w cu H0 L H' y.1 y.2 m→Q .de H'
theorem fY (T:Tx g.K g.mg a) {ml w cu gr:Addr} {b:List UInt8} {t:Rc31.Told} {H0:Hp} {L:Nat}:Pr g 7 a.iD ["self","count","between"] (aeu a ml w cu gr b t H0 L):=by
 refine Pr.on T.nY wJ fun cF A outer s H vs Q E hr h=>?_
 obtain⟨s,rs,rest,m,n,skip,rfl,Wk0,hj,k0,k1⟩:=h
 obtain⟨dx,pr,part,i,D⟩:=id Wk0
 obtain⟨h1,h2,h3,h4,h5,ra,h6,h7,h8⟩:=id hj
 have W:=wcM T
 refine⟨_,ag (aR (ue PySem.F.plainAttrs_list PySem.F.slot_list_append PySem.F.type_list_append iy (ar (pv 0) rfl) (aa (cK (pv 0) (DB T W) T.cM T.qc au hr (by decide) (aa (pv 1) (aa (pv 2) ai))) ai))),?_⟩
 have lkm:(bC (.ref cu) (.ref gr) (.bl s.typed) (.bl s.placed) (.int (s.place:Int)) [("mended",V.ref ml)]).lookup ("mended" : Str)=some (.ref ml):=by
  rw[fz (by decide +kernel) (by decide +kernel) (by decide +kernel) (by decide +kernel) (by decide +kernel)]
  exact QQ
 have lkr:(bC (.ref cu) (.ref gr) (.bl s.typed) (.bl s.placed) (.int (s.place:Int)) [("mended",V.ref ml)]).lookup ("run" : Str)=none:=by
  rw[fz (by decide +kernel) (by decide +kernel) (by decide +kernel) (by decide +kernel) (by decide +kernel),cY (by decide +kernel)]
  rfl
 refine⟨_,rfl,w,_,dx,_,_,rfl,D.ob,T.cM,T.dM,lkm,.inl ⟨rfl,_,bO.of h6⟩,_,rfl,w,dx,_,rfl,D.ob,lkr,_,rfl,_,rfl,H0,w,cu,gr,b,t,s,rest,_,n,skip,rfl,Wk0,PX ml,fun hn H1 s1=>k0 (by unfold Hf;rw[hn];rfl) _ s1,fun s' hs' x H1 Wk1 hx nx k=>?_⟩
 have hj1:=Bp _ _ _ _ _ _ hj k (Nat.le_refl _)
 obtain⟨_,_,_,_,_,ra1,g6,g7,g8⟩:=hj1
 obtain⟨Ym,pr1,part1,i1,D1⟩:=Wk1
 have nxm:x≠ml:=fun z=>by rw[z,h6]at nx;cases nx
 have nxw:x≠w:=fun z=>by rw[z,D.ob]at nx;cases nx
 have nxc:x≠cu:=fun z=>by obtain⟨d,e⟩:=D.cur;rw[z,e]at nx;cases nx
 refine⟨ml,_,_,rfl,rfl,g6,?_,?_⟩
 ·rw[List.length_map,bu g7]
  exact Nat.lt_of_lt_of_le (show rs.length<16000000 by omega) (by decide)
 refine k1 (s',rs++[⟨s.place,n,skip⟩]) (by unfold Hf;rw[hs'];rfl) _ ⟨Ym,pr1,part1,i1,D1.other h1 h2 h3⟩ ⟨h1,h2,h3,by simp;omega,h5,ra1++[x],by rw[af,List.map_append];rfl,?_,?_⟩
 ·refine gv (bc g7 fun y hy r ⟨d,e⟩=>⟨d,?_⟩) ?_
  ·rw[aj (cQ e g6 (by intro z;cases z))]
   exact e
  ·obtain⟨d,e⟩:=hx
   exact⟨d,by rw[aj nxm];exact e⟩
 ·intro y hy
  rcases List.mem_append.mp hy with z|z
  ·exact g8 y z
  ·obtain rfl:y=x:=by simpa using z
   exact⟨nxw,nxc⟩
end
end MI
namespace MI
open PySem L2
section
variable {g:Gm} {a:Ad} {C:Addr}
def aew {β:Type} (a:Ad) (w:Addr) (H0:Hp) (P:Hp→List UInt8→Prop) (F:Nat→Nat→Option β) (R:Hp→β→List UInt8→Prop):Sp:=fun vs H Q E=>∃(rest:List UInt8) (n skip:Nat),vs=[.ref w,.int n,.int skip]∧P H rest∧(F n skip=none→∀H',ax H0 H'→E (.ref a.aE) none H')∧∀y,F n skip=some y→∀H',R H' y rest→Q .de H'
def Lw {β:Type} (a:Ad) (w:Addr) (H0:Hp) (P:Hp→List UInt8→Prop) (F:Nat→Nat→Option β) (R:Hp→β→List UInt8→Prop):Sp:=fun vs H Q E=>∃(rest:List UInt8),vs=[.ref w]∧P H rest∧(((Rc31.uleb rest).bind fun x=>(Rc31.uleb x.2).bind fun y=>(F x.1 y.1).map fun z=>(z,y.2))=none→∀H',ax H0 H'→E (.ref a.aE) none H') ∧
 ∀y,((Rc31.uleb rest).bind fun x=>(Rc31.uleb x.2).bind fun y=>(F x.1 y.1).map fun z=>(z,y.2))=some y→∀H',R H' y.1 y.2→Q .de H'
theorem kq {β:Type} {w cu gr:Addr} {b:List UInt8} {t:Rc31.Told} {s:Rc31.Now} {ext:List (Str×V)} {H0:Hp} {P:Hp→List UInt8→Prop} {F:Nat→Nat→Option β} {R:Hp→β→List UInt8→Prop} {k:Nat} {f:Addr} (T:Tx g.K g.mg a) (W:WC g a C) (M:Meth g.K C "do_words" f) (G:Pr g k f ["self","count","between"] (aew a w H0 P F R)) (hk:4≤k)
 (cln:Clean ext) (hP:∀H rest,P H rest→rf a C H0 H w cu gr b t s rest ext) (hPk:∀H H' rest Nz,P H rest→rf a C H0 H' w cu gr b t s Nz ext→Kp (t8 w cu) H H'→P H' Nz):Pr g (k+1) a.bT ["self"] (Lw a w H0 P F R):=by
 refine Pr.on T.kD gz fun cF A outer sh H vs Q E hr h=>?_
 obtain⟨rest,rfl,hp,k0,k1⟩:=h
 refine⟨_,ae (aI (i:=1) gz.nd rfl (Or.inl rfl) (a6 (ar (pv 0) rfl) (bj T) T.aL T.bp au hr hk))
  (ae (aI (i:=2) gz.nd rfl (Or.inl rfl) (a6 (ar (pv 0) rfl) (bj T) T.aL T.bp au hr hk))
  (ag (aR (cK (pv 0) G W.cl M au hr (Nat.le_refl _) (aa (pv 1) (aa (pv 2) ai)))))),?_⟩
 obtain⟨dx,pr,part,i,D⟩:=hP _ _ hp
 have gone:∀{H1 H2:Hp},Kp (At cu) H1 H2→ax H0 H1→ax H0 H2:=fun{H1 H2} k s y o q=>k _ _ (s _ _ q) (fun z=>by obtain rfl:y=cu:=z;rw[D.nc]at q;cases q)
 obtain⟨cd,pM⟩:=D.cur
 refine⟨_,rfl,w,_,dx,_,_,rfl,D.ob,W.cl,W.je,bE,cu,cd,_,rfl,pM,aY,cu,pr,part,i,rfl,⟨cd,pM⟩,D.row,fun hn H1 k=>?_,fun x r hx v H1 i1 ev c1 lt le er k=>?_⟩
 ·rw[D.rest]at hn
  exact k0 (by rw[hn];rfl) _ (gone k D.same)
 ·subst ev
  rw[D.rest]at hx
  have D1:=D.read k c1 er
  have xo:Kp (t8 w cu) H H1:=Kp.step (S:=t8 w cu) Kp.refl k fun _ z=>.inl (.inr z)
  obtain⟨cd1,aex⟩:=D1.cur
  refine⟨_,rfl,w,_,dx,_,_,rfl,D1.ob,W.cl,W.je,bE,cu,cd1,_,rfl,aex,aY,cu,pr,part,i1,rfl,⟨cd1,aex⟩,D1.row,fun hn H2 k2=>?_,fun x2 r2 WA v H2 i2 ev c2 lt2 le2 er2 k2=>?_⟩
  ·rw[D1.rest]at hn
   exact k0 (by rw[hx];show(Rc31.uleb r).bind _=none;rw[hn];rfl) _ (gone k2 D1.same)
  ·subst ev
   rw[D1.rest]at WA
   have D2:=D1.read k2 c2 er2
   have kp2:Kp (t8 w cu) H H2:=xo.step k2 fun _ z=>.inl (.inr z)
   have lkd:(bC (.ref cu) (.ref gr) (.bl s.typed) (.bl s.placed) (.int (s.place:Int)) ext).lookup ("do_words" : Str)=none:=by
    rw[fz (by decide +kernel) (by decide +kernel) (by decide +kernel) (by decide +kernel) (by decide +kernel)]
    exact cln.Vx
   have eF:((Rc31.uleb rest).bind fun x=>(Rc31.uleb x.2).bind fun y=>(F x.1 y.1).map fun z=>(z,y.2))=(F x x2).map fun z=>(z,r2):=by
    rw[hx]
    show((Rc31.uleb r).bind fun y=>(F x y.1).map fun z=>(z,y.2))=_
    rw[WA]
    rfl
   refine⟨_,rfl,w,dx,_,rfl,D2.ob,lkd,_,rfl,_,rfl,r2,x,x2,rfl,hPk _ _ _ _ hp ⟨dx,pr,part,i2,D2⟩ kp2,fun hn H3 s3=>k0 (by rw[eF,hn];rfl) _ s3,fun y hy H3 hR=>k1 (y,r2) (by rw[eF,hy];rfl) _ hR⟩
def Yn (a:Ad):Sp:=fun vs H Q E=>∃(w dx pr gr:Addr),vs=[.ref w,.ref pr,.ref gr]∧H w=some (.ins a.a8 dx []) ∧
 ∀cu ml H',H' w=some (.ins a.a8 dx (bC (.ref cu) (.ref gr) (.bl false) (.bl false) (.int 0) [("mended",.ref ml)]))→oB a.bz H' cu pr 0→H' ml=some (.lst [])→H cu=none→H ml=none→ml≠cu→Kp (At w) H H'→Q .de H'
theorem Es (T:Tx g.K g.mg a):Pr g 4 a.rX ["self","part","ground"] (Yn a):=by
 refine Pr.on T.vd DR fun cF A outer s H vs Q E hr h=>?_
 obtain⟨w,dx,pr,gr,rfl,hw,k⟩:=h
 have W:=wcM T
 refine⟨_,ae (aR (Zx T.Kn (Bo T W) au hr (by decide) T.OE (aa (pv 0) (aa (pv 1) (aa (pv 2) ai)))))
  (ag (aT (pv 0) (cv ai) rfl)),?_⟩
 refine⟨_,rfl,_,rfl,_,rfl,w,dx,pr,gr,rfl,hw,fun cu H1 Tv pM Vz k1=>⟨Nat.zero_le _,fun ml LZ=>?_⟩⟩
 have nwm:w≠ml:=ao Tv LZ
 obtain⟨d,hc⟩:=pM
 have ncm:cu≠ml:=ao hc LZ
 have nwc:cu≠w:=fun z=>by rw[z,hw]at Vz;cases Vz
 have Yo:H ml=none:=by
  cases e:H ml with
  |none=>rfl
  |some o=>rw[k1 _ _ e nwm.symm]at LZ;cases LZ
 refine⟨_,rfl,w,_,dx,_,rfl,(by rw[aj nwm];exact Tv),T.cM,T.dM,(by show 5<1000;decide),?_⟩
 have e:aF "mended" (V.ref ml) (bC (.ref cu) (.ref gr) (.bl false) (.bl false) (.int 0) [])=bC (.ref cu) (.ref gr) (.bl false) (.bl false) (.int 0) [("mended",.ref ml)]:=by
  have:=Kt (x0:=V.ref cu) (x1:=V.ref gr) (x2:=V.bl false) (x3:=V.bl false) (x4:=V.int 0) (x5:=V.ref ml)
  rw[this]
  rfl
 rw[e]
 refine k cu ml _ af ⟨d,by rw[aj nwc,aj ncm];exact hc⟩ (by rw[aj nwm.symm];exact af) Vz Yo ncm.symm ?_
 exact(k1.step (Kp.upd (S:=At ml) (.inl rfl)) fun y z=>.inr (by obtain rfl:y=ml:=z;exact Yo)).step (Kp.upd (S:=At w) (.inl rfl)) fun _ z=>.inl z
end
end MI
namespace MI
open PySem L2
def eY (t:Rc31.Told) (op cq:Nat) (s:Rc31.Now) (rs:List Rn) (r:List UInt8):Option (Rc31.Now×List Rn×List UInt8) :=
 if cq=0∨(op=1∨op=2∨op=4∨op=5) then
  if op=1 then(kM cq t s r).map fun y=>(y.1,rs,y.2)
  else if op=2 then(jC cq t s r).map fun y=>(y.1,rs,y.2)
  else if op=3 then(Rc31.uleb r).bind fun x=>(NB x.1 t s x.2).map fun y=>(y.1,rs,y.2)
  else if op=4 then(NB (8*cq) t s r).map fun y=>(y.1,rs,y.2)
  else if op=5 then(Hf cq 0 t s rs).map fun y=>(y.1,y.2,r)
  else if op=6 then(Rc31.uleb r).bind fun x=>(Hf x.1 0 t s rs).map fun y=>(y.1,y.2,x.2)
  else if op=7 then(Rc31.uleb r).bind fun x=>(Hf 1 x.1 t s rs).map fun y=>(y.1,y.2,x.2)
  else if op=8 then((Rc31.uleb r).bind fun x=>(Rc31.uleb x.2).bind fun y=>(Hf x.1 y.1 t s rs).map fun z=>(z,y.2)).map fun z=>(z.1.1,z.1.2,z.2)
  else none
 else none
theorem VA {C:Addr} {E:XK} {te:TE} {U:TS} {D:Ends} {σ:St} {H:Hp} {c:Prop} [Decidable c] (rd:∀Q:VK,Q (.bl (decide c)) H→te σ H Q) (h1:c→U D σ H) (h2:¬c→E (.ref C) none H):adf (TK (E5 (zY C) [] E (CJ te Hj))) U D σ H:=rd _ ⟨_,rfl,aw h1 h2⟩
section
variable {g:Gm} {a:Ad}
theorem Yp {ml cu gr:Addr} {s:Rc31.Now} {m:Str} (h1:¬m = "cursor":=by decide +kernel) (h2:¬m = "ground":=by decide +kernel) (h3:¬m = "kind_told":=by decide +kernel) (h4:¬m = "place_told":=by decide +kernel) (h5:¬m = "place":=by decide +kernel) (h6:¬m = "mended":=by decide +kernel):(bC (.ref cu) (.ref gr) (.bl s.typed) (.bl s.placed) (.int (s.place:Int)) [("mended",V.ref ml)]).lookup m=none:=by
 rw[fz h1 h2 h3 h4 h5,cY h6]
 rfl
theorem vW (T:Tx g.K g.mg a) {ml w cu gr:Addr} {b:List UInt8} {t:Rc31.Told} {H0:Hp} {L:Nat}:Pr g 9 a.jS ["self","what","n"] (PR a a.a8 w cu gr b t (mJx a ml w cu H0 L) H0 (eY t)):=by
 refine Pr.on T.mC uK fun cF A outer sh H vs Q E hr h=>?_
 obtain⟨op,cq,s,rs,rest,ext,rfl,W0,⟨rfl,hj⟩,hop,NC,k0,k1⟩:=h
 have W:=wcM T
 have GA:Pr g 8 a.bT ["self"] (Lw a w H0 (fun H r=>rf a a.a8 H0 H w cu gr b t s r [("mended",.ref ml)]∧mJ a ml w cu H0 L H s rs (rest.length+1)) (fun n skip=>Hf n skip t s rs) fun H' y r=>rf a a.a8 H0 H' w cu gr b t y.1 r [("mended",.ref ml)]∧mJ a ml w cu H0 L H' y.1 y.2 rest.length) :=
  kq (k:=7) (f:=a.iD) T W T.eJ ((fY T (ml:=ml) (w:=w) (cu:=cu) (gr:=gr) (b:=b) (t:=t) (H0:=H0) (L:=L)).imp (by
   rintro vs H Q E ⟨r,n,skip,rfl,⟨p1,p2⟩,q0,q1⟩
   exact⟨s,rs,r,rest.length,n,skip,rfl,p1,p2,q0,fun y hy H' r1 r2=>q1 y hy H' ⟨r1,r2⟩⟩)) (by decide) (PX ml) (fun H r p=>p.1) fun H H' r r' p w1 k=>⟨w1,Bp _ _ _ _ _ _ p.2 k (Nat.le_refl _)⟩
 refine⟨_,ae (az (aB T) au hr (by decide) T.aA (QA (aH bZ (pv 2) ak (aC _)) (ub (aH BD (pv 1) (pkr T.c9) (by with_unfolding_all rfl)))))
  (ag (dk (bG bZ (pv 1) ak (aC _)) (ag (aR (cK (pv 0) (pL T W) T.cM T.ja au hr (by decide) (aa (pv 2) ai)))) (ag (dk (bG bZ (pv 1) ak (aC _)) (ag (aR (cK (pv 0) (tQ T W) T.cM T.jZ au hr (by decide) (aa (pv 2) ai)))) (ag (dk (bG bZ (pv 1) ak (aC _)) (ag (aR (cK (pv 0) (lJ T W) T.cM T.ji au hr (by decide) (aa (a6 (ar (pv 0) rfl) (bj T) T.aL T.bp au hr (by decide)) ai)))) (ag (dk (bG bZ (pv 1) ak (aC _)) (ag (aR (cK (pv 0) (lJ T W) T.cM T.ji au hr (by decide) (aa (aO yp (pk T.mm) (pv 2)) ai)))) (ag (dk (bG bZ (pv 1) ak (aC _)) (ag (aR (cK (pv 0) (fY T (ml:=ml) (w:=w) (cu:=cu) (gr:=gr) (b:=b) (t:=t) (H0:=H0) (L:=L)) T.cM T.eJ au hr (by decide) (aa (pv 2) (aa ak ai))))) (ag (dk (bG bZ (pv 1) ak (aC _)) (ag (aR (cK (pv 0) (fY T (ml:=ml) (w:=w) (cu:=cu) (gr:=gr) (b:=b) (t:=t) (H0:=H0) (L:=L)) T.cM T.eJ au hr (by decide) (aa (a6 (ar (pv 0) rfl) (bj T) T.aL T.bp au hr (by decide)) (aa ak ai))))) (ag (dk (bG bZ (pv 1) ak (aC _)) (ag (aR (cK (pv 0) (fY T (ml:=ml) (w:=w) (cu:=cu) (gr:=gr) (b:=b) (t:=t) (H0:=H0) (L:=L)) T.cM T.eJ au hr (by decide) (aa ak (aa (a6 (ar (pv 0) rfl) (bj T) T.aL T.bp au hr (by decide)) ai))))) (ag (dk (bG bZ (pv 1) ak (aC _)) (ag (aR (a6 (pv 0) GA T.cM T.fG au hr (by decide)))) (ag (nH T.qC rfl rC rfl)))))))))))))))))),?_⟩
 obtain⟨dx,pr,part,i,D⟩:=id W0
 have gone:∀{H1 H2:Hp},Kp (At cu) H1 H2→ax H0 H1→ax H0 H2:=fun{H1 H2} k s y o q=>k _ _ (s _ _ q) (fun z=>by obtain rfl:y=cu:=z;rw[D.nc]at q;cases q)
 obtain⟨cd,pM⟩:=D.cur
 have RF:Uc (V.int (op:Int)) [.int 1,.int 2,.int 4,.int 5]=decide (op=1∨op=2∨op=4∨op=5):=by
  rw[Bool.eq_iff_iff]
  simp[Uc,Ua]
  omega
 refine VA (c:=cq=0∨(op=1∨op=2∨op=4∨op=5)) (fun Q' hq=>?_) (fun hd=>?_) (fun hd=>k0 (by unfold eY;rw[if_neg hd]) _ D.same)
 ·refine⟨_,rfl,rfl,_,rfl,aw (fun c1=>?_) fun c1=>?_⟩
  ·have c1:=bo c1
   rw[decide_eq_true (.inl (by omega))]at hq
   exact hq
  ·have c1:=bq c1
   refine⟨_,rfl,_,_,rfl,.inr (T.j9 _),rfl,rfl,?_⟩
   show Q' (V.bl (Uc (V.int (op:Int)) [.int 1,.int 2,.int 4,.int 5])) H
   rw[RF]
   have e:decide (cq=0∨(op=1∨op=2∨op=4∨op=5))=decide (op=1∨op=2∨op=4∨op=5):=by
    rw[Bool.eq_iff_iff,decide_eq_true_iff,decide_eq_true_iff]
    omega
   rw[←e]
   exact hq
 have eS:eY t op cq s rs rest=(if op=1 then(kM cq t s rest).map fun y=>(y.1,rs,y.2)
  else if op=2 then(jC cq t s rest).map fun y=>(y.1,rs,y.2)
  else if op=3 then(Rc31.uleb rest).bind fun x=>(NB x.1 t s x.2).map fun y=>(y.1,rs,y.2)
  else if op=4 then(NB (8*cq) t s rest).map fun y=>(y.1,rs,y.2)
  else if op=5 then(Hf cq 0 t s rs).map fun y=>(y.1,y.2,rest)
  else if op=6 then(Rc31.uleb rest).bind fun x=>(Hf x.1 0 t s rs).map fun y=>(y.1,y.2,x.2)
  else if op=7 then(Rc31.uleb rest).bind fun x=>(Hf 1 x.1 t s rs).map fun y=>(y.1,y.2,x.2)
  else if op=8 then((Rc31.uleb rest).bind fun x=>(Rc31.uleb x.2).bind fun y=>(Hf x.1 y.1 t s rs).map fun z=>(z,y.2)).map fun z=>(z.1.1,z.1.2,z.2)
  else none):=by
  unfold eY
  rw[if_pos hd]
 have keep:∀{H':Hp} {m:Nat},m≤rest.length+1→Kp (t8 w cu) H H'→∀s',mJ a ml w cu H0 L H' s' rs m:=fun{H' m} hm k s'=>Bp _ _ _ _ _ _ hj k hm
 refine⟨_,rfl,rfl,_,rfl,aw (fun e=>?_) fun e=>?_⟩
 ·have e:op=1:=by have:=bo e;omega
  rw[if_pos e]at eS
  refine⟨_,rfl,w,dx,_,rfl,D.ob,Yp,_,rfl,H0,w,cu,gr,b,t,s,rest,_,cq,rfl,W0,fun hn H1 s1=>k0 (by rw[eS,hn];rfl) _ s1,fun y hy H1 W1 kp=>k1 (y.1,rs,y.2) (by rw[eS,hy];rfl) _ ⟨_,W1,rfl,keep ?_ kp _⟩⟩
  unfold kM at hy
  split at hy
  ·cases hy
   exact Nat.le_succ _
  ·cases hy
 have e1:¬op=1:=by have:=bq e;omega
 rw[if_neg e1]at eS
 refine⟨_,rfl,rfl,_,rfl,aw (fun e=>?_) fun e=>?_⟩
 ·have e:op=2:=by have:=bo e;omega
  rw[if_pos e]at eS
  refine⟨_,rfl,w,dx,_,rfl,D.ob,Yp,_,rfl,H0,w,cu,gr,b,t,s,rest,_,cq,rfl,W0,fun hn H1 s1=>k0 (by rw[eS,hn];rfl) _ s1,fun y hy H1 W1 kp=>k1 (y.1,rs,y.2) (by rw[eS,hy];rfl) _ ⟨_,W1,rfl,keep ?_ kp _⟩⟩
  unfold jC at hy
  obtain⟨x,hx,hy⟩:=Option.bind_eq_some_iff.mp hy
  obtain⟨p,hp,rfl⟩:=Option.map_eq_some_iff.mp hy
  have:=(MX.bf hx).1
  dsimp only
  omega
 have e2:¬op=2:=by have:=bq e;omega
 rw[if_neg e2]at eS
 refine⟨_,rfl,rfl,_,rfl,aw (fun e=>?_) fun e=>?_⟩
 ·have e:op=3:=by have:=bo e;omega
  rw[if_pos e]at eS
  refine⟨_,rfl,w,dx,_,rfl,D.ob,Yp,_,rfl,w,_,dx,_,_,rfl,D.ob,W.cl,W.je,bE,cu,cd,_,rfl,pM,aY,cu,pr,part,i,rfl,⟨cd,pM⟩,D.row,fun hn H1 k=>?_,fun x r hx v H1 i1 ev c1 lt le er k=>?_⟩
  ·rw[D.rest]at hn
   exact k0 (by rw[eS,hn];rfl) _ (gone k D.same)
  ·subst ev
   rw[D.rest]at hx
   have hlen:=(MX.bf hx).1
   have D1:=D.read k c1 er
   have xo:Kp (t8 w cu) H H1:=Kp.step (S:=t8 w cu) Kp.refl k fun _ z=>.inl (.inr z)
   refine⟨H0,w,cu,gr,b,t,s,r,_,x,rfl,⟨dx,pr,part,i1,D1⟩,(fun hn=>by cases hn),fun y hy H2 W2 kp=>k1 (y.1,rs,y.2) (by rw[eS,hx];show Option.map (fun y:Rc31.Now×List UInt8=>(y.1,rs,y.2)) (NB x t s r)=_;rw[hy];rfl) _ ⟨_,W2,rfl,keep ?_ (xo.step kp fun _ z=>.inl z) _⟩⟩
   unfold NB at hy
   cases hy
   dsimp only at *
   omega
 have e3:¬op=3:=by have:=bq e;omega
 rw[if_neg e3]at eS
 refine⟨_,rfl,rfl,_,rfl,aw (fun e=>?_) fun e=>?_⟩
 ·have e:op=4:=by have:=bo e;omega
  rw[if_pos e]at eS
  refine⟨_,rfl,w,dx,_,rfl,D.ob,Yp,_,rfl,_,_,rfl,rfl,.inl ⟨by decide,by decide⟩,H0,w,cu,gr,b,t,s,rest,_,8*cq,?_,W0,(fun hn=>by cases hn),fun y hy H1 W1 kp=>k1 (y.1,rs,y.2) (by rw[eS,hy];rfl) _ ⟨_,W1,rfl,keep ?_ kp _⟩⟩
  ·show[V.ref w,V.int ((8:Int)*(cq:Int))]=_
   rw[show(8:Int)*(cq:Int)=((8*cq:Nat):Int) by omega]
  ·unfold NB at hy
   cases hy
   exact Nat.le_succ _
 have e4:¬op=4:=by have:=bq e;omega
 rw[if_neg e4]at eS
 refine⟨_,rfl,rfl,_,rfl,aw (fun e=>?_) fun e=>?_⟩
 ·have e:op=5:=by have:=bo e;omega
  rw[if_pos e]at eS
  exact⟨_,rfl,w,dx,_,rfl,D.ob,Yp,_,rfl,s,rs,rest,rest.length,cq,0,rfl,W0,hj,fun hn H1 s1=>k0 (by rw[eS,hn];rfl) _ s1,fun y hy H1 W1 j1=>k1 (y.1,y.2,rest) (by rw[eS,hy];rfl) _ ⟨_,W1,rfl,j1⟩⟩
 have e5:¬op=5:=by have:=bq e;omega
 rw[if_neg e5]at eS
 refine⟨_,rfl,rfl,_,rfl,aw (fun e=>?_) fun e=>?_⟩
 ·have e:op=6:=by have:=bo e;omega
  rw[if_pos e]at eS
  refine⟨_,rfl,w,dx,_,rfl,D.ob,Yp,_,rfl,w,_,dx,_,_,rfl,D.ob,W.cl,W.je,bE,cu,cd,_,rfl,pM,aY,cu,pr,part,i,rfl,⟨cd,pM⟩,D.row,fun hn H1 k=>?_,fun x r hx v H1 i1 ev c1 lt le er k=>?_⟩
  ·rw[D.rest]at hn
   exact k0 (by rw[eS,hn];rfl) _ (gone k D.same)
  ·subst ev
   rw[D.rest]at hx
   have hlen:=(MX.bf hx).1
   have D1:=D.read k c1 er
   have xo:Kp (t8 w cu) H H1:=Kp.step (S:=t8 w cu) Kp.refl k fun _ z=>.inl (.inr z)
   have ZN:eY t op cq s rs rest=(Hf x 0 t s rs).map fun y=>(y.1,y.2,r):=by rw[eS,hx];rfl
   exact⟨s,rs,r,r.length,x,0,rfl,⟨dx,pr,part,i1,D1⟩,keep (by dsimp only at hlen;omega) xo s,fun hn H2 s2=>k0 (by rw[ZN,hn];rfl) _ s2,fun y hy H2 W2 j2=>k1 (y.1,y.2,r) (by rw[ZN,hy];rfl) _ ⟨_,W2,rfl,j2⟩⟩
 have e6:¬op=6:=by have:=bq e;omega
 rw[if_neg e6]at eS
 refine⟨_,rfl,rfl,_,rfl,aw (fun e=>?_) fun e=>?_⟩
 ·have e:op=7:=by have:=bo e;omega
  rw[if_pos e]at eS
  refine⟨_,rfl,w,dx,_,rfl,D.ob,Yp,_,rfl,w,_,dx,_,_,rfl,D.ob,W.cl,W.je,bE,cu,cd,_,rfl,pM,aY,cu,pr,part,i,rfl,⟨cd,pM⟩,D.row,fun hn H1 k=>?_,fun x r hx v H1 i1 ev c1 lt le er k=>?_⟩
  ·rw[D.rest]at hn
   exact k0 (by rw[eS,hn];rfl) _ (gone k D.same)
  ·subst ev
   rw[D.rest]at hx
   have hlen:=(MX.bf hx).1
   have D1:=D.read k c1 er
   have xo:Kp (t8 w cu) H H1:=Kp.step (S:=t8 w cu) Kp.refl k fun _ z=>.inl (.inr z)
   have ZN:eY t op cq s rs rest=(Hf 1 x t s rs).map fun y=>(y.1,y.2,r):=by rw[eS,hx];rfl
   exact⟨s,rs,r,r.length,1,x,rfl,⟨dx,pr,part,i1,D1⟩,keep (by dsimp only at hlen;omega) xo s,fun hn H2 s2=>k0 (by rw[ZN,hn];rfl) _ s2,fun y hy H2 W2 j2=>k1 (y.1,y.2,r) (by rw[ZN,hy];rfl) _ ⟨_,W2,rfl,j2⟩⟩
 have e7:¬op=7:=by have:=bq e;omega
 rw[if_neg e7]at eS
 refine⟨_,rfl,rfl,_,rfl,aw (fun e=>?_) fun e=>?_⟩
 ·have e:op=8:=by have:=bo e;omega
  rw[if_pos e]at eS
  refine⟨_,rfl,w,dx,_,rfl,D.ob,Yp,rest,rfl,⟨W0,hj⟩,fun hn H1 s1=>k0 (by rw[eS,hn];rfl) _ s1,fun y hy H1 hR=>k1 (y.1.1,y.1.2,y.2) (by rw[eS,hy];rfl) _ ⟨_,hR.1,rfl,Bp _ _ _ _ _ _ hR.2 Kp.refl ?_⟩⟩
  obtain⟨x,hx,hy⟩:=Option.bind_eq_some_iff.mp hy
  obtain⟨z,hz,hy⟩:=Option.bind_eq_some_iff.mp hy
  obtain⟨q,hq,rfl⟩:=Option.map_eq_some_iff.mp hy
  have h1:=(MX.bf hx).1
  have h2:=(MX.bf hz).1
  dsimp only
  omega
 have e8:¬op=8:=by have:=bq e;omega
 rw[if_neg e8]at eS
 exact k0 eS _ D.same
end
end MI
namespace MI
open PySem L2
theorem JG {t:Rc31.Told}:∀op cq s rs r y,eY t op cq s rs r=some y→y.2.2.length≤r.length:=by
 intro op cq s rs r y h
 unfold eY kM jC NB at h
 repeat' split at h
 all_goals first
  |(cases h;done)
  |(cases h;exact Nat.le_refl _)
  |(obtain⟨z,hz,rfl⟩:=Option.map_eq_some_iff.mp h
    first
     |(cases hz;exact Nat.le_refl _)
     |(obtain⟨x,hx,hz⟩:=Option.bind_eq_some_iff.mp hz
       have h1:=(MX.bf hx).1
       first
        |(obtain⟨p,hp,rfl⟩:=Option.map_eq_some_iff.mp hz
          dsimp only
          omega)
        |(obtain⟨x2,WA,hz⟩:=Option.bind_eq_some_iff.mp hz
          have h2:=(MX.bf WA).1
          obtain⟨p,hp,rfl⟩:=Option.map_eq_some_iff.mp hz
          dsimp only
          omega))
     |exact Nat.le_refl _)
  |(obtain⟨x,hx,h⟩:=Option.bind_eq_some_iff.mp h
    have h1:=(MX.bf hx).1
    obtain⟨z,hz,rfl⟩:=Option.map_eq_some_iff.mp h
    first
     |(cases hz;dsimp only;omega)
     |(dsimp only;omega))
def vX (t:Rc31.Told) (part:List UInt8):Option (List Rn):=(jD (eY t) (part.length+1) {} [] part).map (·.2)
section
variable {g:Gm} {a:Ad}
structure MIx where
 ml:Addr
 w:Addr
 cu:Addr
 gr:Addr
 b:List UInt8
 t:Rc31.Told
 H0:Hp
 L:Nat
theorem Et (T:Tx g.K g.mg a):Pr g 10 a.cx ["self"] (fun vs H Q E=>∃i:MIx,PU a a.a8 i.w i.cu i.gr i.b i.t (mJx a i.ml i.w i.cu i.H0 i.L) i.H0 (eY i.t) vs H Q E) :=
 Pr.ex (ι:=MIx) ⟨0,0,0,0,[],{},fun _=>none,0⟩ fun i=>lX (k:=9) T (wcM T) T.mM (vW T) (by decide) (fun _ _ _ _ _ h=>by rw[h.1];exact PX _) (fun H H' s x ext n n' h k hn=>⟨h.1,Bp _ _ _ _ _ _ h.2 k hn⟩) JG
def PY (a:Ad):Sp:=fun vs H Q E=>∃(pr gr:Addr) (b part:List UInt8) (t:Rc31.Told),vs=[.ref pr,.ref gr]∧H pr=some (.lst (bv part))∧part.length<15000000∧Cu a H gr t∧TG b t∧(vX t part=none→∀H',ax H H'→E (.ref a.aE) none H') ∧
 ∀rs,vX t part=some rs→∀ml ra H',H' ml=some (.lst (ra.map V.ref))→Lv a H' ra rs→rs.length≤part.length→H ml=none→ax H H'→Q (.ref ml) H'
theorem Lx (T:Tx g.K g.mg a):Pr g 11 a.BW ["part","ground"] (PY a):=by
 refine Pr.on T.Dg Af fun cF A outer s H vs Q E hr h=>?_
 obtain⟨pr,gr,b,part,t,rfl,hpr,oI,G,tg,k0,k1⟩:=h
 refine⟨_,ae (aI (i:=2) Af.nd rfl (Or.inl rfl) (kO (Es T) T.sd au hr (by decide) T.Ju (aa (pv 0) (aa (pv 1) ai))))
  (ae (aR (a6 (pv 2) (Et T) T.cM T.gC au hr (by decide)))
  (ag (aS (ar (pv 2) rfl)))),?_⟩
 refine⟨_,rfl,_,rfl,fun w d nw nd ZH=>⟨w,d,pr,gr,rfl,af,fun cu ml H1 Tv pM LZ Vz Yo nmc k=>⟨rfl,?_⟩⟩⟩
 have s1:ax H H1:=ax.tP nw nd k
 have old:∀{x:Addr},upd (upd H d (.own w)) w (.ins a.a8 d []) x=none→H x=none:=fun{x} e=>by
  have h1:x≠w:=fun z=>by rw[z,af]at e;cases e
  rw[aj h1]at e
  have h2:x≠d:=fun z=>by rw[z,af]at e;cases e
  rw[aj h2]at e
  exact e
 have abT:=old Vz
 have aey:=old Yo
 have nmw:ml≠w:=fun z=>by rw[z,af]at Yo;cases Yo
 have D:He a a.a8 H H1 w cu gr b t {} part [("mended",.ref ml)] d pr part 0:=⟨Tv,pM,hpr,rfl,G,tg,s1,nw,abT,by decide,by show 1≤10;decide⟩
 have J:mJ a ml w cu H part.length H1 {} [] part.length:=⟨aey,nmw,nmc,by simp,by omega,[],LZ,.nil,fun x hx=>by cases hx⟩
 refine⟨_,rfl,w,d,_,rfl,Tv,Yp (s:={}),⟨ml,w,cu,gr,b,t,H,part.length⟩,{},[],part,rfl,⟨_,⟨d,pr,part,0,D⟩,rfl,J⟩,fun hn H2 s2=>k0 (by unfold vX;rw[hn];rfl) _ s2,fun y hy H2 W2=>?_⟩
 obtain⟨_,⟨d2,pr2,part2,i2,D2⟩,rfl,⟨_,_,_,hl,_,ra,abU,hra,_⟩⟩:=W2
 refine⟨_,rfl,w,_,d2,_,_,rfl,D2.ob,T.cM,T.dM,?_,k1 y.2 (by unfold vX;rw[hy];rfl) ml ra H2 abU hra (by omega) aey D2.same⟩
 rw[fz (by decide +kernel) (by decide +kernel) (by decide +kernel) (by decide +kernel) (by decide +kernel)]
 exact QQ
end
end MI
namespace MI
open PySem L2
structure Wn where
 r:Rn
 vY:Nat
 name:List UInt8
 plus:Nat
def GO (a:Ad) (libs:List (List UInt8)) (bad:Addr→Prop) (H:Hp) (y:Addr) (u:Wn):Prop:=∃dx xr nl ln,H y=some (.ins a.me dx (sj (.ref xr) (.int (u.vY:Int)) (.ref ln) (.ref nl) (.int (u.plus:Int))))∧pK a H xr (u.r.p:Int) u.r.n (MX.aD u.r.n u.r.skip)∧H nl=some (.lst (bv u.name))∧H ln=some (.lst (bv (libs.getD (u.vY-1) [])))∧¬bad y∧¬bad xr∧¬bad nl∧¬bad ln∧a.new y∧a.new xr∧a.new nl∧a.new ln
theorem GO.keep {a:Ad} {libs:List (List UInt8)} {bad S:Addr→Prop} {H H':Hp} {y:Addr} {u:Wn} (h:GO a libs bad H y u) (k:Kp S H H') (hs:∀z,S z→bad z):GO a libs bad H' y u:=by
 obtain⟨dx,xr,nl,ln,h1,⟨d,h2⟩,h3,h4,n1,n2,n3,n4,w⟩:=h
 exact⟨dx,xr,nl,ln,k _ _ h1 fun z=>n1 (hs _ z),⟨d,k _ _ h2 fun z=>n2 (hs _ z)⟩,k _ _ h3 fun z=>n3 (hs _ z),k _ _ h4 fun z=>n4 (hs _ z),n1,n2,n3,n4,w⟩
def sV (ll:Addr) (vY:Nat) (nl:Addr) (plus:Nat) (wl:Addr):List (Str×V):=[("libraries",.ref ll),("library",.int (vY:Int)),("name",.ref nl),("added",.int (plus:Int)),("wanted",.ref wl)]
theorem fb {x0 x1 x2 x3 x4:V} {ll nl wl:Addr} {vY plus:Nat}:bC x0 x1 x2 x3 x4 (sV ll vY nl plus wl)=d8 x0 x1 x2 x3 x4 (.ref ll) (.int (vY:Int)) (.ref nl) (.int (plus:Int)) (.ref wl):=rfl
abbrev abV (w cu wl:Addr):Addr→Prop:=fun z=>z=w∨z=cu∨z=wl
structure bD (a:Ad) (ll wl w cu:Addr) (H0:Hp) (t:Rc31.Told) (L:Nat) (H:Hp) (s:Rc31.Now) (ws:List Wn) (m:Nat) (nl:Addr):Prop where
 nw0:H0 wl=none
 n1:wl≠w
 n2:wl≠cu
 len:ws.length+m≤L
 big:L<16000000
 libs:∃la:List Addr,H0 ll=some (.lst (la.map V.ref))∧Paired (fun x l=>H0 x=some (.lst (bv l))∧a.new x) la t.libraries
 fresh:∀z,H0 z=none→a.new z
 Yq:a.new nl
 nm:H nl=some (.lst (bv (s.name.getD [])))
 nb:¬abV w cu wl nl
 told:∀x,s.name=some x→x≠[]
 wa:∃wa:List Addr,H wl=some (.lst (wa.map V.ref))∧Paired (GO a t.libraries (abV w cu wl) H) wa ws
def bJ (a:Ad) (ll wl w cu:Addr) (H0:Hp) (t:Rc31.Told) (L:Nat):Hp→Rc31.Now→List Wn→List (Str×V)→Nat→Prop:=fun H s ws ext m=>∃nl,ext=sV ll s.library nl s.plus wl∧bD a ll wl w cu H0 t L H s ws m nl
section
variable {g:Gm} {a:Ad} {ll wl w cu:Addr} {H0:Hp} {t:Rc31.Told} {L:Nat}
theorem bD.keep {H H':Hp} {s:Rc31.Now} {ws:List Wn} {m m':Nat} {nl:Addr} (h:bD a ll wl w cu H0 t L H s ws m nl) (k:Kp (t8 w cu) H H') (hm:m'≤m):bD a ll wl w cu H0 t L H' s ws m' nl:=by
 obtain⟨wa,e,p⟩:=h.wa
 exact⟨h.nw0,h.n1,h.n2,by have:=h.len;omega,h.big,h.libs,h.fresh,h.Yq,k _ _ h.nm fun z=>h.nb (z.elim .inl fun q=>.inr (.inl q)),h.nb,h.told,wa,k _ _ e fun z=>z.elim h.n1 h.n2,bc p fun y _ u q=>q.keep k fun z hz=>hz.elim .inl fun q=>.inr (.inl q)⟩
theorem bD.now {H:Hp} {s s':Rc31.Now} {ws:List Wn} {m:Nat} {nl:Addr} (h:bD a ll wl w cu H0 t L H s ws m nl) (e:s'.name=s.name):bD a ll wl w cu H0 t L H s' ws m nl :=
 ⟨h.nw0,h.n1,h.n2,h.len,h.big,h.libs,h.fresh,h.Yq,by rw[e];exact h.nm,h.nb,fun x hx=>h.told x (by rw[←e];exact hx),h.wa⟩
theorem PZ {vY nl plus:Nat}:Clean (sV ll vY nl plus wl):=by
 have h:∀m:Str,¬m = "libraries"→¬m = "library"→¬m = "name"→¬m = "added"→¬m = "wanted"→(sV ll vY nl plus wl).lookup m=none:=by
  intro m h1 h2 h3 h4 h5
  unfold sV
  rw[cY h1,cY h2,cY h3,cY h4,cY h5]
  rfl
 exact⟨h _ (by decide +kernel) (by decide +kernel) (by decide +kernel) (by decide +kernel) (by decide +kernel),h _ (by decide +kernel) (by decide +kernel) (by decide +kernel) (by decide +kernel) (by decide +kernel),h _ (by decide +kernel) (by decide +kernel) (by decide +kernel) (by decide +kernel) (by decide +kernel),h _ (by decide +kernel) (by decide +kernel) (by decide +kernel) (by decide +kernel) (by decide +kernel)⟩
def P0 (a:Ad):Sp:=fun vs H Q E=>∃(y dx xr nl ln:Addr) (vY plus:Nat),vs=[.ref y,.ref xr,.int vY,.ref ln,.ref nl,.int plus]∧H y=some (.ins a.me dx [])∧∀H',H' y=some (.ins a.me dx (sj (.ref xr) (.int (vY:Int)) (.ref ln) (.ref nl) (.int (plus:Int))))→Kp (At y) H H'→Q .de H'
theorem Ly (T:Tx g.K g.mg a):Pr g 1 a.BQ ["self","run","library","library_name","name","added"] (P0 a):=by
 refine Pr.on T.CW Kb fun cF A outer s H vs Q E hr h=>?_
 obtain⟨y,dx,xr,nl,ln,vY,plus,rfl,hy,k⟩:=h
 refine⟨_,ae (aT (pv 0) (pv 1) rfl) (ae (aT (pv 0) (pv 2) rfl) (ae (aT (pv 0) (pv 3) rfl) (ae (aT (pv 0) (pv 4) rfl) (ag (aT (pv 0) (pv 5) rfl))))),?_⟩
 refine⟨_,rfl,_,rfl,y,_,dx,_,rfl,hy,T.eP,T.bB,(by show 0<1000;decide),_,rfl,_,rfl,y,_,dx,_,rfl,af,T.eP,T.gL,pl1,_,rfl,_,rfl,y,_,dx,_,rfl,af,T.eP,T.dF,pl2,_,rfl,_,rfl,y,_,dx,_,rfl,af,T.eP,T.iE,pl3,_,rfl,_,rfl,y,_,dx,_,rfl,af,T.eP,T.gP,pl4,?_⟩
 rw[bM,bM,bM,bM,R1]
 exact k _ af (Kp.upd (.inl rfl))
def rg (s:Rc31.Now) (r:List UInt8):Option (Rc31.Now×List UInt8):=(Rc31.textIn r).bind fun x=>if x.1.isEmpty=true then none else some ({s with name:=some x.1},x.2)
def Yr (a:Ad) (ll wl w cu gr:Addr) (b:List UInt8) (t:Rc31.Told) (H0:Hp) (L:Nat):Sp:=fun vs H Q E=>∃(s:Rc31.Now) (ws:List Wn) (rest:List UInt8) (ext:List (Str×V)) (m:Nat),vs=[.ref w]∧rf a a.aP H0 H w cu gr b t s rest ext∧bJ a ll wl w cu H0 t L H s ws ext m ∧
 (rg s rest=none→∀H',ax H0 H'→E (.ref a.aE) none H')∧∀y,rg s rest=some y→∀ext' H',rf a a.aP H0 H' w cu gr b t y.1 y.2 ext'→bJ a ll wl w cu H0 t L H' y.1 ws ext' m→Q .de H'
theorem vZ (T:Tx g.K g.mg a) {gr:Addr} {b:List UInt8}:Pr g 4 a.jM ["self"] (Yr a ll wl w cu gr b t H0 L):=by
 refine Pr.on T.mv uF fun cF A outer sh H vs Q E hr h=>?_
 obtain⟨s,ws,rest,ext,m,rfl,⟨dx,pr,part,i,D⟩,⟨nl,rfl,B⟩,k0,k1⟩:=h
 have W:=wcB T
 refine⟨_,ae (aT (pv 0) (a6 (ar (pv 0) rfl) (oE T) T.aL T.lA au hr (by decide)) rfl)
  (ag (az (aB T) au hr (by decide) T.aA (aH IU (aV aJ (by rfl) T.eL PySem.boot_len (aa (ar (pv 0) rfl) ai)) ak (aC _)))),?_⟩
 have gone:∀{H1 H2:Hp},Kp (At cu) H1 H2→ax H0 H1→ax H0 H2:=fun{H1 H2} k s y o q=>k _ _ (s _ _ q) (fun z=>by obtain rfl:y=cu:=z;rw[D.nc]at q;cases q)
 obtain⟨cd,pM⟩:=D.cur
 refine⟨_,rfl,w,_,dx,_,_,rfl,D.ob,W.cl,W.je,bE,cu,cd,_,rfl,pM,kU,cu,pr,part,i,rfl,⟨cd,pM⟩,D.row,fun hn H1 k=>?_,fun x r hx v H1 i1 hv c1 lt le er k=>?_⟩
 ·rw[D.rest]at hn
  exact k0 (by unfold rg;rw[hn];rfl) _ (gone k D.same)
 ·obtain⟨l,rfl,hl,hL⟩:=hv
  rw[D.rest]at hx
  have D1:=D.read k c1 er
  have xo:Kp (t8 w cu) H H1:=Kp.step (S:=t8 w cu) Kp.refl k fun _ z=>.inl (.inr z)
  have B1:=B.keep xo (Nat.le_refl _)
  obtain⟨wa,zI,pw⟩:=id B.wa
  have nlw:l≠w:=fun z=>by rw[z,D.ob]at hl;cases hl
  have Wx:l≠cu:=fun z=>by rw[z,pM]at hl;cases hl
  have Wz:l≠wl:=fun z=>by rw[z,zI]at hl;cases hl
  refine⟨_,rfl,w,_,dx,_,rfl,D1.ob,T.aQ,T.dq,D1.len,?_⟩
  rw[fb,yV]
  have D2:=D1.put (s':={s with name:=some x}) (ext':=sV ll s.library l s.plus wl) D.pl (by show 5≤10;decide)
  generalize hH2:upd H1 w (.ins a.aP dx (bC (.ref cu) (.ref gr) (.bl s.typed) (.bl s.placed) (.int (s.place:Int)) (sV ll s.library l s.plus wl)))=H2 at D2
  have kp2:Kp (t8 w cu) H1 H2:=by rw[←hH2];exact Kp.upd (.inl (.inl rfl))
  have hL2:H2 l=some (.lst (bv x)):=kp2 _ _ hL fun z=>z.elim nlw Wx
  have aeA:=D2.ob
  rw[fb]at hH2 aeA
  rw[hH2]
  refine⟨_,rfl,w,_,dx,_,_,rfl,aeA,T.aQ,T.dq,og,l,_,rfl,.inl (bO.of hL2),_,_,rfl,rfl,_,rfl,aw (fun c2=>?_) fun c2=>k0 ?_ _ D2.same⟩
  ·rw[br]at c2
   have Hc:x≠[]:=fun z=>by rw[z]at c2;simp at c2
   have abW:¬x.isEmpty=true:=fun z=>Hc (List.isEmpty_iff.mp z)
   refine k1 ({s with name:=some x},r) (by unfold rg;rw[hx];show(if x.isEmpty=true then none else some ({s with name:=some x},r))=_;rw[if_neg abW]) _ H2 ⟨dx,pr,part,i1,D2⟩ ⟨l,rfl,?_⟩
   have B2:=B1.keep kp2 (Nat.le_refl _)
   exact⟨B2.nw0,B2.n1,B2.n2,B2.len,B2.big,B2.libs,B2.fresh,B2.fresh l (D.same.free hl),hL2,fun z=>z.elim nlw fun q=>q.elim Wx Wz,fun y hy=>by cases hy;exact Hc,B2.wa⟩
  ·rw[br]at c2
   have abW:x.isEmpty=true:=by
    rw[List.isEmpty_iff]
    cases x with
    |nil=>rfl
    |cons _ _=>exact absurd (by simp) c2
   unfold rg
   rw[hx]
   show(if x.isEmpty=true then none else some ({s with name:=some x},r))=_
   rw[if_pos abW]
end
end MI
namespace MI
open PySem L2
section
variable {g:Gm} {a:Ad} {ll wl w cu:Addr} {H0:Hp} {t:Rc31.Told} {L:Nat}
theorem WB {x0 x1 x2 x3 x4:V} {nl:Addr} {vY plus:Nat} {m:Str} (h1:¬m = "cursor":=by decide +kernel) (h2:¬m = "ground":=by decide +kernel) (h3:¬m = "kind_told":=by decide +kernel) (h4:¬m = "place_told":=by decide +kernel) (h5:¬m = "place":=by decide +kernel)
 (h6:¬m = "libraries":=by decide +kernel) (h7:¬m = "library":=by decide +kernel) (h8:¬m = "name":=by decide +kernel) (h9:¬m = "added":=by decide +kernel) (Vj:¬m = "wanted":=by decide +kernel):(bC x0 x1 x2 x3 x4 (sV ll vY nl plus wl)).lookup m=none:=by
 rw[fz h1 h2 h3 h4 h5]
 unfold sV
 rw[cY h6,cY h7,cY h8,cY h9,cY Vj]
 rfl
def GP (n skip:Nat) (t:Rc31.Told) (s:Rc31.Now) (ws:List Wn):Option (Rc31.Now×List Wn):=if (1≤s.library∧s.library≤t.libraries.length)∧s.name≠none then(Cw n skip t s).map fun s'=>(s',ws++[⟨⟨s.place,n,skip⟩,s.library,s.name.getD [],s.plus⟩]) else none
theorem SQ {n skip:Nat} {s s':Rc31.Now} (h:Cw n skip t s=some s'):s'.name=s.name∧s'.library=s.library∧s'.plus=s.plus:=by
 unfold Cw at h
 split at h
 ·obtain⟨y,hy,rfl⟩:=Option.map_eq_some_iff.mp h
  exact⟨rfl,rfl,rfl⟩
 ·cases h
def aeB (a:Ad) (ll wl w cu gr:Addr) (b:List UInt8) (t:Rc31.Told) (H0:Hp) (L:Nat):Sp:=fun vs H Q E=>∃(s:Rc31.Now) (ws:List Wn) (rest:List UInt8) (ext:List (Str×V)) (m n skip:Nat),vs=[.ref w,.int n,.int skip]∧rf a a.aP H0 H w cu gr b t s rest ext∧bJ a ll wl w cu H0 t L H s ws ext (m+1) ∧
 (GP n skip t s ws=none→∀H',ax H0 H'→E (.ref a.aE) none H')∧∀y,GP n skip t s ws=some y→∀H',rf a a.aP H0 H' w cu gr b t y.1 rest ext→bJ a ll wl w cu H0 t L H' y.1 y.2 ext m→Q .de H'
theorem fZ (T:Tx g.K g.mg a) {gr:Addr} {b:List UInt8}:Pr g 7 a.iC ["self","count","between"] (aeB a ll wl w cu gr b t H0 L):=by
 refine Pr.on T.nX i6 fun cF A outer sh H vs Q E hr h=>?_
 obtain⟨s,ws,rest,ext,m,n,skip,rfl,Wk0,⟨nl,rfl,B⟩,k0,k1⟩:=h
 obtain⟨dx,pr,part,i,D⟩:=id Wk0
 have W:=wcB T
 refine⟨_,ae (az (aB T) au hr (by decide) T.aA (zO iK iK ak (ar (pv 0) rfl) (aV aJ (by rfl) T.eL PySem.boot_len (aa (ar (pv 0) rfl) ai))))
  (ae (az (aB T) au hr (by decide) T.aA (aH IU (aV aJ (by rfl) T.eL PySem.boot_len (aa (ar (pv 0) rfl) ai)) ak (aC _)))
  (ae (aI (i:=3) i6.nd rfl (Or.inl rfl) (cK (pv 0) (DB T W) T.aQ T.qb au hr (by decide) (aa (pv 1) (aa (pv 2) ai))))
  (ae (aI (i:=4) i6.nd rfl (Or.inl rfl) (fL cG (ar (pv 0) rfl) (aO gx (ar (pv 0) rfl) ak) (fun _ _=>rfl)))
  (ag (aR (ue PySem.F.plainAttrs_list PySem.F.slot_list_append PySem.F.type_list_append iy (ar (pv 0) rfl) (aa (kO (Ly T) T.EB au hr (by decide) T.UJ (aa (pv 3) (aa (ar (pv 0) rfl) (aa (pv 4) (aa (ar (pv 0) rfl) (aa (ar (pv 0) rfl) ai)))))) ai))))))),?_⟩
 have fail:¬((1≤s.library∧s.library≤t.libraries.length)∧s.name≠none)→E (.ref a.aE) none H:=fun z=>k0 (by unfold GP;rw[if_neg z]) _ D.same
 have Dob:=D.ob
 rw[fb]at Dob
 obtain⟨la,hla,oI⟩:=B.libs
 have hlen:=bu oI
 have hll:=D.same _ _ hla
 refine⟨_,rfl,w,_,dx,_,_,rfl,Dob,T.aQ,T.bN,kd,_,_,rfl,rfl,_,rfl,aw (fun c1=>?_) fun c1=>⟨false,rfl,eg (fail fun z=>c1 (by have:=z.1.1;omega))⟩⟩
 refine⟨_,rfl,w,_,dx,_,_,rfl,Dob,T.aQ,T.cR,mO,ll,_,rfl,.inl (bO.of hll),_,_,rfl,rfl,_,rfl,aw (fun c2=>?_) fun c2=>fail fun z=>c2 (by rw[List.length_map,hlen];have:=z.1.2;omega)⟩
 rw[List.length_map,hlen]at c2
 refine⟨_,rfl,w,_,dx,_,_,rfl,Dob,T.aQ,T.dq,og,nl,_,rfl,.inl (bO.of B.nm),_,_,rfl,rfl,_,rfl,aw (fun c3=>?_) fun c3=>fail fun z=>c3 ?_⟩
 ·rw[br]at c3
  have hnm:s.name≠none:=fun z=>by rw[z]at c3;simp at c3
  have cD:(1≤s.library∧s.library≤t.libraries.length)∧s.name≠none:=⟨⟨by omega,by omega⟩,hnm⟩
  have eF:GP n skip t s ws=(Cw n skip t s).map fun s'=>(s',ws++[⟨⟨s.place,n,skip⟩,s.library,s.name.getD [],s.plus⟩]):=by unfold GP;rw[if_pos cD]
  refine⟨_,rfl,w,dx,_,rfl,D.ob,WB,_,rfl,_,rfl,H0,w,cu,gr,b,t,s,rest,_,n,skip,rfl,Wk0,PZ,fun hn H1 s1=>k0 (by rw[eF,hn];rfl) _ s1,fun s' hs' x H1 Wk1 hx nx k=>?_⟩
  obtain⟨en,el,ep⟩:=SQ hs'
  have B1:=B.keep k (Nat.le_refl _)
  obtain⟨Ym,pr1,part1,i1,D1⟩:=Wk1
  have P2:=D1.ob
  rw[fb]at P2
  obtain⟨wa,zI,pw⟩:=id B1.wa
  obtain⟨wa0,Ys,pw0⟩:=id B.wa
  have nxw:x≠w:=fun z=>by rw[z,D.ob]at nx;cases nx
  have nxc:x≠cu:=fun z=>by obtain⟨d,e⟩:=D.cur;rw[z,e]at nx;cases nx
  have nxl:x≠wl:=fun z=>by rw[z,Ys]at nx;cases nx
  obtain⟨lj,hlj⟩:∃j:Nat,s.library=j+1:=⟨s.library-1,by omega⟩
  have hjl:lj<la.length:=by omega
  have hlv:la[lj]?=some la[lj]:=List.getElem?_eq_getElem hjl
  generalize la[lj]=ln at hlv
  obtain⟨lx,hlx,Tw,wln⟩:=qZ oI hlv
  have elx:t.libraries.getD (s.library-1) []=lx:=by rw[hlj,Nat.add_sub_cancel,List.getD_eq_getElem?_getD,hlx];rfl
  have nln:¬abV w cu wl ln:=fun z=>z.elim (fun q=>by rw[q,D.nw]at Tw;cases Tw) fun q=>q.elim (fun q=>by rw[q,D.nc]at Tw;cases Tw) fun q=>by rw[q,B.nw0]at Tw;cases Tw
  refine⟨_,rfl,w,_,Ym,_,_,rfl,P2,T.aQ,T.cR,mO,_,rfl,w,_,Ym,_,_,rfl,P2,T.aQ,T.bN,kd,_,_,rfl,rfl,ll,_,_,.ref ln,rfl,rfl,bO.of (D1.same _ _ hla),at_of (j:=lj) (by omega) (by rw[List.getElem?_map,hlv];rfl),?_⟩
  refine⟨_,rfl,w,_,Ym,_,_,rfl,P2,T.aQ,T.dJ,qH,.inl ⟨rfl,_,bO.of zI⟩,_,rfl,_,rfl,w,_,Ym,_,_,rfl,P2,T.aQ,T.bN,kd,_,rfl,_,rfl,w,_,Ym,_,_,rfl,P2,T.aQ,T.dq,og,_,rfl,w,_,Ym,_,_,rfl,P2,T.aQ,T.dZ,DX,fun y d ny nd ZH=>⟨y,d,x,nl,ln,s.library,s.plus,rfl,af,fun H2 hy k2=>⟨rfl,?_⟩⟩⟩
  have s2:ax H1 H2:=ax.tP ny nd k2
  have D2:=D1.kept s2
  have Yt:=s2 _ _ zI
  have nyw:y≠w:=fun z=>by rw[z,D1.ob]at ny;cases ny
  have nyc:y≠cu:=fun z=>by obtain⟨d',e⟩:=D1.cur;rw[z,e]at ny;cases ny
  have nyl:y≠wl:=fun z=>by rw[z,zI]at ny;cases ny
  refine⟨wl,_,_,rfl,rfl,Yt,?_,?_⟩
  ·rw[List.length_map,bu pw]
   exact Nat.lt_of_lt_of_le (show ws.length<16000000 by have:=B.len;have:=B.big;omega) (by decide)
  have B2:bD a ll wl w cu H0 t L H2 s ws (m+1) nl:=B1.keep (Kp.same s2) (Nat.le_refl _)
  obtain⟨wa2,aeD,pw2⟩:=id B2.wa
  have ewa:wa2=wa:=by
   rw[Yt]at aeD
   injection aeD with e
   injection e with e
   have inj:∀l1 l2:List Addr,l1.map V.ref=l2.map V.ref→l1=l2:=by
    intro l1
    induction l1 with
    |nil=>intro l2 h;cases l2 with|nil=>rfl|cons _ _=>simp at h
    |cons p l1 ih =>
     intro l2 h
     cases l2 with
     |nil=>simp at h
     |cons q l2 =>
      simp only[List.map_cons]at h
      injection h with h1 h2
      injection h1 with h1
      rw[h1,ih l2 h2]
   exact(inj _ _ e).symm
  subst ewa
  have kw:Kp (At wl) H2 (upd H2 wl (.lst (wa2.map V.ref++[.ref y]))):=Kp.upd (.inl rfl)
  refine k1 (s',ws++[⟨⟨s.place,n,skip⟩,s.library,s.name.getD [],s.plus⟩]) (by rw[eF,hs'];rfl) _ ⟨Ym,pr1,part1,i1,D2.other B.nw0 B.n1 B.n2⟩ ⟨nl,by rw[el,ep],?_⟩
  refine⟨B.nw0,B.n1,B.n2,by simp;have:=B.len;omega,B.big,B.libs,B.fresh,B.Yq,?_,B.nb,fun z hz=>B.told z (by rw[←en];exact hz),wa2++[y],by rw[af,List.map_append];rfl,?_⟩
  ·rw[en,aj (fun z=>B.nb (.inr (.inr z)))]
   exact B2.nm
  ·refine gv (bc pw2 fun q _ u hu=>hu.keep kw fun z hz=>.inr (.inr hz)) ?_
   obtain⟨rd,SG⟩:=hx.same s2
   refine⟨d,x,nl,ln,?_,⟨rd,?_⟩,?_,?_,fun z=>z.elim nyw fun q=>q.elim nyc nyl,fun z=>z.elim nxw fun q=>q.elim nxc nxl,B.nb,nln,B.fresh y (D1.same.free ny),B.fresh x (D.same.free nx),B.Yq,wln⟩
   ·rw[aj nyl]
    exact hy
   ·rw[aj nxl]
    exact SG
   ·rw[aj (fun z=>B.nb (.inr (.inr z)))]
    exact B2.nm
   ·rw[aj (fun z=>nln (.inr (.inr z))),elx]
    exact D2.same _ _ Tw
 ·rw[br]
  cases hs:s.name with
  |none=>exact absurd hs z.2
  |some x =>
   have:=B.told x hs
   show(0:Int)<(x.length:Nat)
   cases x with
   |nil=>exact absurd rfl this
   |cons _ _=>simp
end
end MI
namespace MI
open PySem L2
def eO (t:Rc31.Told) (op cq:Nat) (s:Rc31.Now) (ws:List Wn) (r:List UInt8):Option (Rc31.Now×List Wn×List UInt8) :=
 if cq=0∨(op=1∨op=5∨op=7∨op=11) then
  if op=1 then some ({s with library:=cq},ws,r)
  else if op=2 then(Rc31.uleb r).map fun x=>({s with library:=x.1},ws,x.2)
  else if op=4 then(rg s r).map fun y=>(y.1,ws,y.2)
  else if op=5 then(kM cq t s r).map fun y=>(y.1,ws,y.2)
  else if op=6 then(Rc31.sleb r).map fun x=>({s with plus:=x.1},ws,x.2)
  else if op=7 then(jC cq t s r).map fun y=>(y.1,ws,y.2)
  else if op=8 then(Rc31.uleb r).bind fun x=>(NB x.1 t s x.2).map fun y=>(y.1,ws,y.2)
  else if op=9 then(GP 1 0 t s ws).map fun y=>(y.1,y.2,r)
  else if op=10 then(Rc31.uleb r).bind fun x=>(GP 1 x.1 t s ws).map fun y=>(y.1,y.2,x.2)
  else if op=11 then(GP 1 (8*cq) t s ws).map fun y=>(y.1,y.2,r)
  else if op=12 then((Rc31.uleb r).bind fun x=>(Rc31.uleb x.2).bind fun y=>(GP x.1 y.1 t s ws).map fun z=>(z,y.2)).map fun z=>(z.1.1,z.1.2,z.2)
  else none
 else none
section
variable {g:Gm} {a:Ad} {ll wl w cu gr:Addr} {b:List UInt8} {H0:Hp} {t:Rc31.Told} {L:Nat}
theorem v8 (T:Tx g.K g.mg a):Pr g 9 a.jN ["self","what","n"] (PR a a.aP w cu gr b t (bJ a ll wl w cu H0 t L) H0 (eO t)):=by
 refine Pr.on T.mw uG fun cF A outer sh H vs Q E hr h=>?_
 obtain⟨op,cq,s,ws,rest,ext,rfl,W0,⟨nl,rfl,B⟩,hop,NC,k0,k1⟩:=h
 have W:=wcB T
 have GA:Pr g 8 a.bT ["self"] (Lw a w H0 (fun H r=>rf a a.aP H0 H w cu gr b t s r (sV ll s.library nl s.plus wl)∧bJ a ll wl w cu H0 t L H s ws (sV ll s.library nl s.plus wl) (rest.length+1)) (fun n skip=>GP n skip t s ws) fun H' y r=>rf a a.aP H0 H' w cu gr b t y.1 r (sV ll s.library nl s.plus wl)∧bJ a ll wl w cu H0 t L H' y.1 y.2 (sV ll s.library nl s.plus wl) rest.length) :=
  kq (k:=7) (f:=a.iC) T W T.eB ((fZ T (ll:=ll) (wl:=wl) (w:=w) (cu:=cu) (gr:=gr) (b:=b) (t:=t) (H0:=H0) (L:=L)).imp (by
   rintro vs H Q E ⟨r,n,skip,rfl,⟨p1,p2⟩,q0,q1⟩
   exact⟨s,ws,r,_,rest.length,n,skip,rfl,p1,p2,q0,fun y hy H' r1 r2=>q1 y hy H' ⟨r1,r2⟩⟩)) (by decide) PZ (fun H r p=>p.1) fun H H' r r' p w1 k=>⟨w1,(by obtain⟨nl',e',B'⟩:=p.2;exact⟨nl',e',B'.keep k (Nat.le_refl _)⟩)⟩
 refine⟨_,ae (az (aB T) au hr (by decide) T.aA (QA (aH bZ (pv 2) ak (aC _)) (ub (aH BD (pv 1) (pkr T.c8) (by with_unfolding_all rfl)))))
  (ag (dk (bG bZ (pv 1) ak (aC _)) (ag (aT (pv 0) (pv 2) rfl)) (ag (dk (bG bZ (pv 1) ak (aC _)) (ag (aT (pv 0) (a6 (ar (pv 0) rfl) (bj T) T.aL T.bp au hr (by decide)) rfl)) (ag (dk (bG bZ (pv 1) ak (aC _)) (ag (aR (a6 (pv 0) (vZ T (ll:=ll) (wl:=wl) (w:=w) (cu:=cu) (gr:=gr) (b:=b) (t:=t) (H0:=H0) (L:=L)) T.aQ T.mG au hr (by decide)))) (ag (dk (bG bZ (pv 1) ak (aC _)) (ag (aR (cK (pv 0) (pL T W) T.aQ T.i8 au hr (by decide) (aa (pv 2) ai)))) (ag (dk (bG bZ (pv 1) ak (aC _)) (ag (aT (pv 0) (a6 (ar (pv 0) rfl) (qY T) T.aL T.jW au hr (by decide)) rfl)) (ag (dk (bG bZ (pv 1) ak (aC _)) (ag (aR (cK (pv 0) (tQ T W) T.aQ T.jY au hr (by decide) (aa (pv 2) ai)))) (ag (dk (bG bZ (pv 1) ak (aC _)) (ag (aR (cK (pv 0) (lJ T W) T.aQ T.mj au hr (by decide) (aa (a6 (ar (pv 0) rfl) (bj T) T.aL T.bp au hr (by decide)) ai)))) (ag (dk (bG bZ (pv 1) ak (aC _)) (ag (aR (cK (pv 0) (fZ T (ll:=ll) (wl:=wl) (w:=w) (cu:=cu) (gr:=gr) (b:=b) (t:=t) (H0:=H0) (L:=L)) T.aQ T.eB au hr (by decide) (aa ak (aa ak ai))))) (ag (dk (bG bZ (pv 1) ak (aC _)) (ag (aR (cK (pv 0) (fZ T (ll:=ll) (wl:=wl) (w:=w) (cu:=cu) (gr:=gr) (b:=b) (t:=t) (H0:=H0) (L:=L)) T.aQ T.eB au hr (by decide) (aa ak (aa (a6 (ar (pv 0) rfl) (bj T) T.aL T.bp au hr (by decide)) ai))))) (ag (dk (bG bZ (pv 1) ak (aC _)) (ag (aR (cK (pv 0) (fZ T (ll:=ll) (wl:=wl) (w:=w) (cu:=cu) (gr:=gr) (b:=b) (t:=t) (H0:=H0) (L:=L)) T.aQ T.eB au hr (by decide) (aa ak (aa (aO yp (pk T.mm) (pv 2)) ai))))) (ag (dk (bG bZ (pv 1) ak (aC _)) (ag (aR (a6 (pv 0) GA T.aQ T.fC au hr (by decide)))) (ag (nH T.qC rfl rC rfl)))))))))))))))))))))))),?_⟩
 obtain⟨dx,pr,part,i,D⟩:=id W0
 have gone:∀{H1 H2:Hp},Kp (At cu) H1 H2→ax H0 H1→ax H0 H2:=fun{H1 H2} k s y o q=>k _ _ (s _ _ q) (fun z=>by obtain rfl:y=cu:=z;rw[D.nc]at q;cases q)
 obtain⟨cd,pM⟩:=D.cur
 have RF:Uc (V.int (op:Int)) [.int 1,.int 5,.int 7,.int 11]=decide (op=1∨op=5∨op=7∨op=11):=by
  rw[Bool.eq_iff_iff]
  simp[Uc,Ua]
  omega
 refine VA (c:=cq=0∨(op=1∨op=5∨op=7∨op=11)) (fun Q' hq=>?_) (fun hd=>?_) (fun hd=>k0 (by unfold eO;rw[if_neg hd]) _ D.same)
 ·refine⟨_,rfl,rfl,_,rfl,aw (fun c1=>?_) fun c1=>?_⟩
  ·have c1:=bo c1
   rw[decide_eq_true (.inl (by omega))]at hq
   exact hq
  ·have c1:=bq c1
   refine⟨_,rfl,_,_,rfl,.inr (T.j8 _),rfl,rfl,?_⟩
   show Q' (V.bl (Uc (V.int (op:Int)) [.int 1,.int 5,.int 7,.int 11])) H
   rw[RF]
   have e:decide (cq=0∨(op=1∨op=5∨op=7∨op=11))=decide (op=1∨op=5∨op=7∨op=11):=by
    rw[Bool.eq_iff_iff,decide_eq_true_iff,decide_eq_true_iff]
    omega
   rw[←e]
   exact hq
 have eS:eO t op cq s ws rest=(
  if op=1 then some ({s with library:=cq},ws,rest)
  else if op=2 then(Rc31.uleb rest).map fun x=>({s with library:=x.1},ws,x.2)
  else if op=4 then(rg s rest).map fun y=>(y.1,ws,y.2)
  else if op=5 then(kM cq t s rest).map fun y=>(y.1,ws,y.2)
  else if op=6 then(Rc31.sleb rest).map fun x=>({s with plus:=x.1},ws,x.2)
  else if op=7 then(jC cq t s rest).map fun y=>(y.1,ws,y.2)
  else if op=8 then(Rc31.uleb rest).bind fun x=>(NB x.1 t s x.2).map fun y=>(y.1,ws,y.2)
  else if op=9 then(GP 1 0 t s ws).map fun y=>(y.1,y.2,rest)
  else if op=10 then(Rc31.uleb rest).bind fun x=>(GP 1 x.1 t s ws).map fun y=>(y.1,y.2,x.2)
  else if op=11 then(GP 1 (8*cq) t s ws).map fun y=>(y.1,y.2,rest)
  else if op=12 then((Rc31.uleb rest).bind fun x=>(Rc31.uleb x.2).bind fun y=>(GP x.1 y.1 t s ws).map fun z=>(z,y.2)).map fun z=>(z.1.1,z.1.2,z.2)
  else none):=by
  unfold eO
  rw[if_pos hd]
 refine⟨_,rfl,rfl,_,rfl,aw (fun e=>?_) fun e=>?_⟩
 ·have e:op=1:=by have:=bo e;omega
  rw[if_pos e]at eS
  refine⟨_,rfl,_,rfl,w,_,dx,_,rfl,D.ob,T.aQ,T.bN,D.len,?_⟩
  rw[fb,kL]
  exact k1 ({s with library:=cq},ws,rest) eS _ ⟨_,⟨dx,pr,part,i,D.put (s':={s with library:=cq}) (ext':=sV ll cq nl s.plus wl) D.pl (by show 5≤10;decide)⟩,nl,rfl,((B.now (s':={s with library:=cq}) rfl).keep (Kp.upd (.inl (.inl rfl))) (Nat.le_succ _))⟩
 have e1:¬op=1:=by have:=bq e;omega
 rw[if_neg e1]at eS
 refine⟨_,rfl,rfl,_,rfl,aw (fun e=>?_) fun e=>?_⟩
 ·have e:op=2:=by have:=bo e;omega
  rw[if_pos e]at eS
  refine⟨_,rfl,w,_,dx,_,_,rfl,D.ob,W.cl,W.je,bE,cu,cd,_,rfl,pM,aY,cu,pr,part,i,rfl,⟨cd,pM⟩,D.row,fun hn H1 k=>?_,fun x r hx v H1 i1 ev c1 lt le er k=>?_⟩
  ·rw[D.rest]at hn
   exact k0 (by rw[eS,hn];rfl) _ (gone k D.same)
  ·subst ev
   rw[D.rest]at hx
   have hlen:=(MX.bf hx).1
   have D1:=D.read k c1 er
   have xo:Kp (t8 w cu) H H1:=Kp.step (S:=t8 w cu) Kp.refl k fun _ z=>.inl (.inr z)
   have B1:bD a ll wl w cu H0 t L H1 s ws (r.length+1) nl:=B.keep xo (by dsimp only at hlen;omega)
   refine⟨_,rfl,w,_,dx,_,rfl,D1.ob,T.aQ,T.bN,D1.len,?_⟩
   rw[fb,kL]
   exact k1 ({s with library:=x},ws,r) (by rw[eS,hx];rfl) _ ⟨_,⟨dx,pr,part,i1,D1.put (s':={s with library:=x}) (ext':=sV ll x nl s.plus wl) D.pl (by show 5≤10;decide)⟩,nl,rfl,((B1.now (s':={s with library:=x}) rfl).keep (Kp.upd (.inl (.inl rfl))) (Nat.le_succ _))⟩
 have e2:¬op=2:=by have:=bq e;omega
 rw[if_neg e2]at eS
 refine⟨_,rfl,rfl,_,rfl,aw (fun e=>?_) fun e=>?_⟩
 ·have e:op=4:=by have:=bo e;omega
  rw[if_pos e]at eS
  refine⟨_,rfl,w,dx,_,rfl,D.ob,WB,s,ws,rest,_,rest.length+1,rfl,W0,⟨nl,rfl,B⟩,fun hn H1 s1=>k0 (by rw[eS,hn];rfl) _ s1,fun y hy ext' H1 W1 j1=>?_⟩
  obtain⟨nl1,ee,B1⟩:=j1
  refine k1 (y.1,ws,y.2) (by rw[eS,hy];rfl) _ ⟨ext',W1,nl1,ee,B1.keep Kp.refl ?_⟩
  unfold rg at hy
  obtain⟨x,hx,hy⟩:=Option.bind_eq_some_iff.mp hy
  split at hy
  ·cases hy
  ·cases hy
   have:=MX.vU hx
   dsimp only
   omega
 have e4:¬op=4:=by have:=bq e;omega
 rw[if_neg e4]at eS
 refine⟨_,rfl,rfl,_,rfl,aw (fun e=>?_) fun e=>?_⟩
 ·have e:op=5:=by have:=bo e;omega
  rw[if_pos e]at eS
  refine⟨_,rfl,w,dx,_,rfl,D.ob,WB,_,rfl,H0,w,cu,gr,b,t,s,rest,_,cq,rfl,W0,fun hn H1 s1=>k0 (by rw[eS,hn];rfl) _ s1,fun y hy H1 W1 kp=>?_⟩
  have hy0:=hy
  unfold kM at hy
  split at hy
  ·cases hy
   exact k1 ({s with typed:=true},ws,rest) (by rw[eS,hy0];rfl) _ ⟨_,W1,nl,rfl,((B.now (s':={s with typed:=true}) rfl).keep kp (Nat.le_succ _))⟩
  ·cases hy
 have e5:¬op=5:=by have:=bq e;omega
 rw[if_neg e5]at eS
 refine⟨_,rfl,rfl,_,rfl,aw (fun e=>?_) fun e=>?_⟩
 ·have e:op=6:=by have:=bo e;omega
  rw[if_pos e]at eS
  refine⟨_,rfl,w,_,dx,_,_,rfl,D.ob,W.cl,W.je,bE,cu,cd,_,rfl,pM,oK,cu,pr,part,i,rfl,⟨cd,pM⟩,D.row,fun hn H1 k=>?_,fun x r hx v H1 i1 ev c1 lt le er k=>?_⟩
  ·rw[D.rest]at hn
   exact k0 (by rw[eS,hn];rfl) _ (gone k D.same)
  ·subst ev
   rw[D.rest]at hx
   have hlen:=MX.GK hx
   have D1:=D.read k c1 er
   have xo:Kp (t8 w cu) H H1:=Kp.step (S:=t8 w cu) Kp.refl k fun _ z=>.inl (.inr z)
   have B1:bD a ll wl w cu H0 t L H1 s ws (r.length+1) nl:=B.keep xo (by dsimp only at hlen;omega)
   refine⟨_,rfl,w,_,dx,_,rfl,D1.ob,T.aQ,T.dZ,D1.len,?_⟩
   rw[fb,wU]
   exact k1 ({s with plus:=x},ws,r) (by rw[eS,hx];rfl) _ ⟨_,⟨dx,pr,part,i1,D1.put (s':={s with plus:=x}) (ext':=sV ll s.library nl x wl) D.pl (by show 5≤10;decide)⟩,nl,rfl,((B1.now (s':={s with plus:=x}) rfl).keep (Kp.upd (.inl (.inl rfl))) (Nat.le_succ _))⟩
 have e6:¬op=6:=by have:=bq e;omega
 rw[if_neg e6]at eS
 refine⟨_,rfl,rfl,_,rfl,aw (fun e=>?_) fun e=>?_⟩
 ·have e:op=7:=by have:=bo e;omega
  rw[if_pos e]at eS
  refine⟨_,rfl,w,dx,_,rfl,D.ob,WB,_,rfl,H0,w,cu,gr,b,t,s,rest,_,cq,rfl,W0,fun hn H1 s1=>k0 (by rw[eS,hn];rfl) _ s1,fun y hy H1 W1 kp=>?_⟩
  have hy0:=hy
  unfold jC at hy
  obtain⟨x,hx,hy⟩:=Option.bind_eq_some_iff.mp hy
  obtain⟨p,hp,rfl⟩:=Option.map_eq_some_iff.mp hy
  have:=(MX.bf hx).1
  exact k1 ({s with place:=(p+x.1)%Rc31.W64,placed:=true},ws,x.2) (by rw[eS,hy0];rfl) _ ⟨_,W1,nl,rfl,((B.now (s':={s with place:=(p+x.1)%Rc31.W64,placed:=true}) rfl).keep kp (by dsimp only;omega))⟩
 have e7:¬op=7:=by have:=bq e;omega
 rw[if_neg e7]at eS
 refine⟨_,rfl,rfl,_,rfl,aw (fun e=>?_) fun e=>?_⟩
 ·have e:op=8:=by have:=bo e;omega
  rw[if_pos e]at eS
  refine⟨_,rfl,w,dx,_,rfl,D.ob,WB,_,rfl,w,_,dx,_,_,rfl,D.ob,W.cl,W.je,bE,cu,cd,_,rfl,pM,aY,cu,pr,part,i,rfl,⟨cd,pM⟩,D.row,fun hn H1 k=>?_,fun x r hx v H1 i1 ev c1 lt le er k=>?_⟩
  ·rw[D.rest]at hn
   exact k0 (by rw[eS,hn];rfl) _ (gone k D.same)
  ·subst ev
   rw[D.rest]at hx
   have hlen:=(MX.bf hx).1
   have D1:=D.read k c1 er
   have xo:Kp (t8 w cu) H H1:=Kp.step (S:=t8 w cu) Kp.refl k fun _ z=>.inl (.inr z)
   have B1:bD a ll wl w cu H0 t L H1 s ws (r.length+1) nl:=B.keep xo (by dsimp only at hlen;omega)
   refine⟨H0,w,cu,gr,b,t,s,r,_,x,rfl,⟨dx,pr,part,i1,D1⟩,(fun hn=>by cases hn),fun y hy H2 W2 kp=>?_⟩
   have hy0:=hy
   unfold NB at hy
   cases hy
   exact k1 ({s with place:=(s.place+x)%Rc31.W64},ws,r) (by rw[eS,hx];rfl) _ ⟨_,W2,nl,rfl,((B1.now (s':={s with place:=(s.place+x)%Rc31.W64}) rfl).keep kp (Nat.le_succ _))⟩
 have e8:¬op=8:=by have:=bq e;omega
 rw[if_neg e8]at eS
 refine⟨_,rfl,rfl,_,rfl,aw (fun e=>?_) fun e=>?_⟩
 ·have e:op=9:=by have:=bo e;omega
  rw[if_pos e]at eS
  exact⟨_,rfl,w,dx,_,rfl,D.ob,WB,s,ws,rest,_,rest.length,1,0,rfl,W0,⟨nl,rfl,B⟩,fun hn H1 s1=>k0 (by rw[eS,hn];rfl) _ s1,fun y hy H1 W1 j1=>k1 (y.1,y.2,rest) (by rw[eS,hy];rfl) _ ⟨_,W1,j1⟩⟩
 have e9:¬op=9:=by have:=bq e;omega
 rw[if_neg e9]at eS
 refine⟨_,rfl,rfl,_,rfl,aw (fun e=>?_) fun e=>?_⟩
 ·have e:op=10:=by have:=bo e;omega
  rw[if_pos e]at eS
  refine⟨_,rfl,w,dx,_,rfl,D.ob,WB,_,rfl,w,_,dx,_,_,rfl,D.ob,W.cl,W.je,bE,cu,cd,_,rfl,pM,aY,cu,pr,part,i,rfl,⟨cd,pM⟩,D.row,fun hn H1 k=>?_,fun x r hx v H1 i1 ev c1 lt le er k=>?_⟩
  ·rw[D.rest]at hn
   exact k0 (by rw[eS,hn];rfl) _ (gone k D.same)
  ·subst ev
   rw[D.rest]at hx
   have hlen:=(MX.bf hx).1
   have D1:=D.read k c1 er
   have xo:Kp (t8 w cu) H H1:=Kp.step (S:=t8 w cu) Kp.refl k fun _ z=>.inl (.inr z)
   have B1:bD a ll wl w cu H0 t L H1 s ws (r.length+1) nl:=B.keep xo (by dsimp only at hlen;omega)
   have ZN:eO t op cq s ws rest=(GP 1 x t s ws).map fun y=>(y.1,y.2,r):=by rw[eS,hx];rfl
   exact⟨s,ws,r,_,r.length,1,x,rfl,⟨dx,pr,part,i1,D1⟩,⟨nl,rfl,B1⟩,fun hn H2 s2=>k0 (by rw[ZN,hn];rfl) _ s2,fun y hy H2 W2 j2=>k1 (y.1,y.2,r) (by rw[ZN,hy];rfl) _ ⟨_,W2,j2⟩⟩
 have e10:¬op=10:=by have:=bq e;omega
 rw[if_neg e10]at eS
 refine⟨_,rfl,rfl,_,rfl,aw (fun e=>?_) fun e=>?_⟩
 ·have e:op=11:=by have:=bo e;omega
  rw[if_pos e]at eS
  refine⟨_,rfl,w,dx,_,rfl,D.ob,WB,_,rfl,_,_,rfl,rfl,.inl ⟨by decide,by decide⟩,s,ws,rest,_,rest.length,1,8*cq,?_,W0,⟨nl,rfl,B⟩,fun hn H1 s1=>k0 (by rw[eS,hn];rfl) _ s1,fun y hy H1 W1 j1=>k1 (y.1,y.2,rest) (by rw[eS,hy];rfl) _ ⟨_,W1,j1⟩⟩
  show[V.ref w,V.int 1,V.int ((8:Int)*(cq:Int))]=_
  rw[show(8:Int)*(cq:Int)=((8*cq:Nat):Int) by omega]
  rfl
 have e11:¬op=11:=by have:=bq e;omega
 rw[if_neg e11]at eS
 refine⟨_,rfl,rfl,_,rfl,aw (fun e=>?_) fun e=>?_⟩
 ·have e:op=12:=by have:=bo e;omega
  rw[if_pos e]at eS
  refine⟨_,rfl,w,dx,_,rfl,D.ob,WB,rest,rfl,⟨W0,nl,rfl,B⟩,fun hn H1 s1=>k0 (by rw[eS,hn];rfl) _ s1,fun y hy H1 hR=>?_⟩
  obtain⟨W1,nl1,ee,B1⟩:=hR
  refine k1 (y.1.1,y.1.2,y.2) (by rw[eS,hy];rfl) _ ⟨_,W1,nl1,ee,B1.keep Kp.refl ?_⟩
  obtain⟨x,hx,hy⟩:=Option.bind_eq_some_iff.mp hy
  obtain⟨z,hz,hy⟩:=Option.bind_eq_some_iff.mp hy
  obtain⟨q,hq,rfl⟩:=Option.map_eq_some_iff.mp hy
  have h1:=(MX.bf hx).1
  have h2:=(MX.bf hz).1
  dsimp only
  omega
 have e12:¬op=12:=by have:=bq e;omega
 rw[if_neg e12]at eS
 exact k0 eS _ D.same
end
end MI
namespace MI
open PySem L2
theorem SR {s:Rc31.Now} {r:List UInt8} {y:Rc31.Now×List UInt8} (h:rg s r=some y):y.2.length≤r.length:=by
 unfold rg at h
 obtain⟨x,hx,h⟩:=Option.bind_eq_some_iff.mp h
 have h1:=MX.vU hx
 split at h
 ·cases h
 ·cases h
  exact Nat.le_of_lt h1
theorem SS {n:Nat} {t:Rc31.Told} {s:Rc31.Now} {r:List UInt8} {y:Rc31.Now×List UInt8} (h:kM n t s r=some y):y.2.length≤r.length:=by
 unfold kM at h
 split at h
 ·cases h
  exact Nat.le_refl _
 ·cases h
theorem SU {n:Nat} {t:Rc31.Told} {s:Rc31.Now} {r:List UInt8} {y:Rc31.Now×List UInt8} (h:jC n t s r=some y):y.2.length≤r.length:=by
 unfold jC at h
 obtain⟨x,hx,h⟩:=Option.bind_eq_some_iff.mp h
 obtain⟨p,hp,rfl⟩:=Option.map_eq_some_iff.mp h
 exact Nat.le_of_lt (MX.bf hx).1
theorem Yu {n:Nat} {t:Rc31.Told} {s:Rc31.Now} {r:List UInt8} {y:Rc31.Now×List UInt8} (h:NB n t s r=some y):y.2.length≤r.length:=by
 unfold NB at h
 cases h
 exact Nat.le_refl _
theorem JH {t:Rc31.Told}:∀op cq s ws r y,eO t op cq s ws r=some y→y.2.2.length≤r.length:=by
 intro op cq s ws r y h
 unfold eO at h
 by_cases hd:cq=0∨(op=1∨op=5∨op=7∨op=11)
 ·rw[if_pos hd]at h
  by_cases e1:op=1
  ·rw[if_pos e1]at h
   cases h;exact Nat.le_refl _
  rw[if_neg e1]at h
  by_cases e2:op=2
  ·rw[if_pos e2]at h
   obtain⟨z,hz,rfl⟩:=Option.map_eq_some_iff.mp h;exact Nat.le_of_lt (MX.bf hz).1
  rw[if_neg e2]at h
  by_cases e4:op=4
  ·rw[if_pos e4]at h
   obtain⟨z,hz,rfl⟩:=Option.map_eq_some_iff.mp h;exact SR hz
  rw[if_neg e4]at h
  by_cases e5:op=5
  ·rw[if_pos e5]at h
   obtain⟨z,hz,rfl⟩:=Option.map_eq_some_iff.mp h;exact SS hz
  rw[if_neg e5]at h
  by_cases e6:op=6
  ·rw[if_pos e6]at h
   obtain⟨z,hz,rfl⟩:=Option.map_eq_some_iff.mp h;exact Nat.le_of_lt (MX.GK hz)
  rw[if_neg e6]at h
  by_cases e7:op=7
  ·rw[if_pos e7]at h
   obtain⟨z,hz,rfl⟩:=Option.map_eq_some_iff.mp h;exact SU hz
  rw[if_neg e7]at h
  by_cases e8:op=8
  ·rw[if_pos e8]at h
   obtain⟨x,hx,h⟩:=Option.bind_eq_some_iff.mp h;obtain⟨z,hz,rfl⟩:=Option.map_eq_some_iff.mp h;exact Nat.le_trans (Yu hz) (Nat.le_of_lt (MX.bf hx).1)
  rw[if_neg e8]at h
  by_cases e9:op=9
  ·rw[if_pos e9]at h
   obtain⟨z,hz,rfl⟩:=Option.map_eq_some_iff.mp h;exact Nat.le_refl _
  rw[if_neg e9]at h
  by_cases e10:op=10
  ·rw[if_pos e10]at h
   obtain⟨x,hx,h⟩:=Option.bind_eq_some_iff.mp h;obtain⟨z,hz,rfl⟩:=Option.map_eq_some_iff.mp h;exact Nat.le_of_lt (MX.bf hx).1
  rw[if_neg e10]at h
  by_cases e11:op=11
  ·rw[if_pos e11]at h
   obtain⟨z,hz,rfl⟩:=Option.map_eq_some_iff.mp h;exact Nat.le_refl _
  rw[if_neg e11]at h
  by_cases e12:op=12
  ·rw[if_pos e12]at h
   obtain⟨z,hz,rfl⟩:=Option.map_eq_some_iff.mp h;obtain⟨x,hx,hz⟩:=Option.bind_eq_some_iff.mp hz;obtain⟨x2,WA,hz⟩:=Option.bind_eq_some_iff.mp hz;obtain⟨p,hp,rfl⟩:=Option.map_eq_some_iff.mp hz;exact Nat.le_of_lt (Nat.lt_trans (MX.bf WA).1 (MX.bf hx).1)
  rw[if_neg e12]at h
  cases h
 ·rw[if_neg hd]at h
  cases h
def v9 (t:Rc31.Told) (part:List UInt8):Option (List Wn):=(jD (eO t) (part.length+1) {} [] part).map (·.2)
section
variable {g:Gm} {a:Ad}
structure BIx where
 ll:Addr
 wl:Addr
 w:Addr
 cu:Addr
 gr:Addr
 b:List UInt8
 t:Rc31.Told
 H0:Hp
 L:Nat
theorem Eu (T:Tx g.K g.mg a):Pr g 10 a.cx ["self"] (fun vs H Q E=>∃i:BIx,PU a a.aP i.w i.cu i.gr i.b i.t (bJ a i.ll i.wl i.w i.cu i.H0 i.t i.L) i.H0 (eO i.t) vs H Q E) :=
 Pr.ex (ι:=BIx) ⟨0,0,0,0,0,[],{},fun _=>none,0⟩ fun i=>lX (k:=9) T (wcB T) T.mH (v8 T) (by decide) (fun _ _ _ _ _ h=>by obtain⟨nl,e,_⟩:=h;rw[e];exact PZ) (fun H H' s x ext n n' h k hn=>by obtain⟨nl,e,B⟩:=h;exact⟨nl,e,B.keep k hn⟩) JH
def Yv (a:Ad):Sp:=fun vs H Q E=>∃(w dx pr gr ll:Addr),vs=[.ref w,.ref pr,.ref gr,.ref ll]∧H w=some (.ins a.aP dx []) ∧
 ∀cu nl wl H',H' w=some (.ins a.aP dx (bC (.ref cu) (.ref gr) (.bl false) (.bl false) (.int 0) (sV ll 0 nl 0 wl)))→oB a.bz H' cu pr 0→H' nl=some (.lst [])→H' wl=some (.lst [])→H cu=none→H nl=none→H wl=none→nl≠wl→Kp (At w) H H'→Q .de H'
theorem Ew (T:Tx g.K g.mg a):Pr g 4 a.rR ["self","part","ground","libraries"] (Yv a):=by
 refine Pr.on T.u1 DO fun cF A outer s H vs Q E hr h=>?_
 obtain⟨w,dx,pr,gr,ll,rfl,hw,k⟩:=h
 have W:=wcB T
 refine⟨_,ae (aR (Zx T.Kn (Bo T W) au hr (by decide) T.OE (aa (pv 0) (aa (pv 1) (aa (pv 2) ai)))))
  (ae (aT (pv 0) (pv 3) rfl)
  (ae (aT (pv 0) ak rfl)
  (ae (aT (pv 0) (cv ai) rfl)
  (ae (aT (pv 0) ak rfl)
  (ag (aT (pv 0) (cv ai) rfl)))))),?_⟩
 refine⟨_,rfl,_,rfl,_,rfl,w,dx,pr,gr,rfl,hw,fun cu H1 Tv pM Vz k1=>?_⟩
 obtain⟨d,hc⟩:=pM
 have ncw:cu≠w:=fun z=>by rw[z,hw]at Vz;cases Vz
 refine⟨_,rfl,_,rfl,w,_,dx,_,rfl,Tv,T.aQ,T.cR,(by show 5<1000;decide),_,rfl,w,_,dx,_,rfl,af,T.aQ,T.bN,?_,Nat.zero_le _,fun nl Yw=>?_⟩
 ·exact Nat.lt_of_le_of_lt (bh _ _ _) (by show 5+1<1000;decide)
 rw[bM]at Yw ⊢
 have ZO:w≠nl:=ao af Yw
 have abY:H1 nl=none:=by rw[aj ZO.symm]at Yw;exact Yw
 refine⟨_,rfl,w,_,dx,_,rfl,(by rw[aj ZO];exact af),T.aQ,T.dq,?_,_,rfl,w,_,dx,_,rfl,af,T.aQ,T.dZ,?_,Nat.zero_le _,fun wl zI=>?_⟩
 ·exact Nat.lt_of_le_of_lt (bh _ _ _) (Nat.lt_of_le_of_lt (Nat.succ_le_succ (bh _ _ _)) (by show 5+1+1<1000;decide))
 ·exact Nat.lt_of_le_of_lt (bh _ _ _) (Nat.lt_of_le_of_lt (Nat.succ_le_succ (bh _ _ _)) (Nat.lt_of_le_of_lt (Nat.succ_le_succ (Nat.succ_le_succ (bh _ _ _))) (by show 5+1+1+1<1000;decide)))
 rw[bM]at zI ⊢
 have nww:w≠wl:=ao af zI
 have nnn:nl≠wl:=fun z=>by
  rw[←z,aj ZO.symm,af]at zI
  cases zI
 have ab0:H1 wl=none:=by rw[aj nww.symm,aj nnn.symm,aj nww.symm]at zI;exact zI
 refine⟨_,rfl,w,_,dx,_,rfl,(by rw[aj nww];exact af),T.aQ,T.dJ,?_,?_⟩
 ·exact Nat.lt_of_le_of_lt (bh _ _ _) (Nat.lt_of_le_of_lt (Nat.succ_le_succ (bh _ _ _)) (Nat.lt_of_le_of_lt (Nat.succ_le_succ (Nat.succ_le_succ (bh _ _ _))) (Nat.lt_of_le_of_lt (Nat.succ_le_succ (Nat.succ_le_succ (Nat.succ_le_succ (bh _ _ _)))) (by show 5+1+1+1+1<1000;decide))))
 have e:aF "wanted" (V.ref wl) (aF "added" (V.int 0) (aF "name" (V.ref nl) (aF "library" (V.int 0) (aF "libraries" (V.ref ll) (bC (.ref cu) (.ref gr) (.bl false) (.bl false) (.int 0) [])))))=bC (.ref cu) (.ref gr) (.bl false) (.bl false) (.int 0) (sV ll 0 nl 0 wl):=by
  have:=Kr (x0:=V.ref cu) (x1:=V.ref gr) (x2:=V.bl false) (x3:=V.bl false) (x4:=V.int 0) (x5:=V.ref ll) (x6:=V.int 0) (x7:=V.ref nl) (x8:=V.int 0) (x9:=V.ref wl)
  rw[this]
  rfl
 rw[e]
 have back:∀{x:Addr},x≠w→H1 x=none→H x=none:=fun{x} n e=>by
  cases q:H x with
  |none=>rfl
  |some o=>rw[k1 _ _ q n]at e;cases e
 have ncn:cu≠nl:=ao hc abY
 have ncl:cu≠wl:=ao hc ab0
 refine k cu nl wl _ af ⟨d,by rw[aj ncw,aj ncl,aj ncw,aj ncn,aj ncw];exact hc⟩ (by rw[aj ZO.symm,aj nnn,aj ZO.symm];exact af) (by rw[aj nww.symm];exact af) Vz (back ZO.symm abY) (back nww.symm ab0) nnn ?_
 intro y o q n
 have hy:=k1 _ _ q n
 rw[aj n,aj (ao hy ab0),aj n,aj (ao hy abY),aj n]
 exact hy
def P5 (a:Ad):Sp:=fun vs H Q E=>∃(pr gr ll:Addr) (la:List Addr) (b part:List UInt8) (t:Rc31.Told),vs=[.ref pr,.ref gr,.ref ll]∧H pr=some (.lst (bv part))∧part.length<15000000∧H ll=some (.lst (la.map V.ref))∧Paired (fun x l=>H x=some (.lst (bv l))∧a.new x) la t.libraries∧(∀z,H z=none→a.new z)∧Cu a H gr t∧TG b t∧(v9 t part=none→∀H',ax H H'→E (.ref a.aE) none H') ∧
 ∀ws,v9 t part=some ws→∀wl wa bad H',H' wl=some (.lst (wa.map V.ref))→Paired (GO a t.libraries bad H') wa ws→ws.length≤part.length→H wl=none→ax H H'→Q (.ref wl) H'
theorem Lz (T:Tx g.K g.mg a):Pr g 11 a.BR ["part","ground","libraries"] (P5 a):=by
 refine Pr.on T.CY Ab fun cF A outer s H vs Q E hr h=>?_
 obtain⟨pr,gr,ll,la,b,part,t,rfl,hpr,oI,hll,hla,DJ,G,tg,k0,k1⟩:=h
 refine⟨_,ae (aI (i:=3) Ab.nd rfl (Or.inl rfl) (kO (Ew T) T.r6 au hr (by decide) T.Js (aa (pv 0) (aa (pv 1) (aa (pv 2) ai)))))
  (ae (aR (a6 (pv 3) (Eu T) T.aQ T.gB au hr (by decide)))
  (ag (aS (ar (pv 3) rfl)))),?_⟩
 refine⟨_,rfl,_,rfl,_,rfl,fun w d nw nd ZH=>⟨w,d,pr,gr,ll,rfl,af,fun cu nl wl H1 Tv pM Yw zI Vz nnl nwl nnn k=>⟨rfl,?_⟩⟩⟩
 have s1:ax H H1:=ax.tP nw nd k
 have old:∀{x:Addr},upd (upd H d (.own w)) w (.ins a.aP d []) x=none→H x=none:=fun{x} e=>by
  have h1:x≠w:=fun z=>by rw[z,af]at e;cases e
  rw[aj h1]at e
  have h2:x≠d:=fun z=>by rw[z,af]at e;cases e
  rw[aj h2]at e
  exact e
 have abT:=old Vz
 have aeI:=old nwl
 have nww:wl≠w:=fun z=>by rw[z,af]at nwl;cases nwl
 have ZO:nl≠w:=fun z=>by rw[z,af]at nnl;cases nnl
 obtain⟨cd,hc⟩:=id pM
 have nwc:wl≠cu:=cQ zI hc (by intro z;cases z)
 have nnc:nl≠cu:=cQ Yw hc (by intro z;cases z)
 have D:He a a.aP H H1 w cu gr b t {} part (sV ll 0 nl 0 wl) d pr part 0:=⟨Tv,pM,hpr,rfl,G,tg,s1,nw,abT,by decide,by show 5≤10;decide⟩
 have B:bD a ll wl w cu H t part.length H1 {} [] part.length nl:=⟨aeI,nww,nwc,by simp,by omega,⟨la,hll,hla⟩,DJ,DJ nl (old nnl),Yw,(fun z=>z.elim ZO fun q=>q.elim nnc nnn),(fun x hx=>by cases hx),⟨[],zI,.nil⟩⟩
 refine⟨_,rfl,w,d,_,rfl,Tv,WB,⟨ll,wl,w,cu,gr,b,t,H,part.length⟩,{},[],part,rfl,⟨_,⟨d,pr,part,0,D⟩,nl,rfl,B⟩,fun hn H2 s2=>k0 (by unfold v9;rw[hn];rfl) _ s2,fun y hy H2 W2=>?_⟩
 obtain⟨_,⟨d2,pr2,part2,i2,D2⟩,nl2,rfl,B2⟩:=W2
 obtain⟨wa,Yt,pw⟩:=B2.wa
 have Dob:=D2.ob
 rw[fb]at Dob
 exact⟨_,rfl,w,_,d2,_,_,rfl,Dob,T.aQ,T.dJ,qH,k1 y.2 (by unfold v9;rw[hy];rfl) wl wa _ H2 Yt pw (by have:=B2.len;omega) aeI D2.same⟩
end
end MI
namespace MX
open Rc31
def jE:Nat→Bytes→Bytes→Option (List (Nat×Bytes))
 |0,_,_=>some []
 |k+1,pre,r=>(textIn r).bind fun s=>if s.1.isEmpty=true∨255<pre.length+s.1.length then none else(uleb s.2).bind fun x=>(jE k pre x.2).map fun l=>(x.1,pre++s.1)::l
def fN (size:Nat) (pre:Bytes) (x:Nat×Bytes):Option (List (Bytes×Nat)) :=
 if x.1=0 then some [] else if x.2.length<x.1 then none else(uleb (x.2.take x.1)).bind fun y=>(uleb y.2).bind fun z=>if y.1=0∧z.1<size∧z.2.isEmpty=true∧pre.isEmpty=false then some [(pre,z.1)] else none
def kr (e:Bytes) (size i:Nat) (pre:Bytes):Option (List (Bytes×Nat)×List (Nat×Bytes)) :=
 if e.length≤i then none else(uleb (e.drop i)).bind fun x=>(fN size pre x).bind fun h=>match x.2.drop x.1 with
  | []=>none
  |n::r=>(jE n.toNat pre r).map fun l=>(h,l)
inductive cP (e:Bytes) (size:Nat):List (Nat×Bytes)→List (Bytes×Nat)→List Nat→Prop
 |nil:cP e size [] [] []
 |cons {i:Nat} {pre:Bytes} {h:List (Bytes×Nat)} {kids rest:List (Nat×Bytes)} {gk gr:List (Bytes×Nat)} {nk nr:List Nat} :
  kr e size i pre=some (h,kids)→cP e size kids gk nk→cP e size rest gr nr→cP e size ((i,pre)::rest) (h++(gk++gr)) (i::(nk++nr))
theorem cP.append {e:Bytes} {size:Nat} {a b:List (Nat×Bytes)} {ga gb:List (Bytes×Nat)} {na nb:List Nat} (A:cP e size a ga na) (B:cP e size b gb nb):cP e size (a++b) (ga++gb) (na++nb):=by
 induction A with
 |nil=>exact B
 |cons h k r _ ihr =>
  have:=cP.cons h k ihr
  simpa [List.append_assoc] using this
theorem cP.split {e:Bytes} {size:Nat} {b:List (Nat×Bytes)}:∀{a:List (Nat×Bytes)} {g:List (Bytes×Nat)} {n:List Nat},cP e size (a++b) g n→∃ga gb na nb,cP e size a ga na∧cP e size b gb nb∧g=ga++gb∧n=na++nb
 | [],g,n,h=>⟨[],g,[],n,.nil,h,rfl,rfl⟩
 |(i,pre)::a,g,n,h=>by
  cases h with
  |cons h k r =>
   obtain⟨ga,gb,na,nb,h1,h2,rfl,rfl⟩:=cP.split r
   exact⟨_,gb,_,nb,.cons h k h1,h2,by simp[List.append_assoc],by simp[List.append_assoc]⟩
theorem Bq (e:Bytes) (size:Nat):∀f:Nat,(∀(i:Nat) (pre:Bytes) (l:List (Bytes×Nat)×List Nat),names e size f i pre=some l→cP e size [(i,pre)] l.1 l.2) ∧
 (∀(k:Nat) (pre r:Bytes) (l:List (Bytes×Nat)×List Nat),children e size f k pre r=some l→∃kids,jE k pre r=some kids∧cP e size kids l.1 l.2)
 |0=>⟨fun i pre l h=>by simp[names]at h,fun k pre r l h=>by simp[children]at h⟩
 |f+1=>by
  obtain⟨ihn,ihc⟩:=Bq e size f
  refine⟨fun i pre l h=>?_,fun k pre r l h=>?_⟩
  ·rw[names]at h
   by_cases hl:e.length≤i
   ·simp[hl]at h
   ·rw[if_neg hl]at h
    obtain⟨x,hx,h⟩:=Option.bind_eq_some_iff.mp h
    obtain⟨hh,hhe,h⟩:=Option.bind_eq_some_iff.mp h
    cases hd:x.2.drop x.1 with
    |nil=>rw[hd]at h;simp at h
    |cons n r =>
     rw[hd]at h
     simp only[Option.map_eq_some_iff]at h
     obtain⟨c,hc,rfl⟩:=h
     obtain⟨kids,hk,F⟩:=ihc _ _ _ _ hc
     have hn:kr e size i pre=some (hh,kids):=by
      unfold kr
      rw[if_neg hl,hx]
      simp only[Option.bind_some]
      have:fN size pre x=some hh:=hhe
      rw[this]
      simp only[Option.bind_some]
      rw[hd]
      simp only[hk,Option.map_some]
     have:=cP.cons hn F cP.nil
     simpa using this
  ·cases k with
   |zero=>rw[children]at h;cases h;exact⟨[],rfl,.nil⟩
   |succ k =>
    rw[children]at h
    obtain⟨s,hs,h⟩:=Option.bind_eq_some_iff.mp h
    by_cases hb:s.1.isEmpty=true∨255<pre.length+s.1.length
    ·rw[if_pos hb]at h;cases h
    ·rw[if_neg hb]at h
     obtain⟨x,hx,h⟩:=Option.bind_eq_some_iff.mp h
     obtain⟨l1,h1,h⟩:=Option.bind_eq_some_iff.mp h
     obtain⟨m,hm,rfl⟩:=Option.map_eq_some_iff.mp h
     obtain⟨kids,hk,F⟩:=ihc _ _ _ _ hm
     refine⟨(x.1,pre++s.1)::kids,?_,?_⟩
     ·unfold jE
      rw[hs];simp only[Option.bind_some]
      rw[if_neg hb,hx];simp only[Option.bind_some]
      rw[hk];rfl
     ·have F1:=ihn _ _ _ h1
      exact F1.append F
theorem rh:∀{k:Nat} {pre r:Bytes} {kids:List (Nat×Bytes)},jE k pre r=some kids→kids.length=k∧∀x∈kids,pre.length<x.2.length∧x.2.length≤255
 |0,_,_,kids,h=>by cases h;exact⟨rfl,fun _ h=>nomatch h⟩
 |k+1,pre,r,kids,h=>by
  unfold jE at h
  obtain⟨s,hs,h⟩:=Option.bind_eq_some_iff.mp h
  by_cases hb:s.1.isEmpty=true∨255<pre.length+s.1.length
  ·rw[if_pos hb]at h;cases h
  ·rw[if_neg hb]at h
   obtain⟨x,hx,h⟩:=Option.bind_eq_some_iff.mp h
   obtain⟨m,hm,rfl⟩:=Option.map_eq_some_iff.mp h
   obtain⟨e1,e2⟩:=rh hm
   refine⟨by simp[e1],fun y hy=>?_⟩
   cases hy with
   |head =>
    have:s.1≠[]:=fun q=>hb (.inl (by rw[q];rfl))
    have:0<s.1.length:=List.length_pos_iff.mpr this
    simp only[List.length_append]
    omega
   |tail _ hy=>exact e2 y hy
theorem zC {e:Bytes} {size i:Nat} {pre:Bytes} {h:List (Bytes×Nat)} {kids:List (Nat×Bytes)} (q:kr e size i pre=some (h,kids)):i<e.length∧kids.length≤255∧∀x∈kids,pre.length<x.2.length∧x.2.length≤255:=by
 unfold kr at q
 by_cases hl:e.length≤i
 ·rw[if_pos hl]at q;cases q
 ·rw[if_neg hl]at q
  obtain⟨x,hx,q⟩:=Option.bind_eq_some_iff.mp q
  obtain⟨hh,hhe,q⟩:=Option.bind_eq_some_iff.mp q
  cases hd:x.2.drop x.1 with
  |nil=>rw[hd]at q;cases q
  |cons n r =>
   rw[hd]at q
   obtain⟨c,hc,q⟩:=Option.map_eq_some_iff.mp q
   cases q
   obtain⟨e1,e2⟩:=rh hc
   refine⟨by omega,?_,e2⟩
   rw[e1]
   have:=n.toNat_lt
   omega
theorem LA {e:Bytes} {size:Nat} {L:List (Nat×Bytes)} {g:List (Bytes×Nat)} {ns:List Nat} (F:cP e size L g ns) :
 (∀(i:Nat) (pre:Bytes),L=[(i,pre)]→pre.length≤255→∀f,257*(255-pre.length)+2≤f→names e size f i pre=some (g,ns)) ∧
 (∀(k:Nat) (pre r:Bytes),jE k pre r=some L→pre.length≤255→k≤255→∀f,257*(255-pre.length)+1≤f+(255-k)→k+1≤f→children e size f k pre r=some (g,ns)):=by
 induction F with
 |nil =>
  refine⟨fun i pre h=>(nomatch h),fun k pre r hk hp hk2 f hf hkf=>?_⟩
  have:=(rh hk).1
  simp at this
  subst this
  obtain⟨f,rfl⟩:∃f',f=f'+1:=⟨f-1,by omega⟩
  simp[children]
 |@cons i pre h kids rest gk gr nk nr hn Fk Fr ihk ihr =>
  have one:∀f,pre.length≤255→257*(255-pre.length)+2≤f→names e size f i pre=some (h++gk,i::nk):=by
   intro f hp hf
   obtain⟨f,rfl⟩:∃f',f=f'+1:=⟨f-1,by omega⟩
   obtain⟨hi,hkl,hkk⟩:=zC hn
   unfold kr at hn
   rw[if_neg (by omega)]at hn
   obtain⟨x,hx,hn⟩:=Option.bind_eq_some_iff.mp hn
   obtain⟨hh,hhe,hn⟩:=Option.bind_eq_some_iff.mp hn
   rw[names,if_neg (by omega),hx]
   simp only[Option.bind_some]
   have aeJ:=hhe
   unfold fN at aeJ
   rw[aeJ]
   simp only[Option.bind_some]
   cases hd:x.2.drop x.1 with
   |nil=>rw[hd]at hn;cases hn
   |cons n r =>
    rw[hd]at hn
    obtain⟨c,hc,hn⟩:=Option.map_eq_some_iff.mp hn
    cases hn
    have hnk:=(rh hc).1
    have hlen:n.toNat≤255:=by omega
    have hc':children e size f n.toNat pre r=some (gk,nk):=by
     refine ihk.2 _ _ _ hc hp hlen f ?_ ?_
     ·omega
     ·by_cases amC:pre.length=255
      ·cases kids with
       |nil=>simp at hnk;omega
       |cons y ys =>
        have:=hkk y (List.mem_cons_self ..)
        omega
      ·omega
    dsimp only
    rw[hc']
    simp
  refine⟨fun i' amD hL hp f hf=>?_,fun k p r hk hp hk2 f hf hkf=>?_⟩
  ·cases hL
   cases Fr
   rw[one f hp hf]
   simp
  ·cases k with
   |zero=>cases hk
   |succ k =>
    have hk0:=hk
    unfold jE at hk
    obtain⟨s,hs,hk⟩:=Option.bind_eq_some_iff.mp hk
    by_cases hb:s.1.isEmpty=true∨255<p.length+s.1.length
    ·rw[if_pos hb]at hk;cases hk
    ·rw[if_neg hb]at hk
     obtain⟨x,hx,hk⟩:=Option.bind_eq_some_iff.mp hk
     obtain⟨m,hm,hk⟩:=Option.map_eq_some_iff.mp hk
     cases hk
     have hlen:=(rh hk0).2 _ (List.mem_cons_self ..)
     simp only at hlen
     obtain⟨f,rfl⟩:∃f',f=f'+1:=⟨f-1,by omega⟩
     rw[children,hs]
     simp only[Option.bind_some]
     rw[if_neg hb,hx]
     simp only[Option.bind_some]
     rw[one f (by omega) (by omega)]
     simp only[Option.bind_some]
     have:=ihr.2 _ _ _ hm hp (by omega) f (by omega) (by omega)
     rw[this]
     simp
theorem ku {α:Type} [BEq α] [LawfulBEq α]:∀l:List α,distinct l=true↔l.Nodup
 | []=>by simp[distinct]
 |x::r=>by
  have ih:=ku r
  simp only[distinct,Bool.and_eq_true,ih,List.nodup_cons]
  simp
theorem Cy {e:Bytes} {size:Nat} (he:e≠[]) {g:List (Bytes×Nat)}:gives e size=some g↔∃ns,cP e size [(0,[])] g ns∧ns.Nodup∧(g.map fun x=>x.1).Nodup:=by
 unfold gives
 rw[if_neg (by simpa using he)]
 constructor
 ·intro h
  obtain⟨l,hl,h⟩:=Option.bind_eq_some_iff.mp h
  by_cases hd:distinct l.2=true∧distinct (l.1.map fun x=>x.1)=true
  ·rw[if_pos hd]at h
   cases h
   exact⟨l.2,(Bq e size _).1 _ _ _ hl,(ku _).mp hd.1,(ku _).mp hd.2⟩
  ·rw[if_neg hd]at h;cases h
 ·rintro⟨ns,F,h1,h2⟩
  rw[(LA F).1 0 [] rfl (by decide) 70000 (by decide)]
  simp only[Option.bind_some]
  rw[if_pos ⟨(ku _).mpr h1,(ku _).mpr h2⟩]
end MX
namespace MX
open Rc31
def Left (e:Bytes) (size:Nat) (S:List (Nat×Bytes)) (P:List Nat) (G:List (Bytes×Nat)) (g':List (Bytes×Nat)) (Ep:List Nat):Prop :=
 cP e size S g' Ep∧(P++Ep).Nodup∧((G++g').map fun x=>x.1).Nodup
structure lY (e:Bytes) (size:Nat) (S:List (Nat×Bytes)) (P:List Nat) (G:List (Bytes×Nat)):Prop where
 fwd:∀g,gives e size=some g→∃g' Ep,Left e size S P G g' Ep∧g.Perm (G++g')
 bwd:∀g' Ep,Left e size S P G g' Ep→∃g,gives e size=some g∧g.Perm (G++g')
theorem lY.start {e:Bytes} {size:Nat} (he:e≠[]):lY e size [(0,[])] [] [] where
 fwd:=fun g h=>by
  obtain⟨ns,F,h1,h2⟩:=(Cy he).mp h
  exact⟨g,ns,⟨F,by simpa using h1,by simpa using h2⟩,by simp⟩
 bwd:=fun g' Ep ⟨F,h1,h2⟩=>⟨g',(Cy he).mpr ⟨Ep,F,by simpa using h1,by simpa using h2⟩,by simp⟩
theorem lY.no {e:Bytes} {size:Nat} {S:List (Nat×Bytes)} {P:List Nat} {G:List (Bytes×Nat)} (W:lY e size S P G) (h:∀g' Ep,¬Left e size S P G g' Ep):gives e size=none:=by
 cases hg:gives e size with
 |none=>rfl
 |some g =>
  obtain⟨g',Ep,L,_⟩:=W.fwd g hg
  exact absurd L (h _ _)
theorem cP.last {e:Bytes} {size:Nat} {S:List (Nat×Bytes)} {i:Nat} {pre:Bytes} {g:List (Bytes×Nat)} {n:List Nat} (F:cP e size (S++[(i,pre)]) g n) :
 ∃h kids gS nS gk nk,kr e size i pre=some (h,kids)∧cP e size S gS nS∧cP e size kids gk nk∧g=gS++(h++gk)∧n=nS++i::nk:=by
 obtain⟨ga,gb,na,nb,h1,h2,rfl,rfl⟩:=F.split
 cases h2 with
 |cons hn k r =>
  cases r
  exact⟨_,_,ga,na,_,_,hn,h1,k,by simp,by simp⟩
theorem lY.bad {e:Bytes} {size:Nat} {S:List (Nat×Bytes)} {P:List Nat} {G:List (Bytes×Nat)} {i:Nat} {pre:Bytes} (W:lY e size (S++[(i,pre)]) P G) (h:kr e size i pre=none):gives e size=none:=by
 refine W.no fun g' Ep ⟨F,_,_⟩=>?_
 obtain⟨_,_,_,_,_,_,hn,_⟩:=F.last
 rw[h]at hn
 cases hn
theorem lY.twice {e:Bytes} {size:Nat} {S:List (Nat×Bytes)} {P:List Nat} {G:List (Bytes×Nat)} {i z:Nat} {pre:Bytes} {kids:List (Nat×Bytes)} (W:lY e size (S++[(i,pre)]) P G) (h:kr e size i pre=some ([(pre,z)],kids)) (hm:pre∈G.map fun x=>x.1):gives e size=none:=by
 refine W.no fun g' Ep ⟨F,_,h2⟩=>?_
 obtain⟨_,_,_,_,_,_,hn,_,_,rfl,rfl⟩:=F.last
 rw[h]at hn
 cases hn
 rw[List.map_append,List.nodup_append]at h2
 exact h2.2.2 pre hm pre (by simp) rfl
theorem lY.step {e:Bytes} {size:Nat} {S:List (Nat×Bytes)} {P:List Nat} {G:List (Bytes×Nat)} {i:Nat} {pre:Bytes} {h:List (Bytes×Nat)} {kids:List (Nat×Bytes)} (W:lY e size (S++[(i,pre)]) P G) (hn:kr e size i pre=some (h,kids)) :
 lY e size (S++kids) (P++[i]) (G++h):=by
 have key:∀gS nS gk nk,cP e size S gS nS→cP e size kids gk nk→(Left e size (S++[(i,pre)]) P G (gS++(h++gk)) (nS++i::nk)↔Left e size (S++kids) (P++[i]) (G++h) (gS++gk) (nS++nk))∧(G++(gS++(h++gk))).Perm (G++h++(gS++gk)):=by
  intro gS nS gk nk FS Fk
  have p1:(G++(gS++(h++gk))).Perm (G++h++(gS++gk)):=by
   rw[List.append_assoc]
   refine List.Perm.append_left _ ?_
   rw[←List.append_assoc,←List.append_assoc]
   exact List.Perm.append_right _ List.perm_append_comm
  have p2:(P++(nS++i::nk)).Perm (P++[i]++(nS++nk)):=by
   rw[List.append_assoc]
   exact List.Perm.append_left _ List.perm_middle
  refine⟨⟨fun⟨_,h1,h2⟩=>⟨FS.append Fk,p2.nodup_iff.mp h1,(p1.map _).nodup_iff.mp h2⟩,fun⟨_,h1,h2⟩=>⟨FS.append (by simpa using cP.cons hn Fk .nil),p2.nodup_iff.mpr h1,(p1.map _).nodup_iff.mpr h2⟩⟩,p1⟩
 refine⟨fun g hg=>?_,fun g' Ep L=>?_⟩
 ·obtain⟨g',Ep,L,p⟩:=W.fwd g hg
  obtain⟨_,_,gS,nS,gk,nk,WL,FS,Fk,rfl,rfl⟩:=L.1.last
  rw[hn]at WL
  cases WL
  obtain⟨k1,k2⟩:=key gS nS gk nk FS Fk
  exact⟨gS++gk,nS++nk,k1.mp L,p.trans k2⟩
 ·obtain⟨gS,gk,nS,nk,FS,Fk,rfl,rfl⟩:=L.1.split
  obtain⟨k1,k2⟩:=key gS nS gk nk FS Fk
  obtain⟨g,hg,p⟩:=W.bwd _ _ (k1.mpr L)
  exact⟨g,hg,p.trans k2⟩
theorem cP.roots {e:Bytes} {size:Nat} {S:List (Nat×Bytes)} {g:List (Bytes×Nat)} {n:List Nat} (F:cP e size S g n):(S.map fun x=>x.1).Sublist n:=by
 induction F with
 |nil=>exact .slnil
 |cons _ _ _ _ ih =>
  refine List.Sublist.cons_cons _ ?_
  exact ih.trans (List.sublist_append_right _ _)
theorem lY.met {e:Bytes} {size:Nat} {S:List (Nat×Bytes)} {P:List Nat} {G:List (Bytes×Nat)} (W:lY e size S P G) (h:¬(P++S.map fun x=>x.1).Nodup):gives e size=none:=by
 refine W.no fun g' Ep ⟨F,h1,_⟩=>h ?_
 exact h1.sublist (List.Sublist.append (List.Sublist.refl _) F.roots)
theorem lY.done {e:Bytes} {size:Nat} {P:List Nat} {G:List (Bytes×Nat)} (W:lY e size [] P G) (h1:P.Nodup) (h2:(G.map fun x=>x.1).Nodup):∃g,gives e size=some g∧g.Perm G:=by
 obtain⟨g,hg,p⟩:=W.bwd [] [] ⟨.nil,by simpa using h1,by simpa using h2⟩
 exact⟨g,hg,by simpa using p⟩
end MX
namespace L2
open PySem PySem.Spec PyProof.Rows
section
variable {X:Cx}
def ab1 (K:PySem.W.Frag):R2:=fun x y H Q=>∃a b xs ys,x = .ref a∧y = .ref b∧tS K H a xs∧tS K H b ys∧ys≠[]∧xs.length+ys.length≤sizeLine ∧
 (xs=[]→Q (.ref b) H)∧(xs≠[]→∀p,H p=none→Q (.ref p) (upd H p (.tup (xs++ys))))
theorem VB:zH X (binaryOp .Add) (ab1 X.K):=by
 intro pins s σ H x y v u Q I rx ry h
 obtain⟨a,b,xs,ys,rfl,rfl,ha,hb,hy,hz,q1,q2⟩:=h
 by_cases hx:xs=[]
 ·cases rx
  cases ry
  obtain⟨bt,r1,p1,_⟩:=I.tuple ha
  obtain⟨rB,r2,p2,_⟩:=I.tuple hb
  obtain⟨⟨cls,dd,data,sl⟩,ho,hc,n,hd⟩:=id p1
  obtain⟨⟨agW,dd2,data2,sl2⟩,ho2,LY,n2,hd2⟩:=id p2
  simp only at hc hd LY hd2
  subst hc hd LY hd2
  have e:bt=[]:=r1.EA.mpr hx
  exact concat_meets ⟨_,ho,rfl⟩ ⟨_,ho2,rfl⟩ noFill_tuple_add seq_tuple_add PySem.F.slot_tuple_add PySem.F.entry_tuple_add (PySem.F.args_tuple_add_2 _ _)
   (tuple_addW0 a b bt.toArray rB.toArray n n2 dd dd2 sl sl2 (by simp[e])) ⟨ho,ho2,⟨.ref b,H,I,rfl,q1 hx⟩⟩
 ·exact W8 pins s σ H _ _ v u Q I rx ry ⟨a,b,xs,ys,rfl,rfl,ha,hb,hx,hz,fun z=>absurd z hy,fun _=>q2 hx⟩
end
end L2
namespace MX
open Rc31
theorem GQ:∀{f:Nat} {b:Bytes} {v:Nat} {r:Bytes},sevens f b=some (v,r)→∃a,b=a++r∧∀t,sevens f (a++t)=some (v,t)
 |0,b,v,r,h=>by simp[sevens]at h
 |f+1,[],v,r,h=>by simp[sevens]at h
 |f+1,c::b,v,r,h=>by
  unfold sevens at h
  by_cases hc:c.toNat<128
  ·rw[if_pos hc]at h
   cases h
   exact⟨[c],rfl,fun t=>by show sevens (f+1) (c::t)=_;unfold sevens;rw[if_pos hc]⟩
  ·rw[if_neg hc]at h
   obtain⟨x,hx,hv⟩:=Option.map_eq_some_iff.mp h
   obtain⟨w,r'⟩:=x
   cases hv
   obtain⟨a,e,k⟩:=GQ hx
   refine⟨c::a,by rw[e];rfl,fun t=>?_⟩
   show sevens (f+1) (c::(a++t))=_
   unfold sevens
   rw[if_neg hc,k t]
   rfl
theorem Br {b:Bytes} {v:Nat} {r:Bytes} (h:uleb b=some (v,r)):∃a,b=a++r∧∀t,uleb (a++t)=some (v,t):=by
 unfold uleb at h
 obtain⟨x,hx,hv⟩:=Option.bind_eq_some_iff.mp h
 by_cases hw:x.1<W64
 ·rw[if_pos hw]at hv
  cases hv
  obtain⟨a,e,k⟩:=GQ hx
  refine⟨a,e,fun t=>?_⟩
  unfold uleb
  rw[k t]
  show(if _ then _ else _)=_
  rw[if_pos hw]
 ·rw[if_neg hw]at hv
  cases hv
def placeQ (size:Nat) (r:Bytes) (n:Nat):Option Nat:=(uleb r).bind fun y=>if y.1=0 then(uleb y.2).bind fun z=>if z.2.length+n=r.length∧z.1<size then some z.1 else none else none
theorem JI {size:Nat} {x:Nat×Bytes} (hx:x.1≠0):fN size [] x=none:=by
 unfold fN
 rw[if_neg hx]
 by_cases h1:x.2.length<x.1
 ·rw[if_pos h1]
 ·rw[if_neg h1]
  cases uleb (x.2.take x.1) with
  |none=>rfl
  |some y =>
   show(uleb y.2).bind _=none
   cases uleb y.2 with
   |none=>rfl
   |some z =>
    show(if _ then _ else _)=none
    rw[if_neg (fun q=>by have:=q.2.2.2;cases this)]
theorem GR {size:Nat} {pre:Bytes} {x:Nat×Bytes} (hx:x.1≠0) (hp:pre≠[]):fN size pre x=(placeQ size x.2 x.1).map fun z=>[(pre,z)]:=by
 have pe:pre.isEmpty=false:=by cases pre with
  |nil=>exact absurd rfl hp
  |cons _ _=>rfl
 have fwd:∀l,fN size pre x=some l→∃z,placeQ size x.2 x.1=some z∧l=[(pre,z)]:=by
  intro l h
  unfold fN at h
  rw[if_neg hx]at h
  by_cases h1:x.2.length<x.1
  ·rw[if_pos h1]at h;cases h
  ·rw[if_neg h1]at h
   obtain⟨y,hy,h⟩:=Option.bind_eq_some_iff.mp h
   obtain⟨z,hz,h⟩:=Option.bind_eq_some_iff.mp h
   by_cases hc:y.1=0∧z.1<size∧z.2.isEmpty=true∧pre.isEmpty=false
   ·rw[if_pos hc]at h
    cases h
    obtain⟨y0,zs,ze,_⟩:=hc
    have ze:z.2=[]:=List.isEmpty_iff.mp ze
    obtain⟨a1,e1,k1⟩:=Br (v:=y.1) (r:=y.2) hy
    obtain⟨a2,e2,k2⟩:=Br (v:=z.1) (r:=z.2) hz
    refine⟨z.1,?_,rfl⟩
    have e0:x.2=a1++(a2++x.2.drop x.1):=by
     conv=>lhs;rw[←List.take_append_drop x.1 x.2,e1,e2,ze]
     simp
    unfold placeQ
    have eu:uleb x.2=some (y.1,a2++x.2.drop x.1):=by
     conv=>lhs;rw[e0]
     exact k1 _
    rw[eu]
    show(if y.1=0 then _ else _)=_
    rw[if_pos y0]
    show(uleb (a2++x.2.drop x.1)).bind _=_
    rw[k2]
    show(if _∧_ then _ else _)=_
    rw[if_pos ⟨by show(x.2.drop x.1).length+x.1=x.2.length;rw[List.length_drop];omega,zs⟩]
   ·rw[if_neg hc]at h;cases h
 have bwd:∀z,placeQ size x.2 x.1=some z→fN size pre x=some [(pre,z)]:=by
  intro p h
  unfold placeQ at h
  obtain⟨y,hy,h⟩:=Option.bind_eq_some_iff.mp h
  by_cases y0:y.1=0
  ·rw[if_pos y0]at h
   obtain⟨z,hz,h⟩:=Option.bind_eq_some_iff.mp h
   by_cases hc:z.2.length+x.1=x.2.length∧z.1<size
   ·rw[if_pos hc]at h
    cases h
    obtain⟨a1,e1,k1⟩:=Br (v:=y.1) (r:=y.2) hy
    obtain⟨a2,e2,k2⟩:=Br (v:=z.1) (r:=z.2) hz
    have e0:x.2=(a1++a2)++z.2:=by rw[e1,e2];simp
    have el:x.1=(a1++a2).length:=by
     have:=congrArg List.length e0
     rw[List.length_append]at this
     omega
    unfold fN
    have et:x.2.take x.1=a1++a2:=by
     rw[el]
     conv=>lhs;rw[e0]
     rw[List.take_left']
     rfl
    rw[if_neg hx,if_neg (by omega),et,k1]
    show(uleb a2).bind _=_
    have:=k2 []
    rw[List.append_nil]at this
    rw[this]
    show(if _∧_ then _ else _)=_
    rw[if_pos ⟨y0,hc.2,rfl,pe⟩]
   ·rw[if_neg hc]at h;cases h
  ·rw[if_neg y0]at h;cases h
 cases hq:placeQ size x.2 x.1 with
 |some z=>rw[bwd z hq];rfl
 |none =>
  cases hh:fN size pre x with
  |none=>rfl
  |some l =>
   obtain⟨z,e,_⟩:=fwd l hh
   rw[hq]at e
   cases e
end MX
namespace MI
open PySem L2
def kb (b:List UInt8):List Key:=b.map fun c=>.inl (c.toNat:Int)
theorem aeK (b:List UInt8):(kb b).map kV=bv b:=by
 unfold kb bv
 rw[List.map_map]
 rfl
theorem P6:∀{a b:List UInt8},kb a=kb b→a=b
 | [],[],_=>rfl
 | [],_::_,h=>by cases h
 |_::_,[],h=>by cases h
 |x::a,y::b,h=>by
  have h':((Sum.inl (x.toNat:Int):Key)::kb a)=(Sum.inl (y.toNat:Int):Key)::kb b:=h
  injection h' with h1 h2
  injection h1 with h1
  rw[P6 h2,UInt8.toNat.inj (by omega:x.toNat=y.toNat)]
def gk (G:List (List UInt8×Nat)):List (List Key×V):=G.map fun x=>(kb x.1,V.int (x.2:Int))
theorem VC (G:List (List UInt8×Nat)) (b:List UInt8):(jo (gk G) (kb b)).isSome=decide (b∈G.map fun x=>x.1):=by
 induction G with
 |nil=>rfl
 |cons p r ih =>
  show(jo ((kb p.1,V.int (p.2:Int))::gk r) (kb b)).isSome=_
  by_cases h:p.1=b
  ·rw[lL (by show kb p.1=kb b;rw[h])]
   rw[decide_eq_true (by rw[List.map_cons,h];exact List.mem_cons_self ..)]
   rfl
  ·rw[lM (fun z=>h (P6 z)),ih]
   congr 1
   rw[List.map_cons,List.mem_cons]
   exact propext ⟨.inr,fun z=>z.elim (fun q=>absurd q.symm h) id⟩
theorem ab2 {G:List (List UInt8×Nat)} {b:List UInt8} {z:Nat} (h:b∉G.map fun x=>x.1):putK (gk G) (kb b) (V.int (z:Int))=gk (G++[(b,z)]):=by
 unfold putK
 rw[ui,VC,decide_eq_false h]
 show(if false=true then _ else _)=_
 rw[if_neg (by decide)]
 unfold gk
 rw[List.map_append]
 rfl
def jy (a:Ad) (H:Hp) (n:Addr) (i:Nat) (pre:List UInt8):Prop:=∃d tn,H n=some (.ins a.kR d (kY (.int (i:Int)) (.ref tn)))∧H tn=some (.tup (bv pre))
section
variable {g:Gm} {a:Ad}
def P7 (a:Ad):Sp:=fun vs H Q E=>∃(x dx:Addr) (v w:V),vs=[.ref x,v,w]∧H x=some (.ins a.kR dx [])∧Q .de (upd H x (.ins a.kR dx (kY v w)))
theorem Bs (T:Tx g.K g.mg a):Pr g 1 a.BX ["self","at","name"] (P7 a):=by
 refine Pr.on T.Di Kd fun cF A outer s H vs Q E hr h=>?_
 obtain⟨x,dx,v,w,rfl,hx,k⟩:=h
 refine⟨_,ae (aT (pv 0) (pv 1) rfl) (ag (aT (pv 0) (pv 2) rfl)),?_⟩
 refine⟨_,rfl,_,rfl,x,_,dx,_,rfl,hx,T.lC,T.ik,(by show 0<1000;decide),_,rfl,_,rfl,x,_,dx,_,rfl,af,T.lC,T.gD,(by show 1<1000;decide),?_⟩
 rw[bM,R4]
 exact k
end
end MI
namespace MI
open PySem L2
theorem ND:¬(("row" : Str) = "name"):=by decide +kernel
theorem EI {H:Hp} {n c C D d e:Addr} {x y u v:V} (h:H n=some (.ins C d (kY x y))) (h':H c=some (.ins D e (bW u v))):n≠c:=by
 refine cQ h h' fun z=>?_
 injection z with _ _ z
 have z1:List.lookup ("row" : Str) (kY x y)=List.lookup ("row" : Str) (bW u v):=by rw[z]
 rw[si]at z1
 unfold kY at z1
 rw[cY RZ,cY ND]at z1
 cases z1
section
variable {g:Gm} {a:Ad}
def NF (a:Ad):Sp:=fun vs H Q E=>∃(c r nd gd:Addr) (b:List UInt8) (i L:Nat) (pre:List UInt8) (G:List (List UInt8×Nat)),vs=[.ref c,.ref nd,.ref gd,.int (L:Int)]∧oB a.bz H c r i∧H r=some (.lst (bv b))∧jy a H nd i pre∧(i=0↔pre=[])∧H gd=some (.dT (gk G))∧G.length<sizeLine ∧
 ((∀x h,Rc31.uleb (b.drop i)=some x→MX.fN L pre x=some h→∃y∈h,y.1∈G.map fun x=>x.1)→∀H',Kp (At c) H H'→E (.ref a.aE) none H') ∧
 ∀x h,Rc31.uleb (b.drop i)=some x→MX.fN L pre x=some h→(∀y∈h,y.1∉G.map fun x=>x.1)→∀H' j,oB a.bz H' c r j→b.drop j=x.2.drop x.1→j≤b.length→Kp (t8 c gd) H H'→H' gd=some (.dT (gk (G++h)))→h.length≤1→Q .de H'
theorem IB (T:Tx g.K g.mg a):Pr g 5 a.yO ["cursor","node","given","length"] (NF a):=by
 refine Pr.on T.As ly fun cF A outer s H vs Q E hr h=>?_
 obtain⟨c,r,nd,gd,b,i,L,pre,G,rfl,⟨dx,hc⟩,hb,⟨nx,tn,hn,ht⟩,hi,hg,hG,k0,k1⟩:=h
 refine⟨_,ae (aI (i:=4) ly.nd rfl (Or.inl rfl) (a6 (pv 0) (bj T) T.aL T.bp au hr (by decide)))
  (ae (dk (bG bZ (pv 4) ak (aC _)) (ag WN) gw)
  (ae (az (aB T) au hr (by decide) T.aA (aH TY (ar (pv 1) rfl) ak (aC _)))
  (ae (aI (i:=5) ly.nd rfl (Or.inl rfl) (aO ck (ar (pv 0) rfl) (pv 4)))
  (ae (az (aB T) au hr (by decide) T.aA (aH bZ (a6 (pv 0) (bj T) T.aL T.bp au hr (by decide)) ak (aC _)))
  (ae (aI (i:=6) ly.nd rfl (Or.inl rfl) (a6 (pv 0) (bj T) T.aL T.bp au hr (by decide)))
  (ae (az (aB T) au hr (by decide) T.aA (aH bZ (ar (pv 0) rfl) (pv 5) (aC _)))
  (ae (az (aB T) au hr (by decide) T.aA (aH nE (pv 6) (pv 3) (aC _)))
  (ae (az (aB T) au hr (by decide) T.aA (EV (BH (Fh hr) (ar (pv 1) rfl) (pv 2))))
  (ag (QO (Fh hr) (pv 2) (ar (pv 1) rfl) (pv 6) rfl)))))))))),?_⟩
 have nnc:nd≠c:=EI hn hc
 have ngc:gd≠c:=cQ hg hc (by intro z;cases z)
 have ntc:tn≠c:=cQ ht hc (by intro z;cases z)
 refine⟨_,rfl,c,dx,_,rfl,hc,aY,c,r,b,i,rfl,⟨dx,hc⟩,hb,fun Rm H1 kp=>k0 (fun x h e=>by rw[Rm]at e;cases e) _ kp,fun n rest hx v H1 j0 hv C1 lt1 le1 er xo=>?_⟩
 subst hv
 obtain⟨d1,Jz⟩:=id C1
 have fail:∀{H':Hp},Kp (At c) H H'→MX.fN L pre (n,rest)=none→E (.ref a.aE) none H':=fun{H'} kp z=>k0 (fun x h e1 e2=>by rw[hx]at e1;cases e1;rw[z]at e2;cases e2) _ kp
 refine⟨_,rfl,rfl,_,rfl,aw (fun z0=>?_) fun z0=>?_⟩
 ·have z0:n=0:=by have:=bo z0;omega
  subst z0
  exact k1 (0,rest) [] hx (by unfold MX.fN;rw[if_pos rfl]) (fun y hy=>by cases hy) H1 j0 C1 er le1 (fun y o e q=>xo y o e fun z=>q (.inl z)) (by rw[List.append_nil];exact xo _ _ hg ngc) (Nat.zero_le _)
 ·have z0:n≠0:=fun z=>bq z0 (by omega)
  refine⟨_,rfl,nd,_,nx,_,_,rfl,xo _ _ hn nnc,T.lC,T.ik,wC,rfl,_,rfl,?_⟩
  have ne:(!decide (V.int (i:Int)=V.int 0))=decide (i≠0):=by
   by_cases q:i=0
   ·subst q;rfl
   ·rw[decide_eq_true q,decide_eq_false (fun z=>by injection z with z;omega)]
    rfl
  rw[ne]
  refine aw (fun i0=>?_) fun i0=>fail xo (by
   have:pre=[]:=hi.mp (Classical.byContradiction i0)
   rw[this]
   exact MX.JI z0)
  have hp:pre≠[]:=fun z=>i0 (hi.mpr z)
  have eh:=MX.GR (size:=L) (x:=(n,rest)) z0 hp
  have eh:MX.fN L pre (n,rest)=(MX.placeQ L rest n).map fun z=>[(pre,z)]:=eh
  unfold MX.placeQ at eh
  refine⟨_,rfl,c,_,d1,_,_,rfl,Jz,T.aL,T.dQ,lR,_,rfl,_,_,rfl,rfl,?_⟩
  refine⟨_,rfl,c,d1,_,rfl,Jz,aY,c,r,b,j0,rfl,C1,xo _ _ hb (cQ hb hc (by intro z;cases z)),fun Rm H2 kp=>fail (xo.step kp fun _ z=>.inl z) (by rw[eh,←er,Rm];rfl),fun y VD hy v H2 j1 hv C2 lt2 le2 er2 kp2=>?_⟩
  subst hv
  obtain⟨d2,LY⟩:=id C2
  have Yx:=xo.step kp2 fun _ z=>.inl z
  rw[show Rc31.uleb rest=some (y,VD) by rw[←er];exact hy]at eh
  have eh:MX.fN L pre (n,rest)=(if y=0 then(Rc31.uleb VD).bind fun z=>if z.2.length+n=rest.length∧z.1<L then some z.1 else none else none).map fun z=>[(pre,z)]:=eh
  refine⟨rfl,_,rfl,aw (fun y0=>?_) fun y0=>fail Yx (by rw[eh,if_neg (fun z=>bq y0 (by omega))];rfl)⟩
  have y0:y=0:=by have:=bo y0;omega
  rw[if_pos y0]at eh
  refine⟨_,rfl,c,d2,_,rfl,LY,aY,c,r,b,j1,rfl,C2,Yx _ _ hb (cQ hb hc (by intro z;cases z)),fun Rm H3 kp=>fail (Yx.step kp fun _ z=>.inl z) (by rw[eh,←er2,Rm];rfl),fun z VE hz v H3 j2 hv C3 lt3 ZC er3 kp3=>?_⟩
  subst hv
  obtain⟨d3,hc3⟩:=id C3
  have P8:=Yx.step kp3 fun _ z=>.inl z
  rw[show Rc31.uleb VD=some (z,VE) by rw[←er2];exact hz]at eh
  have eh:MX.fN L pre (n,rest)=(if VE.length+n=rest.length∧z<L then some z else none).map fun z=>[(pre,z)]:=eh
  have l3:VE.length=b.length-j2:=by rw[←er3,List.length_drop]
  have l1:rest.length=b.length-j0:=by rw[←er,List.length_drop]
  refine⟨_,rfl,c,_,d3,_,_,rfl,hc3,T.aL,T.dQ,lR,_,rfl,rfl,_,rfl,aw (fun e1=>?_) fun e1=>fail P8 (by rw[eh,if_neg (fun q=>bq e1 (by omega))];rfl)⟩
  have e1:j2=j0+n:=by have:=bo e1;omega
  refine⟨_,rfl,_,rfl,_,_,rfl,rfl,_,rfl,aw (fun e2=>?_) fun e2=>fail P8 (by rw[eh,if_neg (fun q=>e2 (by omega))];rfl)⟩
  have e2:z<L:=by omega
  rw[if_pos ⟨by omega,e2⟩]at eh
  have eh:MX.fN L pre (n,rest)=some [(pre,z)]:=eh
  have hn3:=P8 _ _ hn nnc
  have hg3:=P8 _ _ hg ngc
  have ht3:H3 tn=some (.tup ((kb pre).map kV)):=by rw[aeK];exact P8 _ _ ht ntc
  refine⟨_,rfl,nd,_,nx,_,_,rfl,hn3,T.lC,T.gD,vt,_,rfl,gd,_,rfl,wH.t hg3 ht3,_,rfl,?_⟩
  rw[VC]
  have e3:(!decide (pre∈G.map fun x=>x.1))=decide (pre∉G.map fun x=>x.1):=by
   by_cases q:pre∈G.map fun x=>x.1
   ·rw[decide_eq_true q,decide_eq_false (fun z=>z q)];rfl
   ·rw[decide_eq_false q,decide_eq_true q];rfl
  rw[e3]
  refine aw (fun e4=>?_) fun e4=>k0 (fun x h q1 q2=>?_) _ P8
  ·refine⟨_,rfl,_,rfl,_,rfl,nd,_,nx,_,_,rfl,hn3,T.lC,T.gD,vt,gd,_,rfl,Mi.t hg3 ht3 (by unfold gk;rw[List.length_map];exact hG),?_⟩
   rw[ab2 e4]
   refine k1 (n,rest) [(pre,z)] hx eh (fun y hy=>?_) _ j2 ⟨d3,by rw[aj ngc.symm];exact hc3⟩ ?_ ZC (fun y o e q=>?_) af (Nat.le_refl _)
   ·obtain rfl:y=(pre,z):=by simpa using hy
    exact e4
   ·show b.drop j2=rest.drop n
    rw[←er,List.drop_drop,e1]
   ·rw[aj (fun w=>q (.inr w))]
    exact P8 _ _ e fun w=>q (.inl w)
  ·rw[hx]at q1
   cases q1
   rw[eh]at q2
   cases q2
   exact⟨(pre,z),List.mem_singleton.mpr rfl,Classical.byContradiction e4⟩
end
end MI
namespace L2
open PySem PySem.Spec PyProof.Rows
section
variable {X:Cx}
def ab3 (K:PySem.W.Frag):R2:=fun x y H Q=>∃a b xs ys,x = .ref a∧y = .ref b∧tS K H a xs∧H b=some (.tup ys)∧ys≠[]∧xs.length+ys.length≤sizeLine∧∀p H',H' p=some (.tup (xs++ys))→ax H H'→Q (.ref p) H'
theorem VF:zH X (binaryOp .Add) (ab3 X.K):=by
 intro pins s σ H x y v u Q I rx ry h
 obtain⟨a,b,xs,ys,rfl,rfl,ha,hb,hy,hz,q⟩:=h
 refine VB pins s σ H _ _ v u Q I rx ry ⟨a,b,xs,ys,rfl,rfl,ha,tS.of hb,hy,hz,fun z=>q b H (by rw[hb,z];rfl) (fun _ _ e=>e),fun _ p hp=>q p _ af (ax.upd hp)⟩
end
end L2
namespace MI
open PySem L2
theorem jy.keep {a:Ad} {H H':Hp} {n i c l:Nat} {pre:List UInt8} {C d:Addr} {u v:V} {xs:List V} (h:jy a H n i pre) (k:Kp (t8 c l) H H') (hc:H c=some (.ins C d (bW u v))) (hl:H l=some (.lst xs)):jy a H' n i pre:=by
 obtain⟨dn,tn,hn,ht⟩:=h
 refine⟨dn,tn,k _ _ hn fun z=>z.elim (EI hn hc) (cQ hn hl (by intro z;cases z)),k _ _ ht fun z=>z.elim (cQ ht hc (by intro z;cases z)) (cQ ht hl (by intro z;cases z))⟩
theorem sW {α β:Type} {F:α→β→Prop}:∀{l₁ r₁:List α} {l₂ r₂:List β},Paired F l₁ l₂→Paired F r₁ r₂→Paired F (l₁++r₁) (l₂++r₂)
 |_,_,_,_,.nil,h=>h
 |_,_,_,_,.cons q t,h=>.cons q (sW t h)
theorem ab4 (a b:List UInt8):bv (a++b)=bv a++bv b:=List.map_append ..
def yl (pre:List UInt8):List UInt8→Option (List (Nat×List UInt8))
 | []=>none
 |n::r=>MX.jE n.toNat pre r
section
variable {g:Gm} {a:Ad}
def LB (a:Ad):Sp:=fun vs H Q E=>∃(c r nd:Addr) (b:List UInt8) (i i0:Nat) (pre:List UInt8),vs=[.ref c,.ref nd]∧oB a.bz H c r i∧H r=some (.lst (bv b))∧jy a H nd i0 pre∧pre.length≤255 ∧
 (yl pre (b.drop i)=none→∀H',Kp (At c) H H'→E (.ref a.aE) none H') ∧
 ∀kids,yl pre (b.drop i)=some kids→∀l na H',H' l=some (.lst (na.map V.ref))→Paired (fun n k=>jy a H' n k.1 k.2) na kids→H l=none→Kp (At c) H H'→Q (.ref l) H'
theorem SV (k:Nat) (pre r:List UInt8):MX.jE (k+1) pre r=(Rc31.textIn r).bind fun s=>if s.1.isEmpty=true∨255<pre.length+s.1.length then none else(Rc31.uleb s.2).bind fun x=>(MX.jE k pre x.2).map fun l=>(x.1,pre++s.1)::l:=by
 rw[MX.jE]
theorem GS (T:Tx g.K g.mg a):Pr g 5 a.uU ["cursor","node"] (LB a):=by
 refine Pr.on T.xM ig fun cF A outer s H vs Q E hr h=>?_
 obtain⟨c,r,nd,b,i,i0,pre,rfl,⟨dx,hc⟩,hb,⟨nx,tn,hn,ht⟩,Yy,k0,k1⟩:=h
 refine⟨_,ae (aI (i:=2) ig.nd rfl (Or.inl rfl) (cv ai))
  (ae (l7 tU rfl (BA rfl T.sf (aa (a6 (pv 0) (ir T) T.aL T.fB au hr (by decide)) ai)) (dH (i:=3) ig.nd rfl (Or.inl rfl)) (ae (aI (i:=4) ig.nd rfl (Or.inl rfl) (a6 (pv 0) (oE T) T.aL T.lA au hr (by decide)))
  (ae (az (aB T) au hr (by decide) T.aA (aH IU (aV aJ (by rfl) T.eL PySem.boot_len (aa (pv 4) ai)) ak (aC _)))
  (ae (aI (i:=5) ig.nd rfl (Or.inl rfl) (aO VF (ar (pv 1) rfl) (wu xw (by rfl) T.Ko PyProof.Rows.boot_tuple (aa (pv 4) ai))))
  (ae (az (aB T) au hr (by decide) T.aA (aH iK (aV aJ (by rfl) T.eL PySem.boot_len (aa (pv 5) ai)) (pk T.pd) (aC _)))
  (ag (aR (ue PySem.F.plainAttrs_list PySem.F.slot_list_append PySem.F.type_list_append iy (pv 2) (aa (kO (Bs T) T.AG au hr (by decide) T.OG (aa (a6 (pv 0) (bj T) T.aL T.bp au hr (by decide)) (aa (pv 5) ai))) ai)))))))))
  (ag (aS (pv 2)))),?_⟩
 refine⟨Nat.zero_le _,fun l hl=>?_⟩
 have Wx:c≠l:=ao hc hl
 have Jz:upd H l (.lst []) c=some (.ins a.bz dx (bW (.ref r) (.int (i:Int)))):=by rw[aj Wx];exact hc
 have Yb:upd H l (.lst []) r=some (.lst (bv b)):=by rw[aj (ao hb hl)];exact hb
 have xo:Kp (At c) H (upd H l (.lst [])):=Kp.upd (.inr hl)
 refine⟨_,rfl,c,dx,_,rfl,Jz,d7,c,r,b,i,rfl,⟨dx,Jz⟩,Yb,fun Rm H3 k3=>?_,fun x rest hx v3 H3 j3 ev C3 lt3 ZC er k3=>?_⟩
 ·refine k0 ?_ _ (xo.step k3 fun _ z=>.inl z)
  cases hd:b.drop i with
  |nil=>rfl
  |cons y ys=>rw[hd]at Rm;cases Rm
 ·subst ev
  have hd:b.drop i=x::rest:=by
   cases hd:b.drop i with
   |nil=>rw[hd]at hx;cases hx
   |cons y ys=>rw[hd]at hx;cases hx;rfl
  have eK:yl pre (b.drop i)=MX.jE x.toNat pre rest:=by rw[hd];rfl
  have xb:=x.toNat_lt
  refine⟨_,rfl,by omega,by omega,qu (lo:=0) (n:=((x.toNat:Nat):Int).toNat) (fun k σ H2=>∃(ks:List (Nat×List UInt8)) (na:List Addr) (j:Nat) (v3 v4 v5:Option V),σ=[some (.ref c),some (.ref nd),some (.ref l),v3,v4,v5]∧H2 l=some (.lst (na.map V.ref))∧Paired (fun n k=>jy a H2 n k.1 k.2) na ks∧ks.length=k∧oB a.bz H2 c r j∧Kp (At c) H H2∧j≤b.length ∧
   yl pre (b.drop i)=(MX.jE (x.toNat-k) pre (b.drop j)).map fun z=>ks++z) ⟨[],[],j3,none,none,none,rfl,k3.lst af Jz,.nil,rfl,C3,xo.step k3 fun _ z=>.inl z,ZC,?_⟩ ?_ ?_⟩
  ·rw[eK,er]
   show _=(MX.jE x.toNat pre rest).map _
   cases MX.jE x.toNat pre rest with
   |none=>rfl
   |some z=>rfl
  ·rintro k σ H2 hk ⟨ks,na,j,v3,v4,v5,rfl,hL,pn,hks,⟨d2,LY⟩,kp,hj,e⟩
   have hk':k<x.toNat:=by omega
   rw[show x.toNat-k=(x.toNat-(k+1))+1 by omega,SV]at e
   have hb2:H2 r=some (.lst (bv b)):=kp.lst hb hc
   refine⟨_,rfl,c,d2,_,rfl,LY,kU,c,r,b,j,rfl,⟨d2,LY⟩,hb2,fun Rm H4 k4=>k0 (by rw[e,Rm];rfl) _ (kp.step k4 fun _ z=>.inl z),fun t aeL htx v H4 j4 hv C4 lt4 le4 er4 k4=>?_⟩
   obtain⟨l4,rfl,nl4,hL4⟩:=hv
   obtain⟨d4,Wy⟩:=id C4
   rw[htx]at e
   have e:yl pre (b.drop i)=(if t.isEmpty=true∨255<pre.length+t.length then none else(Rc31.uleb aeL).bind fun x_1=>(MX.jE (x.toNat-(k+1)) pre x_1.2).map fun l=>(x_1.1,pre++t)::l).map fun z=>ks++z:=e
   have kp4:=kp.step k4 fun _ z=>.inl z
   refine⟨_,rfl,l4,_,rfl,.inl (bO.of hL4),_,_,rfl,rfl,_,rfl,?_⟩
   show if decide ((0:Int)<((bv t).length:Int))=true then _ else _
   rw[br]
   refine aw (fun t0=>?_) fun t0=>k0 (by rw[e,if_pos (.inl (by rw[List.isEmpty_iff];exact List.length_eq_zero_iff.mp (by omega)))];rfl) _ kp4
   have tne:t≠[]:=fun z=>by rw[z]at t0;exact absurd t0 (by decide)
   have ZP:t.length≤255:=by
    have:=htx
    rw[Gv,Pp _ 0 (by decide)]at this
    simp only at this
    split at this
    ·rename_i amG
     cases this
     omega
    ·cases this
   have hn4:=kp4 _ _ hn (EI hn hc)
   have ht4:=kp4 _ _ ht (cQ ht hc (by intro z;cases z))
   refine⟨_,rfl,nd,_,nx,_,_,rfl,hn4,T.lC,T.gD,vt,_,rfl,l4,_,rfl,.inl ⟨bO.of hL4,fun l5 hl5=>?_⟩⟩
   have s5:ax H4 (upd H4 l5 (.tup (bv t))):=ax.upd hl5
   refine⟨tn,l5,bv pre,bv t,rfl,rfl,tS.of (s5 _ _ ht4),af,(fun z=>tne (by have:=congrArg List.length z;rw[br]at this;exact List.length_eq_zero_iff.mp this)),(by rw[br,br];exact Nat.le_trans (Nat.add_le_add Yy ZP) (by decide)),fun p5 H5 hp5 s5'=>?_⟩
   rw[←ab4]at hp5
   have s45:ax H4 H5:=s5.trans s5'
   refine⟨_,rfl,p5,_,rfl,.inr (tS.of hp5),_,_,rfl,rfl,_,rfl,?_⟩
   show if decide (((bv (pre++t)).length:Int)≤255)=true then _ else _
   rw[br,List.length_append]
   have kp5:Kp (At c) H H5:=fun y o q n=>s45 _ _ (kp4 _ _ q n)
   refine aw (fun p0=>?_) fun p0=>k0 (by rw[e,if_pos (.inr (by omega))];rfl) _ kp5
   rw[if_neg (fun z=>z.elim (fun z=>tne (List.isEmpty_iff.mp z)) fun z=>by omega)]at e
   have Yz:=s45 _ _ Wy
   have hL2:H4 l=some (.lst (na.map V.ref)):=k4.lst hL LY
   have hL5:=s45 _ _ hL2
   refine⟨_,rfl,.inl ⟨rfl,_,bO.of hL5⟩,_,rfl,c,d4,_,rfl,Yz,aY,c,r,b,j4,rfl,⟨d4,Yz⟩,s45 _ _ (k4.lst hb2 LY),fun Rm H6 k6=>k0 (by rw[e,←er4,Rm];rfl) _ (kp5.step k6 fun _ z=>.inl z),fun m ZQ hm v H6 j6 hv C6 lt6 le6 er6 k6=>?_⟩
   subst hv
   obtain⟨d6,hc6⟩:=id C6
   have hL6:H6 l=some (.lst (na.map V.ref)):=k6.lst hL5 Yz
   have Tz:H6 p5=some (.tup (bv (pre++t))):=k6 _ _ hp5 (cQ hp5 Yz (by intro z;cases z))
   have kp6:=kp5.step k6 fun _ z=>.inl z
   refine⟨_,rfl,fun y dy ny ndy ZH=>⟨y,dy,_,_,rfl,af,rfl,?_⟩⟩
   rw[bM]
   have nly:l≠y:=ao hL6 ny
   have nld:l≠dy:=ao hL6 ndy
   have s7:ax H6 (upd (upd H6 dy (.own y)) y (.ins a.kR dy (kY (.int (m:Int)) (.ref p5)))):=(ax.upd ndy).trans (ax.upd (by rw[aj ZH.symm];exact ny))
   have hL7:=s7 _ _ hL6
   have Yw:na.length<256:=by rw[Paired.length pn];omega
   refine⟨l,_,_,rfl,rfl,hL7,(by rw[List.length_map];exact Nat.lt_of_lt_of_le Yw (by decide)),?_⟩
   have e':yl pre (b.drop i)=(MX.jE (x.toNat-(k+1)) pre (b.drop j6)).map fun z=>(ks++[(m,pre++t)])++z:=by
    rw[e,←er4,hm]
    show((MX.jE (x.toNat-(k+1)) pre ZQ).map fun l=>(m,pre++t)::l).map _=_
    rw[er6]
    cases MX.jE (x.toNat-(k+1)) pre ZQ with
    |none=>rfl
    |some w =>
     show some (ks++((m,pre++t)::w))=some ((ks++[(m,pre++t)])++w)
     rw[List.append_assoc]
     rfl
   have ncl:c≠l:=Wx
   have kpA:Kp (t8 c l) H2 (upd (upd (upd H6 dy (.own y)) y (.ins a.kR dy (kY (.int (m:Int)) (.ref p5)))) l (.lst (na.map V.ref++[.ref y]))):=fun z o q nz=>by
    rw[aj (fun w=>nz (.inr w))]
    exact s7 _ _ (k6 _ _ (s45 _ _ (k4 _ _ q fun w=>nz (.inl w))) fun w=>nz (.inl w))
   refine⟨ks++[(m,pre++t)],na++[y],j6,_,_,_,rfl,?_,?_,by rw[List.length_append,hks];rfl,⟨d6,by rw[aj ncl];exact s7 _ _ hc6⟩,?_,le6,e'⟩
   ·rw[af,List.map_append]
    rfl
   ·refine sW (Paired.ua pn fun n q hq=>hq.keep kpA LY hL) ?_
    refine .cons ⟨dy,p5,by rw[aj nly.symm];exact af,?_⟩ .nil
    rw[aj (cQ Tz hL6 (by intro z;cases z))]
    exact s7 _ _ Tz
   ·intro z o q nz
    rw[aj (ao q hl)]
    exact s7 _ _ (kp6 _ _ q nz)
  ·rintro σ H2 ⟨ks,na,j,v3,v4,v5,rfl,hL,pn,hks,C2,kp,hj,e⟩
   rw[show x.toNat-((x.toNat:Nat):Int).toNat=0 by omega]at e
   refine⟨_,rfl,k1 ks ?_ l na H2 hL pn hl kp⟩
   rw[e]
   show some (ks++[])=some ks
   rw[List.append_nil]
end
end MI
namespace MX
open Rc31
theorem JJ {size:Nat} {pre:Bytes} {x:Nat×Bytes} {h:List (Bytes×Nat)} (q:fN size pre x=some h):h=[]∨∃z,h=[(pre,z)]:=by
 by_cases hx:x.1=0
 ·unfold fN at q
  rw[if_pos hx]at q
  cases q
  exact .inl rfl
 ·by_cases hp:pre=[]
  ·rw[hp,JI hx]at q
   cases q
  ·rw[GR hx hp]at q
   obtain⟨z,_,rfl⟩:=Option.map_eq_some_iff.mp q
   exact .inr ⟨z,rfl⟩
theorem EJ {e:Bytes} {size i:Nat} {pre:Bytes} {x:Nat×Bytes} (hx:uleb (e.drop i)=some x):kr e size i pre=(fN size pre x).bind fun h=>(MI.yl pre (x.2.drop x.1)).map fun l=>(h,l):=by
 unfold kr
 have hl:¬e.length≤i:=fun z=>by
  rw[List.drop_of_length_le z]at hx
  cases hx
 rw[if_neg hl,hx]
 show(fN size pre x).bind _=_
 cases fN size pre x with
 |none=>rfl
 |some h =>
  show(match x.2.drop x.1 with | []=>none|n::r=>_)=(MI.yl pre (x.2.drop x.1)).map fun l=>(h,l)
  cases x.2.drop x.1 with
  |nil=>rfl
  |cons n r=>rfl
theorem JK {e:Bytes} {size i:Nat} {pre:Bytes} (hx:uleb (e.drop i)=none):kr e size i pre=none:=by
 unfold kr
 by_cases hl:e.length≤i
 ·rw[if_pos hl]
 ·rw[if_neg hl,hx]
  rfl
theorem DC:∀(n:Nat) (l:List Nat),l.Nodup→(∀x∈l,x<n)→l.length≤n
 |0,[],_,_=>Nat.le_refl _
 |0,x::_,_,h=>absurd (h x (List.mem_cons_self ..)) (Nat.not_lt_zero _)
 |n+1,l,hn,h=>by
  have h1:=DC n (l.erase n) (hn.erase _) fun x hx=>by
   have h2:=h x (List.mem_of_mem_erase hx)
   have h3:x≠n:=((hn.mem_erase_iff).mp hx).1
   omega
  by_cases hm:n∈l
  ·rw[List.length_erase_of_mem hm]at h1
   omega
  ·rw[List.erase_of_not_mem hm]at h1
   omega
structure Ex (e:Bytes) (size:Nat) (S:List (Nat×Bytes)) (P:List Nat) (G:List (Bytes×Nat)) (M:List Nat):Prop where
 wk:lY e size S P G
 nd:M.Nodup
 pm:M.Perm (P++S.map fun x=>x.1)
 gn:(G.map fun x=>x.1).Nodup
 pl:∀p∈P,p<e.length
 gl:G.length≤P.length
 ix:∀(j:Nat) (x:Nat×Bytes),S[j]?=some x→j≤255*x.2.length∧x.2.length≤255
 z0:∀x∈S,(x.1=0↔x.2=[])
 m0:0∈M
section
variable {e:Bytes} {size:Nat} {S S0:List (Nat×Bytes)} {P:List Nat} {G:List (Bytes×Nat)} {M:List Nat} {i:Nat} {pre:Bytes} {h:List (Bytes×Nat)} {kids:List (Nat×Bytes)}
theorem Ex.start (he:e≠[]):Ex e size [(0,[])] [] [] [0]:=by
 refine⟨lY.start he,by simp,by simp,by simp,(fun p hp=>nomatch hp),Nat.le_refl _,fun j x hj=>?_,fun x hx=>?_,by simp⟩
 ·cases j with
  |zero =>
   cases hj
   exact⟨by decide,by decide⟩
  |succ j=>cases hj
 ·obtain rfl:x=(0,[]):=by simpa using hx
  exact⟨fun _=>rfl,fun _=>rfl⟩
theorem Ex.SW (t:Ex e size S P G M):S.length≤65026:=by
 cases hS:S.length with
 |zero=>omega
 |succ n =>
  have oQ:n<S.length:=by omega
  have:=t.ix n S[n] (List.getElem?_eq_getElem oQ)
  omega
theorem Ex.ndP (t:Ex e size S P G M):(P++S.map fun x=>x.1).Nodup:=t.pm.nodup_iff.mp t.nd
theorem Ex.ab6 (t:Ex e size S P G M):P.length≤e.length:=DC _ _ (List.nodup_append.mp t.ndP).1 t.pl
theorem Ex.aeO (t:Ex e size S P G M):M.length≤e.length+65026:=by
 have h1:=t.pm.length_eq
 rw[List.length_append,List.length_map]at h1
 have h2:=t.SW
 have h3:=t.ab6
 omega
theorem Ex.aeP (t:Ex e size S P G M):G.length≤e.length:=Nat.le_trans t.gl t.ab6
theorem Ex.twice (t:Ex e size (S0++[(i,pre)]) P G M) (q:∀x h,uleb (e.drop i)=some x→fN size pre x=some h→∃y∈h,y.1∈G.map fun x=>x.1):gives e size=none:=by
 cases hn:kr e size i pre with
 |none=>exact t.wk.bad hn
 |some r =>
  obtain⟨h,kids⟩:=r
  cases hx:uleb (e.drop i) with
  |none=>rw[JK hx]at hn;cases hn
  |some x =>
   have WL:=hn
   rw[EJ hx]at hn
   obtain⟨h',hh,hn⟩:=Option.bind_eq_some_iff.mp hn
   obtain⟨l,_,hn⟩:=Option.map_eq_some_iff.mp hn
   cases hn
   obtain⟨y,hy,hm⟩:=q x h hx hh
   rcases JJ hh with rfl|⟨z,rfl⟩
   ·cases hy
   ·obtain rfl:y=(pre,z):=by simpa using hy
    exact t.wk.twice WL hm
theorem Ex.below {x:Nat×Bytes} (t:Ex e size (S0++[(i,pre)]) P G M) (hx:uleb (e.drop i)=some x) (hk:MI.yl pre (x.2.drop x.1)=none):gives e size=none:=by
 refine t.wk.bad ?_
 rw[EJ hx,hk]
 cases fN size pre x with
 |none=>rfl
 |some h=>rfl
theorem Ex.pmS (t:Ex e size (S0++[(i,pre)]) P G M):(M++kids.map fun x=>x.1).Perm ((P++[i])++(S0++kids).map fun x=>x.1):=by
 have h1:=t.pm.append_right (kids.map fun x=>x.1)
 refine h1.trans ?_
 simp only[List.map_append,List.map_cons,List.map_nil,List.append_assoc]
 refine List.Perm.append_left _ ?_
 show((S0.map fun x=>x.1)++([i]++kids.map fun x=>x.1)).Perm ([i]++((S0.map fun x=>x.1)++kids.map fun x=>x.1))
 rw[←List.append_assoc,←List.append_assoc]
 exact List.perm_append_comm.append_right _
theorem Ex.met {k:Nat} {q:Nat×Bytes} (t:Ex e size (S0++[(i,pre)]) P G M) (hn:kr e size i pre=some (h,kids)) (hk:kids[k]?=some q) (hm:q.1∈M++(kids.take k).map fun x=>x.1):gives e size=none:=by
 refine(t.wk.step hn).met fun nd=>?_
 have nd:=(t.pmS (kids:=kids)).nodup_iff.mpr nd
 obtain⟨oQ,hq⟩:=List.getElem?_eq_some_iff.mp hk
 have e1:kids=kids.take k++(q::kids.drop (k+1)):=by
  conv=>lhs;rw[←List.take_append_drop k kids,List.drop_eq_getElem_cons oQ,hq]
 rw[e1,List.map_append,←List.append_assoc,List.nodup_append]at nd
 exact nd.2.2 q.1 hm q.1 (by simp) rfl
theorem Ex.step (t:Ex e size (S0++[(i,pre)]) P G M) (hn:kr e size i pre=some (h,kids)) (hg:∀y∈h,y.1∉G.map fun x=>x.1) (hM:(M++kids.map fun x=>x.1).Nodup):Ex e size (S0++kids) (P++[i]) (G++h) (M++kids.map fun x=>x.1):=by
 obtain⟨hi,hkl,hkk⟩:=zC hn
 have ZR:h=[]∨∃z,h=[(pre,z)]:=by
  cases hx:uleb (e.drop i) with
  |none=>rw[JK hx]at hn;cases hn
  |some x =>
   rw[EJ hx]at hn
   obtain⟨h',hh,hn⟩:=Option.bind_eq_some_iff.mp hn
   obtain⟨l,_,hn⟩:=Option.map_eq_some_iff.mp hn
   cases hn
   exact JJ hh
 have top:=t.ix S0.length (i,pre) (by simp)
 refine⟨t.wk.step hn,hM,t.pmS,?_,fun p hp=>?_,?_,fun j x hj=>?_,fun x hx=>?_,List.mem_append_left _ t.m0⟩
 ·rcases ZR with rfl|⟨z,rfl⟩
  ·rw[List.append_nil];exact t.gn
  ·rw[List.map_append,List.nodup_append]
   refine⟨t.gn,by simp,fun a ha b hb=>?_⟩
   have hb:b=pre:=by simpa using hb
   subst hb
   exact fun z=>hg _ (List.mem_singleton.mpr rfl) (z ▸ ha)
 ·rcases List.mem_append.mp hp with hp|hp
  ·exact t.pl p hp
  ·have:p=i:=by simpa using hp
   omega
 ·have hl:h.length≤1:=by
   rcases ZR with rfl|⟨z,rfl⟩
   ·exact Nat.zero_le _
   ·exact Nat.le_refl _
  have:=t.gl
  rw[List.length_append,List.length_append]
  show _≤P.length+1
  omega
 ·by_cases oQ:j<S0.length
  ·refine t.ix j x ?_
   rw[List.getElem?_append_left oQ]at hj ⊢
   exact hj
  ·rw[List.getElem?_append_right (by omega)]at hj
   obtain⟨hj2,hx⟩:=List.getElem?_eq_some_iff.mp hj
   have hk:=hkk x (by rw[←hx];exact List.getElem_mem _)
   have h1:S0.length≤255*pre.length:=top.1
   refine⟨?_,hk.2⟩
   have:255*(pre.length+1)≤255*x.2.length:=Nat.mul_le_mul_left _ hk.1
   omega
 ·rcases List.mem_append.mp hx with hx|hx
  ·exact t.z0 x (List.mem_append_left _ hx)
  ·have hk:=hkk x hx
   refine⟨fun z=>?_,fun z=>?_⟩
   ·have h1:=List.nodup_append.mp hM
    exact absurd z.symm (h1.2.2 0 t.m0 x.1 (List.mem_map_of_mem hx))
   ·rw[z]at hk
    exact absurd hk.1 (Nat.not_lt_zero _)
end
end MX
namespace MI
open PySem L2
def mk (M:List Nat):List (Key×V):=M.map fun(n:Nat)=>((Sum.inl (n:Int):Key),V.bl true)
theorem mk_val (M:List Nat) (n:Nat):(jo (mk M) (Sum.inl (n:Int):Key)).isSome=decide (n∈M):=by
 induction M with
 |nil=>rfl
 |cons p r ih =>
  show(jo (((Sum.inl (p:Int):Key),V.bl true)::mk r) (Sum.inl (n:Int):Key)).isSome=_
  by_cases h:p=n
  ·rw[lL (by show(Sum.inl (p:Int):Key)=_;rw[h])]
   rw[decide_eq_true (by rw[h];exact List.mem_cons_self ..)]
   rfl
  ·rw[lM (fun z=>h (by injection z with z;omega)),ih]
   congr 1
   rw[List.mem_cons]
   exact propext ⟨.inr,fun z=>z.elim (fun q=>absurd q.symm h) id⟩
theorem ab7 {M:List Nat} {n:Nat} (h:n∉M):putK (mk M) (Sum.inl (n:Int):Key) (V.bl true)=mk (M++[n]):=by
 have h1:=mk_val M n
 rw[decide_eq_false h]at h1
 rw[Um _ (by
  cases q:jo (mk M) (Sum.inl (n:Int):Key) with
  |none=>rfl
  |some v=>rw[q]at h1;cases h1)]
 unfold mk
 rw[List.map_append]
 rfl
end MI
namespace MI
open PySem L2
def NT (a:Ad) (o:HO):Prop:=(∃xs,o = .tup xs)∨∃d u v,o = .ins a.kR d (kY u v)
def Nk (a:Ad) (H H':Hp):Prop:=∀b o,H b=some o→NT a o→H' b=some o
section
variable {a:Ad} {H H' H1 H2:Hp}
theorem Nk.trans (k:Nk a H H1) (l:Nk a H1 H2):Nk a H H2:=fun b o e n=>l b o (k b o e n) n
theorem Nk.same (s:ax H H1):Nk a H H1:=fun b o e _=>s b o e
theorem Nk.of {S:Addr→Prop} (k:Kp S H H1) (hs:∀b,S b→∀o,H b=some o→¬NT a o):Nk a H H1:=fun b o e n=>k b o e fun z=>hs b z o e n
theorem jy.nk {n i:Nat} {pre:List UInt8} (h:jy a H n i pre) (k:Nk a H H1):jy a H1 n i pre:=by
 obtain⟨d,tn,hn,ht⟩:=h
 exact⟨d,tn,k _ _ hn (.inr ⟨_,_,_,rfl⟩),k _ _ ht (.inl ⟨_,rfl⟩)⟩
theorem VG {xs:List V}:¬NT a (.lst xs):=fun z=>by rcases z with⟨_,z⟩|⟨_,_,_,z⟩<;>cases z
theorem aeQ {xs:List (List Key×V)}:¬NT a (.dT xs):=fun z=>by rcases z with⟨_,z⟩|⟨_,_,_,z⟩<;>cases z
theorem aeR {xs:List (Key×V)}:¬NT a (.dK xs):=fun z=>by rcases z with⟨_,z⟩|⟨_,_,_,z⟩<;>cases z
theorem VH {C d:Addr} {u v:V}:¬NT a (.ins C d (bW u v)):=fun z=>by
 rcases z with⟨_,z⟩|⟨d',u',v',z⟩
 ·cases z
 ·have h1:upd (fun _=>none) 0 (.ins C d (bW u v)) 0=some (.ins C d (bW u v)):=af
  have h2:upd (fun _=>none) 0 (.ins C d (bW u v)) 0=some (.ins a.kR d' (kY u' v')):=by rw[←z];exact af
  exact EI h2 h1 rfl
theorem Nk.upd {b:Addr} {o o':HO} (h:H b=some o) (n:¬NT a o):Nk a H (upd H b o'):=Nk.of (S:=At b) (Kp.upd (.inl rfl)) fun c hc o2 e=>by
 obtain rfl:c=b:=hc
 rw[h]at e
 cases e
 exact n
theorem wF {S:Addr→Prop} (s:ax H H1) (k:Kp S H1 H2) (hS:∀b,S b→H b=none):ax H H2:=fun b o e=>k b o (s b o e) fun z=>by rw[hS b z]at e;cases e
theorem wb {b:Addr} {o:HO} (s:ax H H1) (h:H b=none):ax H (upd H1 b o):=wF s (Kp.upd (S:=At b) (.inl rfl)) fun c hc=>by rw[show c=b from hc];exact h
theorem DD {α β:Type} {F:α→β→Prop}:∀{l:List α} {m:List β} {y:β},Paired F l (m++[y])→∃l0 x,l=l0++[x]∧Paired F l0 m∧F x y
 |_,[],_,.cons q t=>by cases t;exact⟨[],_,rfl,.nil,q⟩
 |_,z::m,_,.cons q t=>by
  obtain⟨l0,x,rfl,p,f⟩:=DD t
  exact⟨_::l0,x,rfl,.cons q p,f⟩
theorem iw {α β:Type} {F:α→β→Prop}:∀{l:List α} {m:List β} {k:Nat} {x:α},Paired F l m→l[k]?=some x→∃y,m[k]?=some y∧F x y
 |_,_,_,_,.nil,h=>by simp at h
 |_,_,0,_,.cons q t,h=>by cases h;exact⟨_,rfl,q⟩
 |_,_,k+1,x,.cons q t,h=>by
  obtain⟨y,e,f⟩:=iw (k:=k) (x:=x) t (by simpa using h)
  exact⟨y,by simpa using e,f⟩
end
theorem gK {α:Type} {l:List α} {k:Nat} {x:α} (h:l[k]?=some x):l.take (k+1)=l.take k++[x]:=by
 rw[List.take_succ,h]
 rfl
section
variable {g:Gm} {a:Ad}
def LC (a:Ad):Sp:=fun vs H Q E=>∃(p:Addr) (L:Nat) (e:List UInt8),vs=[.ref p,.int (L:Int)]∧H p=some (.lst (bv e))∧e.length<15000000 ∧
 (Rc31.gives e L=none→∀H',ax H H'→E (.ref a.aE) none H') ∧
 ∀G gd H',(∃g,Rc31.gives e L=some g∧g.Perm G)→(G.map fun x=>x.1).Nodup→H' gd=some (.dT (gk G))→H gd=none→ax H H'→Q (.ref gd) H'
theorem GU (T:Tx g.K g.mg a):Pr g 6 a.uV ["part","length"] (LC a):=by
 refine Pr.on T.xO eA fun cF A outer s H vs Q E hr h=>?_
 obtain⟨p,L,e,rfl,hp,hel,k0,k1⟩:=h
 refine⟨_,ae (aI (i:=2) eA.nd rfl (Or.inl rfl) Ur)
  (ae (aI (i:=3) eA.nd rfl (Or.inl rfl) (EW (jG (pv 0) (fun _=>rfl)) (cv (aa (kO (Bs T) T.AG au hr (by decide) T.OG (aa ak (aa (Of ai) ai))) ai)) (cv ai)))
  (ae (aI (i:=4) eA.nd rfl (Or.inl rfl) (Xn (Us ak EU Xm) rfl rfl (by simp) (by decide)))
  (ae (qt tU (jG (pv 3) (fun _=>rfl)) (ae (aI (i:=5) eA.nd rfl (Or.inl rfl) (aaC PySem.F.plainAttrs_list PySem.F.slot_list_pop PySem.F.type_list_pop aaF (pv 3)))
  (ae (aI (i:=6) eA.nd rfl (Or.inl rfl) (kO (oC T) T.nB au hr (by decide) T.Ay (aa (pv 0) (aa (ar (pv 5) rfl) ai))))
  (ae (aR (aU (IB T) au hr (by decide) T.Au (aa (pv 6) (aa (pv 5) (aa (pv 2) (aa (pv 1) ai))))))
  (ag (l7 tU rfl (lh (aU (GS T) au hr (by decide) T.xN (aa (pv 6) (aa (pv 5) ai)))) (dH (i:=7) eA.nd rfl (Or.inl rfl)) (ae (az (aB T) au hr (by decide) T.aA (EV (BH (Fh hr) (ar (pv 7) rfl) (pv 4))))
  (ae (QO (Fh hr) (pv 4) (ar (pv 7) rfl) EU rfl)
  (ag (aR (ue PySem.F.plainAttrs_list PySem.F.slot_list_append PySem.F.type_list_append iy (pv 3) (aa (pv 7) ai))))))))))))
  (ag (aS (pv 2)))))),?_⟩
 intro gd ZT
 have s1:ax H (upd H gd (.dT [])):=ax.upd ZT
 refine⟨_,rfl,_,.inl ⟨_,bO.of (s1 _ _ hp),rfl⟩,?_⟩
 by_cases he:e=[]
 ·subst he
  refine eg ⟨Nat.zero_le _,fun wl zI=>fun ml LZ=>⟨af,[((Sum.inl (0:Int):Key),V.bl true)],rfl,by decide,?_⟩⟩
  have ngw:gd≠wl:=ao af zI
  have nwm:wl≠ml:=ao af LZ
  have ngm:gd≠ml:=ao (by rw[aj ngw];exact af) LZ
  rw[bM]
  refine⟨fun _ σ H2=>σ=[some (.ref p),some (.int (L:Int)),some (.ref gd),some (.ref wl),some (.ref ml),none,none,none]∧H2 wl=some (.lst [])∧H2 gd=some (.dT (gk []))∧ax H H2,⟨0,rfl,by rw[aj nwm];exact af,by rw[aj ngm,aj ngw];exact af,(s1.trans (ax.upd zI)).trans (ax.upd LZ)⟩,?_⟩
  rintro m σ H2 ⟨rfl,hw,hg,sH⟩
  exact⟨_,rfl,_,.inl ⟨_,bO.of hw,rfl⟩,eg ⟨_,rfl,k1 [] gd H2 ⟨[],rfl,.nil⟩ (by simp) hg ZT sH⟩⟩
 ·have htr:(!(bv e).isEmpty)=true:=by
   cases e with
   |nil=>exact absurd rfl he
   |cons _ _=>rfl
  rw[htr]
  refine iA ⟨Nat.zero_le _,fun t0 ht0=>fun x dx nx ndx ZH=>⟨x,dx,_,_,rfl,af,rfl,?_⟩⟩
  rw[bM]
  refine⟨(by show 1≤sizeLine;decide),fun wl zI=>fun ml LZ=>⟨af,[((Sum.inl (0:Int):Key),V.bl true)],rfl,by decide,?_⟩⟩
  rw[bM]
  have s2:=ax.upd (o:=.tup []) ht0
  have s3:=(ax.upd (o:=.own x) ndx).trans (ax.upd (o:=.ins a.kR dx (kY (.int 0) (.ref t0))) (by rw[aj ZH.symm];exact nx))
  have s4:=ax.upd (o:=.lst [.ref x]) zI
  have s5:=ax.upd (o:=.dK (kN [] [((Sum.inl (0:Int):Key),V.bl true)])) LZ
  have xq:=s1.trans s2
  have LD:=xq.trans s3
  have Ys:H wl=none:=LD.free zI
  have ah9:H ml=none:=(LD.trans s4).free LZ
  have aeS:jy a _ x 0 []:=⟨dx,t0,af,s3 _ _ af⟩
  have aeT:=(aeS.nk (Nk.same s4)).nk (Nk.same s5)
  have gdE:=s5 _ _ (s4 _ _ (s3 _ _ (s2 _ _ (af (H:=H) (a:=gd) (o:=.dT [])))))
  refine⟨fun m σ H2=>∃(na:List Addr) (S:List (Nat×List UInt8)) (P:List Nat) (G:List (List UInt8×Nat)) (M:List Nat) (v5 v6 v7:Option V),σ=[some (.ref p),some (.int (L:Int)),some (.ref gd),some (.ref wl),some (.ref ml),v5,v6,v7]∧H2 wl=some (.lst (na.map V.ref))∧Paired (fun n k=>jy a H2 n k.1 k.2) na S∧H2 ml=some (.dK (mk M))∧H2 gd=some (.dT (gk G))∧ax H H2∧m=e.length-P.length∧MX.Ex e L S P G M,
   ⟨_,[x],[(0,[])],[],[],[0],none,none,none,rfl,s5 _ _ af,.cons aeT .nil,af,gdE,(LD.trans s4).trans s5,rfl,MX.Ex.start he⟩,?_⟩
  rintro m σ H2 ⟨na,S,P,G,M,v5,v6,v7,rfl,hw,pn,hm,hg,sH,rfl,tr⟩
  refine⟨_,rfl,_,.inl ⟨_,bO.of hw,rfl⟩,?_⟩
  by_cases hS:S=[]
  ·subst hS
   cases pn
   exact eg ⟨_,rfl,k1 G gd H2 (tr.wk.done (List.nodup_append.mp tr.ndP).1 tr.gn) tr.gn hg ZT sH⟩
  obtain⟨S0,i,pre,rfl⟩:∃S0 i pre,S=S0++[(i,pre)]:=⟨S.dropLast,(S.getLast hS).1,(S.getLast hS).2,(List.dropLast_concat_getLast hS).symm⟩
  obtain⟨NG,n,rfl,pn0,hn⟩:=DD pn
  rw[show(!((NG++[n]).map V.ref).isEmpty)=true by simp]
  refine iA ⟨fun σ' H'=>∃m',m'<e.length-P.length∧_,fun σ' H' q=>q,?_⟩
  refine⟨_,rfl,.inl ⟨rfl,_,bO.of hw⟩,wl,_,.ref n,rfl,rfl,hw,by simp,?_⟩
  rw[show((NG++[n]).map V.ref).dropLast=NG.map V.ref by simp]
  have hn:jy a H2 n i pre:=hn
  have nk3:Nk a H2 (upd H2 wl (.lst (NG.map V.ref))):=Nk.upd hw VG
  have ZU:ax H (upd H2 wl (.lst (NG.map V.ref))):=wb sH Ys
  have nwm:ml≠wl:=cQ hm hw (by intro z;cases z)
  have nwg:gd≠wl:=cQ hg hw (by intro z;cases z)
  have hm3:upd H2 wl (.lst (NG.map V.ref)) ml=some (.dK (mk M)):=by rw[aj nwm];exact hm
  have hg3:upd H2 wl (.lst (NG.map V.ref)) gd=some (.dT (gk G)):=by rw[aj nwg];exact hg
  have hw3:upd H2 wl (.lst (NG.map V.ref)) wl=some (.lst (NG.map V.ref)):=af
  generalize upd H2 wl (.lst (NG.map V.ref))=H3 at *
  have hn3:=hn.nk nk3
  obtain⟨nx3,tn,hnn,htt⟩:=id hn3
  refine⟨_,rfl,_,rfl,n,_,nx3,_,_,rfl,hnn,T.lC,T.ik,wC,fun c dc nc ndc ncd=>⟨c,dc,p,i,rfl,af,fun H4 C4 k4=>⟨rfl,?_⟩⟩⟩
  have WD:ax H3 H4:=ax.tP nc ndc k4
  have ZM:H c=none:=ZU.free nc
  have VI:=ZU.trans WD
  have nk4:=nk3.trans (Nk.same WD)
  obtain⟨d4,Wy⟩:=id C4
  have hg4:=WD _ _ hg3
  have hm4:=WD _ _ hm3
  have hw4:=WD _ _ hw3
  have aeP:=tr.aeP
  have aeO:=tr.aeO
  have SW:=tr.SW
  rw[List.length_append]at SW
  have SW:S0.length+1≤65026:=SW
  have hsz:=sizeLine_eq
  refine⟨_,rfl,_,rfl,_,rfl,_,rfl,c,p,n,gd,e,i,L,pre,G,rfl,C4,VI _ _ hp,hn.nk nk4,tr.z0 (i,pre) (by simp),hg4,by omega,fun q H' k'=>k0 (tr.twice q) _ (wF VI k' fun b hb=>by rw[show b=c from hb];exact ZM),fun x h hx hh zJ H5 j C5 ej lej k5 hg5 EF=>?_⟩
  have nk5:Nk a H2 H5:=nk4.trans (Nk.of k5 fun b hb o q=>by
   rcases hb with rfl|rfl
   ·rw[Wy]at q;cases q;exact VH
   ·rw[hg4]at q;cases q;exact aeQ)
  have VJ:ax H H5:=wF VI k5 fun b hb=>hb.elim (fun z=>by rw[z];exact ZM) fun z=>by rw[z];exact ZT
  have hw5:=k5 _ _ hw4 fun z=>z.elim (cQ hw4 Wy (by intro z;cases z)) (cQ hw4 hg4 (by intro z;cases z))
  have hm5:=k5 _ _ hm4 fun z=>z.elim (cQ hm4 Wy (by intro z;cases z)) (cQ hm4 hg4 (by intro z;cases z))
  obtain⟨d5,Yz⟩:=id C5
  refine⟨_,rfl,_,rfl,c,p,n,e,j,i,pre,rfl,C5,VJ _ _ hp,hn.nk nk5,(tr.ix S0.length (i,pre) (by simp)).2,fun hk H' k'=>k0 (tr.below hx (by rw[←ej];exact hk)) _ (wF VJ k' fun b hb=>by rw[show b=c from hb];exact ZM),fun kids aeU l ka H6 hl6 pk6 nl6 k6=>?_⟩
  have VL:MX.kr e L i pre=some (h,kids):=by
   rw[MX.EJ hx,hh]
   show(yl pre (x.2.drop x.1)).map (fun l=>(h,l))=_
   rw[←ej,aeU]
   rfl
  have nk6:Nk a H2 H6:=nk5.trans (Nk.of k6 fun b hb o q=>by
   obtain rfl:b=c:=hb
   rw[Yz]at q;cases q;exact VH)
  have aeV:ax H H6:=wF VJ k6 fun b hb=>by rw[show b=c from hb];exact ZM
  have hw6:=k6 _ _ hw5 (cQ hw5 Yz (by intro z;cases z))
  have hm6:=k6 _ _ hm5 (cQ hm5 Yz (by intro z;cases z))
  have hg6:=k6 _ _ hg5 (cQ hg5 Yz (by intro z;cases z))
  have nlw:l≠wl:=fun z=>by rw[z,hw5]at nl6;cases nl6
  have am5:=(MX.zC VL).2.1
  have lka:ka.length=kids.length:=Paired.length pk6
  have lna:NG.length=S0.length:=Paired.length pn0
  refine⟨l,rfl,⟨_,bO.of hl6⟩,ud (K:=g.K) (a:=l) (xs:=ka.map V.ref) (fun k σ H7=>∃v7,σ=[some (.ref p),some (.int (L:Int)),some (.ref gd),some (.ref wl),some (.ref ml),some (.ref n),some (.ref c),v7]∧H7 wl=some (.lst ((NG++ka.take k).map V.ref))∧H7 ml=some (.dK (mk (M++(kids.take k).map fun x=>x.1)))∧H7 gd=some (.dT (gk (G++h)))∧H7 l=some (.lst (ka.map V.ref))∧Paired (fun n k=>jy a H7 n k.1 k.2) ka kids∧Paired (fun n k=>jy a H7 n k.1 k.2) NG S0∧(M++(kids.take k).map fun x=>x.1).Nodup∧ax H H7)
   ⟨_,rfl,?_,?_,hg6,hl6,pk6,Paired.ua pn0 fun _ _ q=>q.nk nk6,?_,aeV⟩ (fun k σ H7 _ ⟨_,_,_,_,_,q,_⟩=>bO.of q) ?_ ?_⟩
  ·rw[List.take_zero,List.append_nil];exact hw6
  ·rw[List.take_zero,List.map_nil,List.append_nil];exact hm6
  ·rw[List.take_zero,List.map_nil,List.append_nil];exact tr.nd
  ·rintro k y σ H7 hy7 ⟨v7,rfl,hw7,WE,hg7,hl7,pk7,pn7,nd7,s7⟩
   rw[List.getElem?_map]at hy7
   obtain⟨y,ZV,rfl⟩:=Option.map_eq_some_iff.mp hy7
   obtain⟨q,hq,hyn⟩:=iw pk7 ZV
   obtain⟨dy,ty,hy,hty⟩:=hyn
   obtain⟨am8,_⟩:=List.getElem?_eq_some_iff.mp hq
   refine⟨_,rfl,y,_,dy,_,_,rfl,hy,T.lC,T.ik,wC,_,rfl,ml,_,rfl,wH.k (k:=Sum.inl (q.1:Int)) WE,_,rfl,?_⟩
   rw[mk_val]
   have e3:(!decide (q.1∈M++(kids.take k).map fun x=>x.1))=decide (q.1∉M++(kids.take k).map fun x=>x.1):=by
    by_cases z:q.1∈M++(kids.take k).map fun x=>x.1
    ·rw[decide_eq_true z,decide_eq_false (fun w=>w z)];rfl
    ·rw[decide_eq_false z,decide_eq_true z];rfl
   rw[e3]
   refine aw (fun e4=>?_) fun e4=>k0 (tr.met VL hq (Classical.byContradiction e4)) _ s7
   have lmk:(mk (M++(kids.take k).map fun x=>x.1)).length<sizeLine:=by
    unfold mk
    rw[List.length_map,List.length_append,List.length_map,List.length_take]
    omega
   refine⟨_,rfl,_,rfl,y,_,dy,_,_,rfl,hy,T.lC,T.ik,wC,ml,_,rfl,Mi.k (k:=Sum.inl (q.1:Int)) WE lmk,?_⟩
   rw[ab7 e4]
   have nmw:ml≠wl:=cQ WE hw7 (by intro z;cases z)
   have nmg:gd≠ml:=cQ hg7 WE (by intro z;cases z)
   have Yo:l≠ml:=cQ hl7 WE (by intro z;cases z)
   have ngw:gd≠wl:=cQ hg7 hw7 (by intro z;cases z)
   have QM:upd H7 ml (.dK (mk (M++(kids.take k).map (fun x=>x.1)++[q.1]))) wl=some (.lst ((NG++ka.take k).map V.ref)):=by rw[aj nmw.symm];exact hw7
   refine⟨_,rfl,.inl ⟨rfl,_,bO.of QM⟩,_,rfl,wl,_,_,rfl,rfl,QM,?_,?_⟩
   ·rw[List.length_map,List.length_append,List.length_take]
    omega
   have nk9:Nk a H7 (upd (upd H7 ml (.dK (mk (M++(kids.take k).map (fun x=>x.1)++[q.1])))) wl (.lst ((NG++ka.take k).map V.ref++[.ref y]))):=(Nk.upd WE aeR).trans (Nk.upd QM VG)
   have eM:(M++(kids.take (k+1)).map fun x=>x.1)=M++(kids.take k).map (fun x=>x.1)++[q.1]:=by
    rw[gK hq,List.map_append,←List.append_assoc]
    rfl
   refine⟨_,rfl,?_,?_,?_,?_,Paired.ua pk7 fun _ _ q=>q.nk nk9,Paired.ua pn7 fun _ _ q=>q.nk nk9,?_,wb (wb s7 ah9) Ys⟩
   ·rw[af,gK ZV,←List.append_assoc,List.map_append (l₁:=NG++ka.take k)]
    rfl
   ·rw[aj nmw,af,eM]
   ·rw[aj ngw,aj nmg];exact hg7
   ·rw[aj nlw,aj Yo];exact hl7
   ·rw[eM,List.nodup_append]
    refine⟨nd7,by simp,fun u hu w hw=>?_⟩
    have hw:w=q.1:=by simpa using hw
    rw[hw]
    exact fun z=>e4 (z ▸ hu)
  ·rintro σ H7 ⟨v7,rfl,hw7,WE,hg7,hl7,pk7,pn7,nd7,s7⟩
   rw[List.length_map]at hw7 WE nd7
   rw[List.take_length]at hw7
   rw[lka,List.take_length]at WE nd7
   have tr':=tr.step VL zJ nd7
   have lp:=tr'.ab6
   rw[List.length_append]at lp
   have lp:P.length+1≤e.length:=lp
   refine⟨e.length-(P++[i]).length,by rw[List.length_append];show e.length-(P.length+1)<_;omega,NG++ka,S0++kids,P++[i],G++h,_,_,_,_,rfl,hw7,sW pn7 pk7,WE,hg7,s7,rfl,tr'⟩
end
end MI
namespace MI
open Rc31
section
variable {α β:Type} (inv:Now→Prop) (out:β→List α) (w:α→Nat) (good:β→Prop)
structure qr (xs:List β) (p:Option (Now×List β×Bytes)) (q:Option (List α×Now×Bytes)):Prop where
 yes:∀y,p=some y→∃l,y.2.1=xs++l∧q=some (l.flatMap out,y.1,y.2.2)∧inv y.1∧∀b∈l,good b
 no:p=none→∀z,q=some z→distant (z.1.map w)=false
variable {inv out w good} {xs:List β}
theorem qr.none:qr inv out w good xs none none:=⟨(fun _ h=>nomatch h),fun _ _ h=>nomatch h⟩
theorem qr.quiet {o:Option (Now×Bytes)} {p:Option (Now×List β×Bytes)} {q:Option (List α×Now×Bytes)} (hp:p=o.map fun y=>(y.1,xs,y.2)) (hq:q=o.map fun y=>([],y.1,y.2)) (h:∀y,o=some y→inv y.1):qr inv out w good xs p q:=by
 subst hp hq
 refine⟨fun y e=>?_,fun e z e2=>?_⟩
 ·obtain⟨x,hx,rfl⟩:=Option.map_eq_some_iff.mp e
  exact⟨[],by simp,by rw[hx];rfl,h x hx,fun b hb=>nomatch hb⟩
 ·rw[Option.map_eq_none_iff]at e
  rw[e]at e2
  cases e2
theorem qr.bind {γ:Type} {o:Option γ} {p:γ→Option (Now×List β×Bytes)} {q:γ→Option (List α×Now×Bytes)} (h:∀x,o=some x→qr inv out w good xs (p x) (q x)):qr inv out w good xs (o.bind p) (o.bind q):=by
 cases o with
 |none=>exact qr.none
 |some x=>exact h x rfl
end
structure ab9 {α:Type} (NH:Now→Nat→Nat→Bytes→Option (List α×Now×Bytes)) (IC:Now→Bytes→Option (List α)):Prop where
 nil:∀s,IC s []=some []
 zero:∀s r,IC s (0::r)=if (r.all fun x=>x==0)=true then some [] else none
 step:∀s c r,c≠0→IC s (c::r)=(NH s (c.toNat/16) (c.toNat%16) r).bind fun y=>(IC y.2.1 y.2.2).map fun l=>y.1++l
theorem Bt {α:Type} {w:α→Nat} {a b:List α} (h:distant (a.map w)=false):distant ((a++b).map w)=false∧distant ((b++a).map w)=false:=by
 rw[List.map_append,List.map_append]
 exact MX.ko h
theorem GV {α β:Type} {inv:Now→Prop} {out:β→List α} {w:α→Nat} {good:β→Prop} {NH:Now→Nat→Nat→Bytes→Option (List α×Now×Bytes)} {IC:Now→Bytes→Option (List α)} (A:ab9 NH IC)
 {NI:Nat→Nat→Now→List β→Bytes→Option (Now×List β×Bytes)} (hs:∀op cq s xs r,inv s→qr inv out w good xs (NI op cq s xs r) (NH s op cq r)) (hl:∀op cq s xs r y,NI op cq s xs r=some y→y.2.2.length≤r.length) :
 ∀(f:Nat) (s:Now) (xs:List β) (b:Bytes),inv s→b.length<f →
  (∀y,jD NI f s xs b=some y→∃l,y.2=xs++l∧IC s b=some (l.flatMap out)∧∀b∈l,good b) ∧
  (jD NI f s xs b=none→∀z,IC s b=some z→distant (z.map w)=false)
 |0,s,xs,b,_,h=>absurd h (Nat.not_lt_zero _)
 |f+1,s,xs,[],hp,h=>by
  refine⟨fun y e=>?_,fun e=>by simp[jD]at e⟩
  simp only[jD,Option.some.injEq]at e
  subst e
  exact⟨[],by simp,by rw[A.nil];rfl,fun b hb=>nomatch hb⟩
 |f+1,s,xs,c::r,hp,h=>by
  by_cases hc:c=0
  ·subst hc
   by_cases hz:(r.all fun y=>y==0)=true
   ·refine⟨fun y e=>?_,fun e=>?_⟩
    ·rw[jD,if_pos rfl,if_pos hz]at e
     cases e
     exact⟨[],by simp,by rw[A.zero,if_pos hz];rfl,fun b hb=>nomatch hb⟩
    ·rw[jD,if_pos rfl,if_pos hz]at e
     cases e
   ·refine⟨fun y e=>?_,fun e z e2=>?_⟩
    ·rw[jD,if_pos rfl,if_neg hz]at e
     cases e
    ·rw[A.zero,if_neg hz]at e2
     cases e2
  ·have R:=hs (c.toNat/16) (c.toNat%16) s xs r hp
   have L:=hl (c.toNat/16) (c.toNat%16) s xs r
   have hlen:r.length<f:=by simpa using h
   rw[jD,if_neg hc,A.step s c r hc]
   generalize NI (c.toNat/16) (c.toNat%16) s xs r=p at *
   generalize NH s (c.toNat/16) (c.toNat%16) r=q at *
   cases p with
   |none =>
    refine⟨(fun y e=>nomatch e),fun _ z e=>?_⟩
    obtain⟨z1,h1,e⟩:=Option.bind_eq_some_iff.mp e
    obtain⟨l,_,rfl⟩:=Option.map_eq_some_iff.mp e
    exact(Bt (R.no rfl z1 h1)).1
   |some y1 =>
    obtain⟨l1,e1,e2,e3,e4⟩:=R.yes y1 rfl
    subst e2
    have I:=GV A hs hl f y1.1 y1.2.1 y1.2.2 e3 (Nat.lt_of_le_of_lt (L y1 rfl) hlen)
    refine⟨fun y e=>?_,fun e z e5=>?_⟩
    ·obtain⟨l,g1,g2,g3⟩:=I.1 y e
     refine⟨l1++l,by rw[g1,e1,List.append_assoc],?_,fun b hb=>?_⟩
     ·show(IC y1.1 y1.2.2).map _=_
      rw[g2,List.flatMap_append]
      rfl
     ·exact(List.mem_append.mp hb).elim (e4 b) (g3 b)
    ·obtain⟨l,h1,rfl⟩:=Option.map_eq_some_iff.mp (show(IC y1.1 y1.2.2).map (fun l=>l1.flatMap out++l)=some z from e5)
     exact(Bt (I.2 e l h1)).2
def wd (r:Rn):List Nat:=(List.range r.n).map (MX.bQ r.p r.skip)
structure xt (t:Told) (r:Rn):Prop where
 p:r.p<W64
 n:r.n≤65536
 s:8≤(MX.aD r.n r.skip).natAbs
 row:∀i,i<r.n→wordAt t (MX.bQ r.p r.skip i)=true
theorem ZW {t:Told} {n p skip:Nat} {y:List Nat×Nat} (hp:p<W64) (h:t5 t n p skip=some y):xt t ⟨p,n,skip⟩∧row t n p skip=some (wd ⟨p,n,skip⟩,y.2)∧y.2<W64:=by
 obtain⟨h1,h2,h3,h4⟩:=Ny hp h
 refine⟨⟨hp,h1,h2,fun i hi=>?_⟩,?_,?_⟩
 ·cases e:wordAt t (MX.bQ p skip i) with
  |true=>rfl
  |false=>rw[MX.GH hp hi e]at h3;cases h3
 ·rw[h3,row_end hp h3]
  rfl
 ·rw[h4]
  exact Nat.mod_lt _ (by rw[MX.gU];decide)
theorem Ll {t:Told} (T:MX.wD t) {n p skip:Nat} (hp:p<W64) (hn:n≤65536) (h:t5 t n p skip=none) {l:List Nat×Nat} (q:row t n p skip=some l):distant l.1=false:=by
 unfold t5 at h
 by_cases hc:n≤65536∧8≤(MX.aD n skip).natAbs
 ·rw[if_pos hc,q]at h
  cases h
 ·exact MX.SI (l:=l.1) (q:=l.2) T hp (by omega) q
theorem LF {s:Now} {n:Nat}:({s with place:=(s.place+n)%W64}:Now).place<W64:=Nat.mod_lt _ (by rw[MX.gU];decide)
theorem EK {t:Told} (T:MX.wD t) {s:Now} (hp:s.place<W64) (n skip:Nat) (rs:List Rn) (r:Bytes):qr (fun s=>s.place<W64) wd id (xt t) rs ((Hf n skip t s rs).map fun y=>(y.1,y.2,r)) (MX.Rk t s n skip r):=by
 unfold Hf MX.Rk Cw
 by_cases hc:s.typed=true∧s.placed=true
 ·rw[if_pos hc]
  by_cases hn:n≤65536
  ·rw[if_neg (by
   rw[hc.1,hc.2]
   rintro(z|z|z)
   ·cases z
   ·cases z
   ·exact absurd hn (Nat.not_le_of_lt z))]
   cases hr:t5 t n s.place skip with
   |none =>
    refine⟨(fun y e=>nomatch e),fun _ z e=>?_⟩
    obtain⟨x,hx,rfl⟩:=Option.map_eq_some_iff.mp e
    rw[List.map_id]
    exact Ll T hp hn hr hx
   |some y =>
    obtain⟨g1,g2,g3⟩:=ZW hp hr
    refine⟨fun z e=>?_,fun e=>nomatch e⟩
    cases e
    exact⟨[⟨s.place,n,skip⟩],rfl,by rw[g2];simp,g3,fun b hb=>by rw[List.mem_singleton.mp hb];exact g1⟩
  ·rw[if_pos (.inr (.inr (by show 65536<n;omega)))]
   have:t5 t n s.place skip=none:=by unfold t5;rw[if_neg (fun z=>hn z.1)]
   rw[this]
   exact qr.none
 ·rw[if_neg hc,if_pos (by
   cases h1:s.typed with
   |false=>exact .inr (.inl rfl)
   |true =>
    cases h2:s.placed with
    |false=>exact .inl rfl
    |true=>exact absurd ⟨h1,h2⟩ hc)]
  exact qr.none
theorem Ro {t:Told} {n:Nat} {s:Now} {r:Bytes} {y:Now×Bytes} (h:jC n t s r=some y):y.1.place<W64:=by
 unfold jC at h
 obtain⟨x,hx,h⟩:=Option.bind_eq_some_iff.mp h
 obtain⟨p,hp,rfl⟩:=Option.map_eq_some_iff.mp h
 exact Nat.mod_lt _ (by rw[MX.gU];decide)
theorem SX {t:Told} (T:MX.wD t):∀op cq s rs r,s.place<W64→qr (fun s=>s.place<W64) wd id (xt t) rs (eY t op cq s rs r) (MX.fM t s op cq r):=by
 intro op cq s rs r hp
 by_cases h1:op=1
 ·subst h1
  refine qr.quiet (o:=kM cq t s r) (by simp[eY]) ?_ (fun y h=>?_)
  ·unfold kM
   by_cases hi:cq=1
   ·simp[MX.fM,hi]
   ·simp[MX.fM,hi]
  ·unfold kM at h
   split at h
   ·cases h;exact hp
   ·cases h
 by_cases h2:op=2
 ·subst h2
  refine qr.quiet (o:=jC cq t s r) (by simp[eY]) ?_ fun y h=>Ro h
  unfold jC
  unfold MX.fM
  rw[if_neg (by decide),if_pos rfl]
  cases uleb r with
  |none=>rfl
  |some x =>
   show(segmentAt t cq).map _=((segmentAt t cq).map _).map _
   rw[Option.map_map]
   rfl
 by_cases h3:op=3
 ·subst h3
  by_cases hi:cq=0
  ·subst hi
   have e1:eY t 3 0 s rs r=((uleb r).map fun x=>(({s with place:=(s.place+x.1)%W64}:Now),x.2)).map fun y=>(y.1,rs,y.2):=by
    unfold eY
    rw[if_pos (.inl rfl),if_neg (by decide),if_neg (by decide),if_pos rfl]
    cases uleb r with
    |none=>rfl
    |some x=>rfl
   refine qr.quiet e1 ?_ (fun y h=>?_)
   ·unfold MX.fM
    rw[if_neg (by decide),if_neg (by decide),if_pos rfl,if_neg (by simp),Option.map_map]
    rfl
   ·obtain⟨x,hx,rfl⟩:=Option.map_eq_some_iff.mp h
    exact LF
  ·have e1:eY t 3 cq s rs r=none:=by simp[eY,hi]
   have e2:MX.fM t s 3 cq r=none:=by simp[MX.fM,hi]
   rw[e1,e2]
   exact qr.none
 by_cases h4:op=4
 ·subst h4
  exact qr.quiet (o:=NB (8*cq) t s r) (by simp[eY]) (by simp[MX.fM,NB]) fun y h=>by
   cases h
   exact LF
 by_cases h5:op=5
 ·subst h5
  have e1:eY t 5 cq s rs r=(Hf cq 0 t s rs).map fun y=>(y.1,y.2,r):=by simp[eY]
  have e2:MX.fM t s 5 cq r=MX.Rk t s cq 0 r:=by simp[MX.fM]
  rw[e1,e2]
  exact EK T hp _ _ _ _
 by_cases hi:cq≠0
 ·have e1:eY t op cq s rs r=none:=by
   unfold eY
   rw[if_neg (by omega)]
  have e2:MX.fM t s op cq r=none:=by simp[MX.fM,hi,h1,h2,h3,h4,h5]
  rw[e1,e2]
  exact qr.none
 have hi:cq=0:=by omega
 subst hi
 by_cases h6:op=6
 ·subst h6
  have e1:eY t 6 0 s rs r=(uleb r).bind fun x=>(Hf x.1 0 t s rs).map fun y=>(y.1,y.2,x.2):=by simp[eY]
  have e2:MX.fM t s 6 0 r=(uleb r).bind fun x=>MX.Rk t s x.1 0 x.2:=by simp[MX.fM]
  rw[e1,e2]
  exact qr.bind fun x _=>EK T hp _ _ _ _
 by_cases h7:op=7
 ·subst h7
  have e1:eY t 7 0 s rs r=(uleb r).bind fun x=>(Hf 1 x.1 t s rs).map fun y=>(y.1,y.2,x.2):=by simp[eY]
  have e2:MX.fM t s 7 0 r=(uleb r).bind fun x=>MX.Rk t s 1 x.1 x.2:=by simp[MX.fM]
  rw[e1,e2]
  exact qr.bind fun x _=>EK T hp _ _ _ _
 by_cases h8:op=8
 ·subst h8
  have e1:eY t 8 0 s rs r=(uleb r).bind fun x=>(uleb x.2).bind fun y=>(Hf x.1 y.1 t s rs).map fun z=>(z.1,z.2,y.2):=by
   unfold eY
   rw[if_pos (.inl rfl),if_neg (by decide),if_neg (by decide),if_neg (by decide),if_neg (by decide),if_neg (by decide),if_neg (by decide),if_neg (by decide),if_pos rfl]
   cases uleb r with
   |none=>rfl
   |some x =>
    show((uleb x.2).bind _).map _=(uleb x.2).bind _
    cases uleb x.2 with
    |none=>rfl
    |some y =>
     show((Hf x.1 y.1 t s rs).map _).map _=_
     rw[Option.map_map]
     rfl
  have e2:MX.fM t s 8 0 r=(uleb r).bind fun x=>(uleb x.2).bind fun y=>MX.Rk t s x.1 y.1 y.2:=by simp[MX.fM]
  rw[e1,e2]
  exact qr.bind fun x _=>qr.bind fun y _=>EK T hp _ _ _ _
 have e1:eY t op 0 s rs r=none:=by simp[eY,h1,h2,h3,h4,h5,h6,h7,h8]
 have e2:MX.fM t s op 0 r=none:=by simp[MX.fM,h1,h2,h3,h4,h5,h6,h7,h8]
 rw[e1,e2]
 exact qr.none
theorem SY {t:Told} (T:MX.wD t) (part:Bytes) (d:Nat) (hd:d=part.length) :
 (∀rs,vX t part=some rs→mends t (d+1) {} part=some (rs.flatMap wd)∧∀r∈rs,xt t r)∧(vX t part=none→∀ms,mends t (d+1) {} part=some ms→distant ms=false):=by
 subst hd
 have A:ab9 (MX.fM t) (MX.lV t):=⟨MX.Ls t,MX.Iv t,fun s c r=>MX.Iw t s c r⟩
 have W:=GV A (SX T) (fun op cq s xs r y h=>JG op cq s xs r y h) (part.length+1) {} [] part (by rw[MX.gU];decide) (Nat.lt_succ_self _)
 unfold vX
 refine⟨fun rs h=>?_,fun h ms e=>?_⟩
 ·obtain⟨y,hy,rfl⟩:=Option.map_eq_some_iff.mp h
  obtain⟨l,e1,e2,e3⟩:=W.1 y hy
  have e1:y.2=l:=by rw[e1];rfl
  rw[e1]
  exact⟨e2,e3⟩
 ·rw[Option.map_eq_none_iff]at h
  have:=W.2 h ms e
  rw[List.map_id]at this
  exact this
end MI
namespace MI
open Rc31
def eW (u:Wn):List Want:=(wd u.r).map fun p=>⟨u.vY,u.name,u.plus,p⟩
structure S1 (t:Told) (u:Wn):Prop where
 r:xt t u.r
 lib1:1≤u.vY
 lib2:u.vY≤t.libraries.length
 aj4:u.name≠[]
 aeY:u.name.length≤255
 plus:u.plus<W64
structure YA (s:Now):Prop where
 place:s.place<W64
 plus:s.plus<W64
 name:∀nm,s.name=some nm→nm≠[]∧nm.length≤255
theorem EL:0<W64:=by rw[MX.gU];decide
theorem YB {b:Bytes} {x:Nat×Bytes} (h:sleb b=some x):x.1<W64:=by
 unfold sleb at h
 obtain⟨y,hy,h⟩:=Option.bind_eq_some_iff.mp h
 simp only[Option.some.injEq]at h
 rw[←h]
 dsimp only
 split
 ·exact Nat.mod_lt _ EL
 ·exact Nat.mod_lt _ EL
theorem EM {t:Told} (T:MX.wD t) {s:Now} (hp:YA s) (n skip:Nat) (ws:List Wn) (r:Bytes):qr YA eW (fun x=>x.word) (S1 t) ws ((GP n skip t s ws).map fun y=>(y.1,y.2,r)) (MX.Rl t s n skip r):=by
 unfold GP MX.Rl
 cases hnm:s.name with
 |none =>
  rw[if_neg (fun z=>z.2 rfl)]
  exact qr.none
 |some nm =>
  by_cases S3:1≤s.library∧s.library≤t.libraries.length
  ·rw[if_pos ⟨S3,fun z=>nomatch z⟩]
   unfold Cw
   by_cases hc:s.typed=true∧s.placed=true
   ·rw[if_pos hc]
    by_cases hn:n≤65536
    ·have zJ:¬(s.placed=false∨s.typed=false∨s.library=0∨t.libraries.length<s.library∨COUNT<n):=by
      rw[hc.1,hc.2]
      rintro(z|z|z|z|z)
      ·cases z
      ·cases z
      ·omega
      ·omega
      ·exact absurd hn (Nat.not_le_of_lt z)
     simp only[if_neg zJ]
     cases hr:t5 t n s.place skip with
     |none =>
      refine⟨(fun y e=>nomatch e),fun _ z e=>?_⟩
      obtain⟨x,hx,rfl⟩:=Option.map_eq_some_iff.mp e
      rw[List.map_map]
      show distant (x.1.map id)=false
      rw[List.map_id]
      exact Ll T hp.place hn hr hx
     |some y =>
      obtain⟨g1,g2,g3⟩:=ZW hp.place hr
      refine⟨fun z e=>?_,fun e=>nomatch e⟩
      cases e
      refine⟨[⟨⟨s.place,n,skip⟩,s.library,nm,s.plus⟩],rfl,by rw[g2];simp[eW,hnm],⟨g3,hp.plus,?_⟩,fun b hb=>by rw[List.mem_singleton.mp hb];exact⟨g1,S3.1,S3.2,(hp.name nm hnm).1,(hp.name nm hnm).2,hp.plus⟩⟩
      intro nm' h'
      exact hp.name nm' h'
    ·have:t5 t n s.place skip=none:=by unfold t5;rw[if_neg (fun z=>hn z.1)]
     rw[this]
     have zJ:(s.placed=false∨s.typed=false∨s.library=0∨t.libraries.length<s.library∨COUNT<n):=.inr (.inr (.inr (.inr (by show 65536<n;omega))))
     simp only[if_pos zJ]
     exact qr.none
   ·have zJ:(s.placed=false∨s.typed=false∨s.library=0∨t.libraries.length<s.library∨COUNT<n):=by
     cases h1:s.typed with
     |false=>exact .inr (.inl rfl)
     |true =>
      cases h2:s.placed with
      |false=>exact .inl rfl
      |true=>exact absurd ⟨h1,h2⟩ hc
    rw[if_neg hc]
    simp only[if_pos zJ]
    exact qr.none
  ·have zJ:(s.placed=false∨s.typed=false∨s.library=0∨t.libraries.length<s.library∨COUNT<n):=by omega
   rw[if_neg (fun z=>S3 z.1)]
   simp only[if_pos zJ]
   exact qr.none
theorem S4 {t:Told} (T:MX.wD t):∀op cq s ws r,YA s→qr YA eW (fun x=>x.word) (S1 t) ws (eO t op cq s ws r) (MX.eN t s op cq r):=by
 intro op cq s ws r hp
 by_cases h1:op=1
 ·subst h1
  exact qr.quiet (o:=some (({s with library:=cq}:Now),r)) (by simp[eO]) (by simp[MX.eN]) fun y h=>by
   cases h
   exact⟨hp.place,hp.plus,hp.name⟩
 by_cases h5:op=5
 ·subst h5
  refine qr.quiet (o:=kM cq t s r) (by simp[eO]) ?_ (fun y h=>?_)
  ·unfold kM
   by_cases hi:cq=1
   ·simp[MX.eN,hi]
   ·simp[MX.eN,hi]
  ·unfold kM at h
   split at h
   ·cases h;exact⟨hp.place,hp.plus,hp.name⟩
   ·cases h
 by_cases h7:op=7
 ·subst h7
  refine qr.quiet (o:=jC cq t s r) (by simp[eO]) ?_ fun y h=>?_
  ·unfold jC
   have e2:MX.eN t s 7 cq r=(uleb r).bind fun x=>(segmentAt t cq).map fun a=>([],{s with place:=(a+x.1)%W64,placed:=true},x.2):=by simp[MX.eN]
   rw[e2]
   cases uleb r with
   |none=>rfl
   |some x =>
    show(segmentAt t cq).map _=((segmentAt t cq).map _).map _
    rw[Option.map_map]
    rfl
  ·have h1:=Ro h
   unfold jC at h
   obtain⟨x,hx,h⟩:=Option.bind_eq_some_iff.mp h
   obtain⟨p,hp',rfl⟩:=Option.map_eq_some_iff.mp h
   exact⟨h1,hp.plus,hp.name⟩
 by_cases Yk:op=11
 ·subst Yk
  have e1:eO t 11 cq s ws r=(GP 1 (8*cq) t s ws).map fun y=>(y.1,y.2,r):=by simp[eO]
  have e2:MX.eN t s 11 cq r=MX.Rl t s 1 (8*cq) r:=by simp[MX.eN]
  rw[e1,e2]
  exact EM T hp _ _ _ _
 by_cases hi:cq≠0
 ·have e1:eO t op cq s ws r=none:=by
   unfold eO
   rw[if_neg (by omega)]
  have e2:MX.eN t s op cq r=none:=by simp[MX.eN,hi,h1,h5,h7,Yk]
  rw[e1,e2]
  exact qr.none
 have hi:cq=0:=by omega
 subst hi
 by_cases h2:op=2
 ·subst h2
  exact qr.quiet (o:=(uleb r).map fun x=>(({s with library:=x.1}:Now),x.2)) (by simp[eO];rfl) (by simp[MX.eN];rfl) fun y h=>by
   obtain⟨x,hx,rfl⟩:=Option.map_eq_some_iff.mp h
   exact⟨hp.place,hp.plus,hp.name⟩
 by_cases h4:op=4
 ·subst h4
  refine qr.quiet (o:=rg s r) (by simp[eO]) ?_ fun y h=>?_
  ·have e2:MX.eN t s 4 0 r=(textIn r).bind fun x=>if x.1.isEmpty=true then none else some ([],{s with name:=some x.1},x.2):=by simp[MX.eN]
   rw[e2]
   unfold rg
   cases textIn r with
   |none=>rfl
   |some x =>
    show(if x.1.isEmpty=true then none else _)=Option.map _ (if x.1.isEmpty=true then none else _)
    by_cases hx:x.1.isEmpty=true
    ·rw[if_pos hx,if_pos hx];rfl
    ·rw[if_neg hx,if_neg hx];rfl
  ·unfold rg at h
   obtain⟨x,hx,h⟩:=Option.bind_eq_some_iff.mp h
   by_cases Nj:x.1.isEmpty=true
   ·rw[if_pos Nj]at h;cases h
   ·rw[if_neg Nj]at h
    cases h
    refine⟨hp.place,hp.plus,fun nm e=>?_⟩
    cases e
    exact⟨fun z=>Nj (by rw[z];rfl),MX.GJ hx⟩
 by_cases h6:op=6
 ·subst h6
  exact qr.quiet (o:=(sleb r).map fun x=>(({s with plus:=x.1}:Now),x.2)) (by simp[eO];rfl) (by simp[MX.eN];rfl) fun y h=>by
   obtain⟨x,hx,rfl⟩:=Option.map_eq_some_iff.mp h
   exact⟨hp.place,YB hx,hp.name⟩
 by_cases h8:op=8
 ·subst h8
  refine qr.quiet (o:=(uleb r).map fun x=>(({s with place:=(s.place+x.1)%W64}:Now),x.2)) ?_ (by simp[MX.eN];rfl) fun y h=>?_
  ·have e1:eO t 8 0 s ws r=(uleb r).bind fun x=>(NB x.1 t s x.2).map fun y=>(y.1,ws,y.2):=by simp[eO]
   rw[e1]
   cases uleb r with
   |none=>rfl
   |some x=>rfl
  ·obtain⟨x,hx,rfl⟩:=Option.map_eq_some_iff.mp h
   exact⟨LF,hp.plus,hp.name⟩
 by_cases h9:op=9
 ·subst h9
  have e1:eO t 9 0 s ws r=(GP 1 0 t s ws).map fun y=>(y.1,y.2,r):=by simp[eO]
  have e2:MX.eN t s 9 0 r=MX.Rl t s 1 0 r:=by simp[MX.eN]
  rw[e1,e2]
  exact EM T hp _ _ _ _
 by_cases Vj:op=10
 ·subst Vj
  have e1:eO t 10 0 s ws r=(uleb r).bind fun x=>(GP 1 x.1 t s ws).map fun y=>(y.1,y.2,x.2):=by simp[eO]
  have e2:MX.eN t s 10 0 r=(uleb r).bind fun x=>MX.Rl t s 1 x.1 x.2:=by simp[MX.eN]
  rw[e1,e2]
  exact qr.bind fun x _=>EM T hp _ _ _ _
 by_cases ZK:op=12
 ·subst ZK
  have e1:eO t 12 0 s ws r=(uleb r).bind fun x=>(uleb x.2).bind fun y=>(GP x.1 y.1 t s ws).map fun z=>(z.1,z.2,y.2):=by
   have e0:eO t 12 0 s ws r=((Rc31.uleb r).bind fun x=>(Rc31.uleb x.2).bind fun y=>(GP x.1 y.1 t s ws).map fun z=>(z,y.2)).map fun z=>(z.1.1,z.1.2,z.2):=by
    unfold eO
    rw[if_pos (.inl rfl),if_neg (by decide),if_neg (by decide),if_neg (by decide),if_neg (by decide),if_neg (by decide),if_neg (by decide),if_neg (by decide),if_neg (by decide),if_neg (by decide),if_neg (by decide),if_pos rfl]
   rw[e0]
   cases uleb r with
   |none=>rfl
   |some x =>
    show((uleb x.2).bind _).map _=(uleb x.2).bind _
    cases uleb x.2 with
    |none=>rfl
    |some y =>
     show((GP x.1 y.1 t s ws).map _).map _=_
     rw[Option.map_map]
     rfl
  have e2:MX.eN t s 12 0 r=(uleb r).bind fun x=>(uleb x.2).bind fun y=>MX.Rl t s x.1 y.1 y.2:=by simp[MX.eN]
  rw[e1,e2]
  exact qr.bind fun x _=>qr.bind fun y _=>EM T hp _ _ _ _
 have e1:eO t op 0 s ws r=none:=by simp[eO,h1,h2,h4,h5,h6,h7,h8,h9,Vj,Yk,ZK]
 have e2:MX.eN t s op 0 r=none:=by simp[MX.eN,h1,h2,h4,h5,h6,h7,h8,h9,Vj,Yk,ZK]
 rw[e1,e2]
 exact qr.none
theorem S5 {t:Told} (T:MX.wD t) (part:Bytes) (d:Nat) (hd:d=part.length) :
 (∀ws,v9 t part=some ws→binds t (d+1) {} part=some (ws.flatMap eW)∧∀u∈ws,S1 t u)∧(v9 t part=none→∀ms,binds t (d+1) {} part=some ms→distant (ms.map fun x=>x.word)=false):=by
 subst hd
 have A:ab9 (MX.eN t) (MX.lW t):=⟨MX.Lu t,MX.Iy t,fun s c r=>MX.Iz t s c r⟩
 have W:=GV A (S4 T) (fun op cq s xs r y h=>JH op cq s xs r y h) (part.length+1) {} [] part ⟨EL,EL,(fun nm h=>nomatch h)⟩ (Nat.lt_succ_self _)
 unfold v9
 refine⟨fun ws h=>?_,fun h ms e=>?_⟩
 ·obtain⟨y,hy,rfl⟩:=Option.map_eq_some_iff.mp h
  obtain⟨l,e1,e2,e3⟩:=W.1 y hy
  have e1:y.2=l:=by rw[e1];rfl
  rw[e1]
  exact⟨e2,e3⟩
 ·rw[Option.map_eq_none_iff]at h
  exact W.2 h ms e
end MI
namespace PySem
open Sem (wp)
section
variable {prog:Program} {w:World} {A:Around} {E:Value→Shared→Prop} {s:Shared}
theorem P9 {R:Result→Shared→Prop} {S:Addr} {res:Value} {h:Heap} {tk c₁:Nat} {a c:Int} {I:Addr} (hh:A.handled=none) (hI:S≠I) (hit:IsLongIter h I a 0 c) (hS:h.get? S=some {cls:=.type "list",data:=.seq #[] c₁})
 (hR:∀h' tk' c',(∀b o,b≠S→b≠I→h.get? b=some o→h'.get? b=some o)→h'.get? S=some {cls:=.type "list",dict:=none,data:=.seq #[] c',slots:=#[]}→R (.ok (.ret res)) {s with heap:=h',toks:=tk'}) :
 codeAny (model prog w) A (.builtin "list.extend.loop" ⟨[.ref S,.ref I,res],[]⟩) R {s with heap:=h,toks:=tk}:=by
 have W:=(Walks.longrange (prog:=prog) (w:=w) (A:=A.in1) hh I a c 0).toS
 refine codeAny_extend_loopS W (by decide) S (fun z=>hI (List.mem_singleton.mp z)) res 0 0 _ #[] c₁ rfl (Nat.le_refl _) (by simpa using hit) hS (ItemsOf.nil _) fun s' Yh c' hm ZX aif=>?_
 rw[Moved.eq_with hm]
 have e:Yh=#[]:=Array.size_eq_zero_iff.mp aif.1
 subst e
 exact hR s'.heap s'.toks c' (fun b o h1 h2 q=>hm.heap b o (fun z=>(List.mem_cons.mp z).elim h1 fun z=>h2 (List.mem_singleton.mp z)) q) ZX
theorem Qa {Q:Value→Shared→Prop} {r:Addr} {a b c:Int} {t u v:Tok} (hh:A.handled=none) (hr:IsRange s.heap r a b c t u v) (abO:Builtin.Range.small a b c=false) (hn:Builtin.Range.rangeSize a b c=0)
 (hQ:∀h' tk c',(∀b o,s.heap.get? b=some o→h'.get? b=some o)→h'.get? s.heap.objs.size=some {cls:=.type "list",dict:=none,data:=.seq #[] c',slots:=#[]}→Q (.ref s.heap.objs.size) {s with heap:=h',toks:=tk}) :
 wpAny (model prog w) A (call (.type "list") [.ref r]) Q E s:=by
 refine callType_codes (Q₁:=fun obj s₁=>obj = .ref s.heap.objs.size∧s₁ = {s with heap:=s.heap.push {cls:=.type "list",data:=.seq #[]}}) F.called_list (F.typeCall_list_1 _) F.entry_list_init (code_list_new _ ⟨rfl,rfl⟩) fun obj s₁ h₁=>?_
 obtain⟨rfl,rfl⟩:=h₁
 have hS:(s.heap.push {cls:=.type "list",data:=.seq #[]}).get? s.heap.objs.size=some {cls:=.type "list",data:=.seq #[]}:=Heap.get?_push_size _ rfl
 refine⟨⟨_,hS,rfl⟩,F.args_list_init_2 _ _,?_⟩
 have nr:s.heap.objs.size≠r:=Ne.symm (Nat.ne_of_lt (Heap.lt_size hr))
 show wpAny _ _ (do let old ←Builtin.List.listItems (.ref s.heap.objs.size);Builtin.List.listUpdate (.ref s.heap.objs.size) (fun _=>#[]);letGo old.toList.reverse;Builtin.List.listExtendWith (.ref s.heap.objs.size) (.ref r) .none) _ _ _
 refine wpAny_bind ?_
 unfold Builtin.List.listItems
 refine wpAny_bind (wpAny_seqItems hS rfl (wpAny_pure ?_))
 show wpAny _ _ (updateSeq s.heap.objs.size (fun _=>#[]) >>= fun _=>letGo (#[]:Array Value).toList.reverse >>= fun _=>Builtin.List.listExtendWith (.ref s.heap.objs.size) (.ref r) .none) _ _ _
 refine wpAny_bind (wpAny_updateSeq hS rfl (wpAny_bind (wpAny_letGo ?_)))
 have hS2:=Heap.get?_update_self (Obj.mapSeq (fun _=>(#[]:Array Value))) hS rfl
 have old:∀b o,s.heap.get? b=some o→((s.heap.push {cls:=.type "list",data:=.seq #[]}).update s.heap.objs.size (Obj.mapSeq (fun _=>(#[]:Array Value)))).get? b=some o:=fun b o e=>(Heap.get?_update_other _ _ (Ne.symm (Nat.ne_of_lt (Heap.lt_size e)))).trans (Heap.get?_push_of_some _ e)
 generalize (s.heap.push {cls:=.type "list",data:=.seq #[]}).update s.heap.objs.size (Obj.mapSeq (fun _=>(#[]:Array Value)))=h2 at *
 unfold Builtin.List.listExtendWith
 have hr2:=old r _ hr
 refine wpAny_bind (wpAny_typeOf (T := "range") ⟨_,hr2,rfl⟩ ?_)
 have h1:Builtin.List.listSameRef (.ref s.heap.objs.size) (.ref r)=false:=by simp[Builtin.List.listSameRef,nr]
 have g2:(Value.type "range" == Value.type "list")=false:=by decide
 have g3:(Value.type "range" == Value.type "tuple")=false:=by decide
 simp only[h1,g2,g3,Bool.or_false,Bool.false_eq_true,if_false]
 refine wpAny_bind (wpAny_pyIter_longrange hr2 abO ?_)
 refine wpAny_bind (wpAny_holding (wpAny_hint_range (n:=0) (Heap.get?_push_of_some _ hr2) (by rw[hn];rfl) (by decide) ?_))
 refine wpAny_ite_split (fun z=>absurd z (by decide)) (fun _=>wpAny_pure ⟨plainId_quiet F.plain_extend_loop _,?_⟩)
 have oQ:s.heap.objs.size<h2.objs.size:=Heap.lt_size hS2
 refine P9 (s:=s) hh (Nat.ne_of_lt oQ) (a:=a) (c:=c) (by rw[←hn];exact Heap.get?_push_size _ rfl) (Heap.get?_push_of_some _ hS2) fun h' tk' c' k e=>?_
 refine⟨rfl,hQ h' tk' c' (fun b o q=>k b o (Nat.ne_of_lt (Heap.lt_size q)) (Nat.ne_of_lt (Nat.lt_trans (Heap.lt_size q) oQ)) (Heap.get?_push_of_some _ (old b o q))) e⟩
end
end PySem
namespace L2
open PySem PySem.Spec PyProof.Rows
section
variable {X:Cx}
theorem ID (hc:X.calm=true):oR X (.type "list") (fun xs H Q=>∃(r:Addr) (i j c:Int) (n:Nat),xs=[.ref r]∧H r=some (RgO i j c r)∧(Builtin.Range.small i j c=true∨n=0)∧Builtin.Range.rangeSize i j c=n∧n≤2^24 ∧
 ∀l,H l=none→Q (.ref l) (upd H l (.lst (((List.range n).map fun(k:Nat)=>i+(k:Int)*c).map V.int)))):=by
 intro pins s σ H xs us Q I r h
 obtain⟨ra,i,j,c,n,rfl,hr,hs,hn,hz,q⟩:=h
 cases hsm:Builtin.Range.small i j c with
 |true=>exact Lq hc pins s σ H _ us Q I r ⟨ra,i,j,c,n,rfl,hr,hsm,hn,hz,q⟩
 |false =>
  have n0:n=0:=hs.elim (fun z=>by rw[hsm]at z;cases z) id
  subst n0
  rw[Vals.Xd r]
  obtain⟨⟨t,u,v,hx⟩,_⟩:=I.cD ra _ hr
  refine Qa (I.ok.hd hc) hx hsm hn fun h' tk c' hk e=>?_
  exact⟨.ref s.heap.objs.size,_,I.laid (t':=tk) hk (Nat.le_refl _) (show eX X.prog X.w _ h' _ (.lst _) from ⟨Nat.zero_le _,[],c',.nil,e⟩),rfl,q _ (I.cD.fresh (Nat.le_refl _))⟩
end
end L2
namespace MI
open PySem L2
theorem xt.pl {t:Rc31.Told} (T:MX.wD t) {r:Rn} (k:xt t r) {i:Nat} (hi:i<r.n):(MX.bQ r.p r.skip i:Int)=(r.p:Int)+MX.aD r.n r.skip*(i:Int)∧MX.bQ r.p r.skip i+8≤4194304:=⟨MX.pJ T k.p k.row i hi,T.Lk (k.row i hi)⟩
theorem xt.str {t:Rc31.Told} (T:MX.wD t) {r:Rn} (k:xt t r):-4194304<MX.aD r.n r.skip∧MX.aD r.n r.skip<4194304:=by
 by_cases h:r.n<2
 ·unfold MX.aD
  rw[if_pos h]
  decide
 ·have h0:=k.pl T (i:=0) (by omega)
  have h1:=k.pl T (i:=1) (by omega)
  have e0:MX.aD r.n r.skip*((0:Nat):Int)=0:=by simp
  have e1:MX.aD r.n r.skip*((1:Nat):Int)=MX.aD r.n r.skip:=by simp
  rw[e0]at h0
  rw[e1]at h1
  omega
theorem NJ (r:Rn):(wd r).length=r.n:=by
 unfold wd
 rw[List.length_map,List.length_range]
theorem YC {t:Rc31.Told} (T:MX.wD t) {r:Rn} (k:xt t r):((List.range r.n).map fun(i:Nat)=>(r.p:Int)+(i:Int)*MX.aD r.n r.skip).map V.int=nv (wd r):=by
 unfold nv wd
 rw[List.map_map,List.map_map]
 refine List.map_congr_left fun i hi=>?_
 have:=(k.pl T (List.mem_range.mp hi)).1
 show V.int _=V.int _
 rw[this,Int.mul_comm]
theorem aca (p s:Int) (n:Nat) (hs:s≠0):Builtin.Range.rangeSize p (p+s*(n:Int)) s=(n:Int):=by
 unfold Builtin.Range.rangeSize
 by_cases h:s>0
 ·rw[if_pos h]
  by_cases hn:n=0
  ·subst hn
   rw[if_neg (by simp)]
   rfl
  ·have h1:0<s*(n:Int):=Int.mul_pos h (by omega)
   rw[if_pos (by omega)]
   have e:p+s*(n:Int)-p-1=(s-1)+s*((n:Int)-1):=by
    rw[Int.mul_sub]
    omega
   rw[e,Int.add_mul_ediv_left _ _ (by omega),Int.ediv_eq_zero_of_lt (by omega) (by omega)]
   omega
 ·rw[if_neg h]
  by_cases hn:n=0
  ·subst hn
   rw[if_neg (by simp)]
   rfl
  ·have h1:0<(-s)*(n:Int):=Int.mul_pos (by omega) (by omega)
   rw[Int.neg_mul]at h1
   rw[if_pos (by omega)]
   have e:p-(p+s*(n:Int))-1=(-s-1)+(-s)*((n:Int)-1):=by
    rw[Int.mul_sub,Int.neg_mul]
    omega
   rw[e,Int.add_mul_ediv_left _ _ (by omega),Int.ediv_eq_zero_of_lt (by omega) (by omega)]
   omega
section
variable {g:Gm} {a:Ad}
def VM (a:Ad):Sp:=fun vs H Q E=>∃(x:Addr) (t:Rc31.Told) (r:Rn),vs=[.ref x]∧pK a H x (r.p:Int) r.n (MX.aD r.n r.skip)∧MX.wD t∧xt t r∧∀l H',H' l=some (.lst (nv (wd r)))→H l=none→ax H H'→Q (.ref l) H'
theorem IE (T:Tx g.K g.mg a):Pr g 2 a.yG ["self"] (VM a):=by
 refine Pr.on T.Ai Hn fun cF A outer s H vs Q E hr h=>?_
 obtain⟨x,t,r,rfl,⟨d,hx⟩,tok,YD,k⟩:=h
 refine⟨_,ag (aS (wu (ID rfl) (by rfl) T.OH PyProof.Rows.boot_list (aa (SK rfl T.sf (aa (ar (pv 0) rfl) (aa (cK (pv 0) (iu T) T.dR T.fO au hr (by decide) (aa (ar (pv 0) rfl) ai)) (aa (ar (pv 0) rfl) ai)))) ai))),?_⟩
 have jf:=YD.str tok
 have hs8:=YD.s
 have hn:=YD.n
 generalize hS:MX.aD r.n r.skip=S at *
 refine⟨_,rfl,x,_,d,_,_,rfl,hx,T.dR,T.gA,vj,_,rfl,x,d,_,rfl,hx,gE,_,rfl,x,_,d,_,_,rfl,hx,T.dR,T.cH,gu,x,_,_,_,_,rfl,⟨d,hx⟩,⟨by omega,by omega⟩,_,rfl,x,_,d,_,_,rfl,hx,T.dR,T.dW,m5,_,_,_,rfl,(by omega),(by omega),fun rr hrr=>?_⟩
 have hsz:Builtin.Range.rangeSize (r.p:Int) ((r.p:Int)+S*(r.n:Int)) S=(r.n:Int):=aca _ _ _ (by omega)
 have anc:-4194304*65536≤S*(r.n:Int)∧S*(r.n:Int)≤4194304*65536:=by
  have h1:S*(r.n:Int)≤4194304*(r.n:Int):=Int.mul_le_mul_of_nonneg_right (by omega) (by omega)
  have h2:-4194304*(r.n:Int)≤S*(r.n:Int):=Int.mul_le_mul_of_nonneg_right (by omega) (by omega)
  omega
 refine⟨rr,_,_,_,r.n,rfl,af,?_,hsz,Nat.le_trans hn (by decide),fun l hl=>?_⟩
 ·by_cases Rm:r.n=0
  ·exact .inr Rm
  ·left
   have h0:=YD.pl tok (i:=0) (by omega)
   rw[hS,show S*((0:Nat):Int)=0 by simp]at h0
   have hp:(r.p:Int)<4194304:=by omega
   unfold Builtin.Range.small
   rw[hsz]
   unfold Builtin.Range.rangeFitsLong
   generalize hm:S*(r.n:Int)=m at *
   simp only[Bool.and_eq_true,decide_eq_true_eq,Bool.or_eq_true]
   refine⟨⟨⟨⟨⟨by omega,by omega⟩,by omega,by omega⟩,by omega,by omega⟩,by omega,by omega⟩,.inr ?_⟩
   split
   ·simp only[Bool.and_eq_true,decide_eq_true_eq]
    exact⟨by omega,by omega⟩
   ·simp only[Bool.and_eq_true,decide_eq_true_eq]
    exact⟨by omega,by omega⟩
 ·have e:=YC tok YD
  rw[hS]at e
  rw[e]
  exact k l _ af ((ax.upd hrr).free hl) ((ax.upd hrr).trans (ax.upd hl))
def outs (rs:List Rn):List Nat:=rs.flatMap wd
def Qb (a:Ad):Sp:=fun vs H Q E=>∃(x:Addr) (ra:List Addr) (t:Rc31.Told) (rs:List Rn),vs=[.ref x]∧H x=some (.lst (ra.map V.ref))∧Lv a H ra rs∧MX.wD t∧(∀r∈rs,xt t r)∧(outs rs).length≤sizeLine∧∀l H',H' l=some (.lst (nv (outs rs)))→H l=none→ax H H'→Q (.ref l) H'
theorem S6 (rs:List Rn) (r:Rn):outs (rs++[r])=outs rs++wd r:=by
 unfold outs
 rw[List.flatMap_append]
 simp
theorem S7 (rs:List Rn) (k:Nat):(outs (rs.take k)).length≤(outs rs).length:=by
 conv=>rhs;rw[←List.take_append_drop k rs]
 unfold outs
 rw[List.flatMap_append,List.length_append]
 omega
theorem LG (a b:List Nat):nv (a++b)=nv a++nv b:=List.map_append ..
theorem Bu (T:Tx g.K g.mg a):Pr g 3 a.BP ["runs"] (Qb a):=by
 refine Pr.on T.CU rO fun cF A outer s H vs Q E hr h=>?_
 obtain⟨x,ra,t,rs,rfl,hx,pr,tok,YD,hz,k⟩:=h
 refine⟨_,ae (aI (i:=1) rO.nd rfl (Or.inl rfl) (cv ai))
  (ae (l7 tU rfl (lh (pv 0)) (dH (i:=2) rO.nd rfl (Or.inl rfl)) (ag (aR (ue PySem.F.plainAttrs_list PySem.F.slot_list_extend PySem.F.type_list_extend Jd (pv 1) (aa (a6 (pv 2) (IE T) T.dR T.AA au hr (by decide)) ai)))))
  (ag (aS (pv 1)))),?_⟩
 refine⟨Nat.zero_le _,fun l hl=>?_⟩
 have s1:ax H (upd H l (.lst [])):=ax.upd hl
 refine⟨_,rfl,x,rfl,⟨_,bO.of (s1 _ _ hx)⟩,ud (K:=g.K) (a:=x) (xs:=ra.map V.ref) (fun i σ H2=>∃v2,σ=[some (.ref x),some (.ref l),v2]∧H2 l=some (.lst (nv (outs (rs.take i))))∧ax H H2) ⟨none,rfl,af,s1⟩ (fun i σ H2 _ ⟨_,_,_,q⟩=>bO.of (q _ _ hx)) ?_ ?_⟩
 ·rintro i y σ H2 hy ⟨v2,rfl,hL,sH⟩
  rw[List.getElem?_map]at hy
  obtain⟨y,ZV,rfl⟩:=Option.map_eq_some_iff.mp hy
  obtain⟨r,hr',⟨d,hy⟩⟩:=iw pr ZV
  have hrm:r∈rs:=List.mem_of_getElem? hr'
  have hy2:=sH _ _ hy
  refine⟨_,rfl,.inl ⟨rfl,_,bO.of hL⟩,_,rfl,y,d,_,rfl,hy2,DW,y,t,r,rfl,⟨d,hy2⟩,tok,YD r hrm,fun p H3 hp np s3=>?_⟩
  have e:outs (rs.take (i+1))=outs (rs.take i)++wd r:=by rw[gK hr',S6]
  have hL3:=s3 _ _ hL
  refine⟨l,p,_,_,rfl,rfl,hL3,hp,?_,?_⟩
  ·have:=S7 rs (i+1)
   rw[e,List.length_append]at this
   rw[lg,lg]
   omega
  ·refine⟨_,rfl,?_,wb (sH.trans s3) hl⟩
   rw[af,←LG,←e]
 ·rintro σ H2 ⟨v2,rfl,hL,sH⟩
  rw[List.length_map,Paired.length pr,List.take_length]at hL
  exact⟨_,rfl,k l H2 hL hl sH⟩
end
end MI
namespace L2
open PySem PySem.Spec PyProof.Rows
section
variable {X:Cx} {a:Expr} {ta:TE} {pos:Pos}
theorem YE (ha:PE X a ta):PE X (.UnaryOp .Not a pos) (fun σ H Q=>ta σ H fun x H'=>∃k,WT X.K x H' k∧Q (.bl (!k)) H'):=by
 intro pins s σ H Q I h
 refine UnaryOp_ (dj (ha pins s σ H _ I h) fun v s1 ⟨x,H1,I1,r1,k,tk,q1⟩=>?_)
 exact not_of (dj (T1 pins s1 σ H1 x v (fun k' H'=>Q (.bl (!k')) H') I1 r1 ⟨k,tk,q1⟩) fun b s2 ⟨H2,I2,q2⟩=>⟨.bl (!b),H2,I2,rfl,q2⟩)
theorem acb {K:PySem.W.Frag} {a b:Addr} {xs ys:List V} {g:TG} {tt:TT} {te:TE} {vs:List Nat} {σ:St} {H1:Hp} {D:Addr} {Qd:Hp→Prop} (Pv:Nat→Hp→Prop) (h0:Pv 0 (upd H1 D (.lst []))) (hl:∀i H,i≤min xs.length ys.length→Pv i H→bO K H a xs∧bO K H b ys)
 (hs:∀i x y T H,xs[i]?=some x→ys[i]?=some y→Pv i H→H T=none→g (.ref T) (wipe σ vs) (upd H T (.tup [x,y])) fun σ2 H2=>wipe σ2 vs=wipe σ vs∧tt σ2 H2 fun b H3 =>
  if b=true then te σ2 H3 fun y H4=>∃acc,H4 D=some (.lst acc)∧acc.length<sizeLine∧Pv (i+1) (upd H4 D (.lst (acc++[y]))) else Pv (i+1) H3) (hd:∀H,Pv (min xs.length ys.length) H→Qd H) :
 ∃W:Nat→Nat→Hp→Prop,(∃m,W 0 m (upd H1 D (.lst [])))∧∀i m H,W i m H →
  ((Itz K a b).stop i H∧Qd H)∨((Itz K a b).go i H∧∃Nx:Hp→Prop,(∀H',Nx H'→∃m',m'<m∧W (i+1) m' H')∧∀x H',(Itz K a b).WQ i H x H'→g x (wipe σ vs) H' fun σ2 H2=>wipe σ2 vs=wipe σ vs∧tt σ2 H2 fun b H3 =>
   if b=true then te σ2 H3 fun y H4=>∃acc,H4 D=some (.lst acc)∧acc.length<sizeLine∧Nx (upd H4 D (.lst (acc++[y]))) else Nx H3):=by
 refine⟨fun i m H=>m=min xs.length ys.length-i∧i≤min xs.length ys.length∧Pv i H,⟨_,rfl,Nat.zero_le _,h0⟩,?_⟩
 rintro i m H ⟨rfl,hi,p⟩
 obtain⟨q1,q2⟩:=hl i H hi p
 by_cases oQ:i<min xs.length ys.length
 ·have l1:i<xs.length:=by omega
  have l2:i<ys.length:=by omega
  refine .inr ⟨⟨xs,ys,xs[i],ys[i],q1,q2,by simp[l1],by simp[l2]⟩,Pv (i+1),fun H' p'=>⟨min xs.length ys.length-(i+1),by omega,rfl,oQ,p'⟩,fun x H' y=>?_⟩
  obtain⟨T,u,v,rfl,hT,rfl,e1,e2⟩:=y
  exact hs i u v T H (e1 xs q1) (e2 ys q2) p hT
 ·have e:i=min xs.length ys.length:=by omega
  subst e
  exact .inl ⟨⟨xs,ys,q1,q2,by omega⟩,hd H p⟩
end
end L2
namespace MI
open PySem L2
theorem VN (xs:List V):zQ xs (some (1:Int)) none=xs.tail:=by
 unfold zQ
 have e:HT.Hk xs.length 0 (some (1:Int))=min 1 xs.length:=HT.zP xs.length 0 1
 rw[e,HT.E8]
 cases xs with
 |nil=>rfl
 |cons x r =>
  rw[List.length_cons,Nat.min_eq_left (by omega)]
  show(r.take (r.length+1-1))=r
  rw[Nat.add_sub_cancel,List.take_length]
theorem YF (l:List Nat):(nv l).tail=nv l.tail:=by cases l<;>rfl
def sX (l:List (Nat×Nat)):List Nat:=(l.filter fun p=>decide (p.2<p.1+8)).map fun p=>p.2
theorem Qc {l:List (Nat×Nat)}:sX l=[]↔∀x∈l,x.1+8≤x.2:=by
 unfold sX
 rw[List.map_eq_nil_iff,List.filter_eq_nil_iff]
 constructor
 ·intro h x hx
  have:=h x hx
  simp at this
  omega
 ·intro h x hx
  have:=h x hx
  simp
  omega
theorem NK (l:List (Nat×Nat)) (p:Nat×Nat):sX (l++[p])=sX l++if p.2<p.1+8 then[p.2] else[]:=by
 unfold sX
 rw[List.filter_append,List.map_append]
 congr 1
 by_cases h:p.2<p.1+8
 ·rw[if_pos h]
  simp[h]
 ·rw[if_neg h]
  simp[h]
theorem NL:∀rs:List Rn,(rs.map fun r=>(r.n:Int)).sum=((outs rs).length:Int)
 | []=>rfl
 |r::rs=>by
  have ih:=NL rs
  show(r.n:Int)+(rs.map fun r=>(r.n:Int)).sum=((wd r++outs rs).length:Int)
  rw[ih,List.length_append,NJ]
  omega
theorem YG {ns:List Nat} {ks:List Int} (p:ks.Perm (ns.map fun(n:Nat)=>(n:Int))) (w:ks.Pairwise (·≤·)):∃ms:List Nat,ks=ms.map (fun(n:Nat)=>(n:Int))∧ms.Perm ns∧ms.Pairwise (·≤·):=by
 have e:ks=(ks.map Int.toNat).map fun(n:Nat)=>(n:Int):=by
  rw[List.map_map]
  conv=>lhs;rw[←List.map_id ks]
  refine List.map_congr_left fun x hx=>?_
  obtain⟨n,_,rfl⟩:=List.mem_map.mp (p.mem_iff.mp hx)
  rfl
 refine⟨ks.map Int.toNat,e,?_,?_⟩
 ·have h:=p.map Int.toNat
  rw[List.map_map]at h
  have e2:ns.map (Int.toNat∘fun(n:Nat)=>(n:Int))=ns:=by
   conv=>rhs;rw[←List.map_id ns]
   exact List.map_congr_left fun x _=>rfl
  rw[e2]at h
  exact h
 ·rw[List.pairwise_map]
  exact w.imp fun q=>by omega
section
variable {g:Gm} {a:Ad}
def VO (a:Ad):Sp:=fun vs H Q E=>∃(x:Addr) (ra:List Addr) (t:Rc31.Told) (rs:List Rn) (L:Nat),vs=[.ref x,.int (L:Int)]∧H x=some (.lst (ra.map V.ref))∧Lv a H ra rs∧MX.wD t∧(∀r∈rs,xt t r)∧(∀q∈outs rs,q+8≤L)∧rs.length≤sizeLine∧L≤4194304 ∧
 (Rc31.distant (outs rs)=false→∀H',ax H H'→E (.ref a.aE) none H')∧(Rc31.distant (outs rs)=true→∀H',ax H H'→Q .de H')
theorem GW (T:Tx g.K g.mg a):Pr g 4 a.uP ["runs","length"] (VO a):=by
 refine Pr.on T.xD eo fun cF A outer s H vs Q E hr h=>?_
 obtain⟨x,ra,t,rs,L,rfl,hx,pr,tok,YD,Uu,hrs,hL,k0,k1⟩:=h
 refine⟨_,ae (az (aB T) au hr (by decide) T.aA (aH iK (aV (Oo rfl) (by rfl) T.Q0 PyProof.Rows.boot_sum (aa (Cp (te:=J1 g.K (zK 4) "count") JA rfl eo.nd (lh (pv 0)) (nG (N:=["runs","length","places","close","run","before","after"]) (sc:=aq jg) (own:=[("run",4)]) (by decide +kernel)) (fun _ _ _ _ _ _=>dH (i:=4) eo.nd rfl (Or.inl rfl)) (fun _ _ _ _ _ _ _=>zT) (fun _ _ _ _ _ _ pass=>ar (pv 4) rfl)) ai)) (aO JZ (pv 1) (pk T.mm)) (aC _)))
  (ae (aI (i:=2) eo.nd rfl (Or.inl rfl) (aV Lp (by rfl) T.Mw PyProof.Rows.boot_sorted (aa (aU (Bu T) au hr (by decide) T.uZ (aa (pv 0) ai)) ai)))
  (ae (Ul (i:=3) (g:=adj g.K 2 (TM (IS 5) (TM (IS 6) adi))) (own:=[("before",5),("after",6)]) rfl eo.nd rfl rfl (Xh rfl rfl rfl (by decide +kernel)) (aaU rfl T.UP (aa (pv 2) (aa (jH mX (pv 2) (gV ak) Ez) ai))) (nG (N:=["runs","length","places","close","run","before","after"]) (sc:=aq jg) (own:=[("before",5),("after",6)]) (by decide +kernel)) (fun _ _ _ _ _=>by exact aal (n:=2) rfl (L5 (by exact dH (i:=5) eo.nd rfl (Or.inl rfl)) (L5 (by exact dH (i:=6) eo.nd rfl (Or.inl rfl)) WO))) (fun _ _ _ _ _=>QL (bG nE (aO gx (pv 6) (pv 5)) (pk T.mm) (aC _))) (fun _ _ _ _ _=>pv 6))
  (ag (az (aB T) au hr (by decide) T.aA (YE (pv 3)))))),?_⟩
 refine⟨_,rfl,x,rfl,⟨_,bO.of hx⟩,fun D hD=>?_⟩
 refine zV (K:=g.K) (a:=x) (xs:=ra.map V.ref) (fun i H4=>H4 D=some (.lst (((rs.take i).map fun r=>(r.n:Int)).map V.int))∧ax H H4) ⟨af,ax.upd hD⟩ (fun i H4 _ ⟨_,s4⟩=>bO.of (s4 _ _ hx)) ?_ ?_
 ·rintro i y H4 hi ⟨Rj,s4⟩
  obtain⟨y,hy,rfl⟩:=pH hi
  obtain⟨r,hq,⟨d,hyy⟩⟩:=iw pr hy
  obtain⟨oQ,_⟩:=List.getElem?_eq_some_iff.mp hq
  refine⟨rfl,Ri ?_⟩
  refine⟨_,rfl,y,_,d,_,_,rfl,s4 _ _ hyy,T.dR,T.cH,gu,_,Rj,?_,?_,?_⟩
  ·rw[List.length_map,List.length_map,List.length_take]
   omega
  ·rw[af,gK hq,List.map_append,List.map_append]
   rfl
  ·intro z o e
   rw[aj (ao e hD)]
   exact s4 _ _ e
 ·rintro H4 ⟨Rj,s4⟩
  rw[List.length_map,bu pr,List.take_of_length_le (Nat.le_refl _)]at Rj
  refine⟨D,_,rfl,bO.of Rj,_,rfl,_,_,rfl,rfl,⟨(by decide:(0:Int)<8),(by decide:(8:Int)<1073741824)⟩,_,_,rfl,rfl,_,rfl,?_⟩
  rw[NL]
  refine aw (fun c1=>?_) fun c1=>k0 ?_ _ s4
  ·have hlen:(outs rs).length≤524288:=by omega
   have hsz:sizeLine=16777216:=sizeLine_eq
   refine⟨_,rfl,x,ra,t,rs,rfl,s4 _ _ hx,Paired.ua pr fun _ _ q=>q.same s4,tok,YD,by omega,fun l H5 hl nl s5=>⟨l,(outs rs).map fun(n:Nat)=>(n:Int),rfl,bO.of (by rw[hl];unfold nv;rw[List.map_map];rfl),fun Ep p perm pw hp=>?_⟩⟩
   obtain⟨ms,rfl,pm,pw⟩:=YG perm pw
   have sA:ax H H5:=s4.trans s5
   have emn:(ms.map fun(n:Nat)=>(n:Int)).map V.int=nv ms:=by unfold nv;rw[List.map_map];rfl
   rw[emn]
   have sB:ax H5 (upd H5 p (.lst (nv ms))):=ax.upd hp
   have Tz:upd H5 p (.lst (nv ms)) p=some (.lst (nv ms)):=af
   generalize upd H5 p (.lst (nv ms))=H6 at *
   have sAB:=sA.trans sB
   refine⟨_,rfl,_,rfl,_,rfl,p,_,rfl,bO.of Tz,fun p2 hp2=>?_⟩
   rw[VN,YF]
   have sC:ax H6 (upd H6 p2 (.lst (nv ms.tail))):=ax.upd hp2
   have hp7:=sC _ _ Tz
   have ae0:upd H6 p2 (.lst (nv ms.tail)) p2=some (.lst (nv ms.tail)):=af
   generalize upd H6 p2 (.lst (nv ms.tail))=H7 at *
   have aij:=sAB.trans sC
   have lms:ms.length≤524288:=by rw[pm.length_eq];exact hlen
   have lz:(ms.zip ms.tail).length=min (nv ms).length (nv ms.tail).length:=by rw[List.length_zip,lg,lg]
   refine⟨p,p2,_,_,rfl,bO.of hp7,bO.of ae0,fun D2 hD2=>acb (K:=g.K) (a:=p) (b:=p2) (xs:=nv ms) (ys:=nv ms.tail) (fun i H8=>H8 D2=some (.lst (nv (sX ((ms.zip ms.tail).take i))))∧ax H7 H8) ⟨af,ax.upd hD2⟩ (fun i H8 _ ⟨_,s8⟩=>⟨bO.of (s8 _ _ hp7),bO.of (s8 _ _ ae0)⟩) ?_ ?_⟩
   ·rintro i u v T8 H8 hu hv ⟨hd8,s8⟩ hT
    rw[Vg]at hu hv
    obtain⟨m1,h1,rfl⟩:=Option.map_eq_some_iff.mp hu
    obtain⟨m2,h2,rfl⟩:=Option.map_eq_some_iff.mp hv
    have hz:(ms.zip ms.tail)[i]?=some (m1,m2):=by rw[List.getElem?_zip_eq_some];exact⟨h1,h2⟩
    obtain⟨oQ,_⟩:=List.getElem?_eq_some_iff.mp hz
    have nDT:D2≠T8:=ao hd8 hT
    have hd9:upd H8 T8 (.tup [V.int (m1:Int),V.int (m2:Int)]) D2=some (.lst (nv (sX ((ms.zip ms.tail).take i)))):=by rw[aj nDT];exact hd8
    have s9:ax H7 (upd H8 T8 (.tup [V.int (m1:Int),V.int (m2:Int)])):=s8.trans (ax.upd hT)
    refine⟨T8,_,rfl,tS.of af,rfl,_,_,rfl,_,_,rfl,rfl,rfl,_,rfl,_,rfl,_,_,rfl,rfl,_,_,rfl,rfl,_,rfl,?_⟩
    have eS:=NK ((ms.zip ms.tail).take i) (m1,m2)
    rw[←gK hz]at eS
    refine aw (fun c2=>?_) fun c2=>?_
    ·rw[if_pos (by show m2<m1+8;omega)]at eS
     refine⟨_,rfl,_,hd9,?_,?_,?_⟩
     ·rw[lg]
      unfold sX
      rw[List.length_map]
      refine Nat.lt_of_le_of_lt (List.length_filter_le _ _) ?_
      rw[List.length_take]
      have:=List.length_zip (l₁:=ms) (l₂:=ms.tail)
      omega
     ·rw[af,eS,LG]
      rfl
     ·intro z o e
      rw[aj (ao e hD2)]
      exact s9 _ _ e
    ·rw[if_neg (by show ¬m2<m1+8;omega),List.append_nil]at eS
     exact⟨by rw[eS];exact hd9,s9⟩
   ·rintro H8 ⟨hd8,s8⟩
    rw[←lz,List.take_length]at hd8
    have s8':=aij.trans s8
    have ZY:=(MX.vS pm pw).trans (MX.yk.trans Qc.symm)
    refine⟨_,rfl,_,.inl ⟨_,bO.of hd8,rfl⟩,_,rfl,?_⟩
    cases oJ:sX (ms.zip ms.tail) with
    |nil=>exact iA (k1 (ZY.mpr oJ) _ s8')
    |cons z zs =>
     refine eg (k0 ?_ _ s8')
     cases hd:Rc31.distant (outs rs) with
     |false=>rfl
     |true =>
      have:=ZY.mp hd
      rw[oJ]at this
      cases this
  ·cases hd:Rc31.distant (outs rs) with
   |false=>rfl
   |true =>
    have:=MX.Bn hd Uu
    exact absurd (by omega) c1
end
end MI
namespace MX
open Rc31
theorem sY {b x:Bytes} {i:Nat} (h:i+x.length≤b.length):(put b i x).length=b.length:=by
 unfold put
 rw[List.length_append,List.length_append,List.length_take,List.length_drop]
 omega
theorem kx {b x:Bytes} {i:Nat} (h:i+x.length≤b.length) (k:Nat):(put b i x)[k]?=if k<i then b[k]? else if k<i+x.length then x[k-i]? else b[k]?:=by
 unfold put
 have h1:(b.take i).length=i:=by rw[List.length_take];omega
 by_cases hk:k<i
 ·rw[if_pos hk,List.getElem?_append_left (by omega),List.getElem?_take,if_pos hk]
 ·rw[if_neg hk,List.getElem?_append_right (by omega),h1]
  by_cases hk2:k<i+x.length
  ·rw[if_pos hk2,List.getElem?_append_left (by omega)]
  ·rw[if_neg hk2,List.getElem?_append_right (by omega),List.getElem?_drop]
   congr 1
   omega
theorem kz (n x:Nat):(le n x).length=n:=by
 unfold le
 rw[List.length_map,List.length_range]
def IF (l:Bytes):Nat:=l.foldr (fun c x=>c.toNat+256*x) 0
theorem LH (b:Bytes) (i n:Nat):num b i n=IF ((b.drop i).take n):=rfl
theorem YH {a b:Bytes} {i n:Nat} (h:∀k,i≤k→k<i+n→a[k]?=b[k]?):(a.drop i).take n=(b.drop i).take n:=by
 refine List.ext_getElem? fun k=>?_
 rw[List.getElem?_take,List.getElem?_take,List.getElem?_drop,List.getElem?_drop]
 by_cases hk:k<n
 ·rw[if_pos hk,if_pos hk,h (i+k) (by omega) (by omega)]
 ·rw[if_neg hk,if_neg hk]
theorem LI {a b:Bytes} {i n:Nat} (h:∀k,i≤k→k<i+n→a[k]?=b[k]?):num a i n=num b i n:=by
 rw[LH,LH,YH h]
theorem Rp:∀l:Bytes,IF l<256^l.length
 | []=>by decide
 |c::l=>by
  have ih:=Rp l
  have hc:=c.toNat_lt
  show c.toNat+256*IF l<256^(l.length+1)
  rw[Nat.pow_succ]
  omega
theorem le_succ (n x:Nat):le (n+1) x=UInt8.ofNat (x%256)::le n (x/256):=by
 unfold le
 rw[List.range_succ_eq_map,List.map_cons,List.map_map]
 congr 1
 ·rw[Nat.pow_zero,Nat.div_one]
 ·refine List.map_congr_left fun i _=>?_
  show UInt8.ofNat (x/256^(i+1)%256)=UInt8.ofNat (x/256/256^i%256)
  rw[Nat.pow_succ,Nat.mul_comm,←Nat.div_div_eq_div_mul]
theorem Qe (n:Nat):(UInt8.ofNat (n%256)).toNat=n%256:=by
 rw[UInt8.toNat_ofNat']
 exact Nat.mod_eq_of_lt (Nat.mod_lt _ (by decide))
theorem Rq:∀(n x:Nat),IF (le n x)=x%256^n
 |0,x=>by
  show 0=x%256^0
  rw[Nat.pow_zero,Nat.mod_one]
 |n+1,x=>by
  rw[le_succ]
  show(UInt8.ofNat (x%256)).toNat+256*IF (le n (x/256))=x%256^(n+1)
  rw[Qe,Rq n,Nat.pow_succ,Nat.mul_comm (256^n) 256,Nat.mod_mul]
theorem Rr:∀l:Bytes,le l.length (IF l)=l
 | []=>rfl
 |c::l=>by
  have hc:=c.toNat_lt
  have ih:=Rr l
  show le (l.length+1) (c.toNat+256*IF l)=c::l
  rw[le_succ]
  have e1:(c.toNat+256*IF l)%256=c.toNat:=by omega
  have e2:(c.toNat+256*IF l)/256=IF l:=by omega
  rw[e1,e2,ih]
  congr 1
  exact UInt8.ofNat_toNat
theorem YI {b x:Bytes} {i:Nat} (h:i+x.length≤b.length):((put b i x).drop i).take x.length=x:=by
 refine List.ext_getElem? fun k=>?_
 rw[List.getElem?_take,List.getElem?_drop,kx h]
 by_cases hk:k<x.length
 ·rw[if_pos hk,if_neg (by omega),if_pos (by omega)]
  congr 1
  omega
 ·rw[if_neg hk,List.getElem?_eq_none (by omega)]
theorem YJ {b:Bytes} {i x:Nat} (h:i+8≤b.length) (hx:x<W64):num (put b i (le 8 x)) i 8=x:=by
 rw[LH]
 have:=YI (b:=b) (x:=le 8 x) (i:=i) (by rw[kz];exact h)
 rw[kz]at this
 rw[this,Rq]
 exact Nat.mod_eq_of_lt (by rw[gU]at hx;exact hx)
theorem acd {b:Bytes} {i:Nat} (h:i+8≤b.length):le 8 (num b i 8)=(b.drop i).take 8:=by
 have e:((b.drop i).take 8).length=8:=by rw[List.length_take,List.length_drop];omega
 have:=Rr ((b.drop i).take 8)
 rw[e]at this
 exact this
theorem ace {b:Bytes} {i:Nat}:num b i 8<W64:=by
 have h:=Rp ((b.drop i).take 8)
 rw[LH,gU]
 have h2:((b.drop i).take 8).length≤8:=by rw[List.length_take];exact Nat.min_le_left _ _
 exact Nat.lt_of_lt_of_le h (Nat.le_trans (Nat.pow_le_pow_right (by decide) h2) (by decide))
def wordOf (l:List Nat) (k:Nat):Option Nat:=l.find? fun i=>decide (i≤k∧k<i+8)
def YK (m:Bytes) (d:Nat) (l:List Nat) (k:Nat):Option UInt8:=match wordOf l k with
 |none=>m[k]?
 |some i=>(le 8 ((num m i 8+d)%W64))[k-i]?
theorem fK:∀(l:List Nat) (m:Bytes) (d:Nat),distant l=true→(∀i∈l,i+8≤m.length)→(mended m d l).length=m.length∧∀k,(mended m d l)[k]?=YK m d l k
 | [],m,d,_,_=>⟨rfl,fun _=>rfl⟩
 |i::l,m,d,hd,hl=>by
  have TF:=(dt _).mp hd
  obtain⟨p1,p2⟩:=List.pairwise_cons.mp TF
  have hi:=hl i (List.mem_cons_self ..)
  have hp:i+(le 8 ((num m i 8+d)%W64)).length≤m.length:=by rw[kz];exact hi
  have hlen:=sY hp
  obtain⟨g1,g2⟩:=fK l (put m i (le 8 ((num m i 8+d)%W64))) d ((dt _).mpr p2) (fun j hj=>by rw[hlen];exact hl j (List.mem_cons_of_mem _ hj))
  have e:mended m d (i::l)=mended (put m i (le 8 ((num m i 8+d)%W64))) d l:=rfl
  refine⟨by rw[e,g1,hlen],fun k=>?_⟩
  rw[e,g2]
  unfold YK wordOf
  rw[List.find?_cons]
  by_cases hk:i≤k∧k<i+8
  ·rw[decide_eq_true hk]
   have hn:l.find? (fun j=>decide (j≤k∧k<j+8))=none:=by
    rw[List.find?_eq_none]
    intro j hj
    have:=p1 j hj
    simp
    omega
   rw[hn]
   show(put m i _)[k]?=_
   rw[kx hp,if_neg (by omega),if_pos (by rw[kz];omega)]
  ·rw[decide_eq_false hk]
   cases hf:l.find? (fun j=>decide (j≤k∧k<j+8)) with
   |none =>
    show(put m i _)[k]?=m[k]?
    rw[kx hp,kz]
    by_cases h1:k<i
    ·rw[if_pos h1]
    ·rw[if_neg h1,if_neg (by omega)]
   |some j =>
    have hj:=List.mem_of_find?_eq_some hf
    have hap:=p1 j hj
    show(le 8 ((num (put m i _) j 8+d)%W64))[k-j]?=(le 8 ((num m j 8+d)%W64))[k-j]?
    rw[LI (a:=put m i _) (b:=m) (i:=j) (n:=8) fun q h1 h2=>by
     rw[kx hp,kz]
     by_cases h3:q<i
     ·rw[if_pos h3]
     ·rw[if_neg h3,if_neg (by omega)]]
theorem JL {l:List Nat} (hd:distant l=true) {i:Nat} (hi:i∈l) {k:Nat} (h1:i≤k) (h2:k<i+8):wordOf l k=some i:=by
 unfold wordOf
 cases hf:l.find? (fun j=>decide (j≤k∧k<j+8)) with
 |none =>
  rw[List.find?_eq_none]at hf
  exact absurd (by simp;omega) (hf i hi)
 |some j =>
  have hj:=List.mem_of_find?_eq_some hf
  have hc:=List.find?_some hf
  simp only[decide_eq_true_eq]at hc
  congr 1
  have hp:=(dt l).mp hd
  by_cases e:j=i
  ·exact e
  ·obtain⟨x,y⟩:(j+8≤i∨i+8≤j)∧True:=by
    refine⟨?_,trivial⟩
    obtain⟨a,ha,rfl⟩:=List.getElem_of_mem hj
    obtain⟨b,hb,rfl⟩:=List.getElem_of_mem hi
    have hpw:=List.pairwise_iff_getElem.mp hp
    rcases Nat.lt_trichotomy a b with z|z|z
    ·exact hpw a b ha hb z
    ·subst z
     exact absurd rfl e
    ·have:=hpw b a hb ha z
     omega
   omega
theorem Qg {l:List Nat} {m:Bytes} {d:Nat} (hd:distant l=true) (hl:∀i∈l,i+8≤m.length) {i:Nat} (hi:i∈l):num (mended m d l) i 8=(num m i 8+d)%W64:=by
 obtain⟨g1,g2⟩:=fK l m d hd hl
 have hp:i+(le 8 ((num m i 8+d)%W64)).length≤m.length:=by rw[kz];exact hl i hi
 rw[LI (a:=mended m d l) (b:=put m i (le 8 ((num m i 8+d)%W64))) fun k h1 h2=>by
  rw[g2,kx hp,kz,if_neg (by omega),if_pos (by omega)]
  unfold YK
  rw[JL hd hi h1 h2]]
 exact YJ (hl i hi) (Nat.mod_lt _ (by rw[gU];decide))
theorem LJ {l:List Nat} {m:Bytes} {d e f:Nat} (hd:distant l=true) (hl:∀i∈l,i+8≤m.length) (hf:(d+e)%W64=f%W64):mended (mended m d l) e l=mended m f l:=by
 obtain⟨g1,g2⟩:=fK l m d hd hl
 obtain⟨g3,g4⟩:=fK l (mended m d l) e hd (fun i hi=>by rw[g1];exact hl i hi)
 obtain⟨g5,g6⟩:=fK l m f hd hl
 refine List.ext_getElem? fun k=>?_
 rw[g4,g6]
 unfold YK
 cases hw:wordOf l k with
 |none =>
  show(mended m d l)[k]?=m[k]?
  rw[g2]
  unfold YK
  rw[hw]
 |some i =>
  show(le 8 ((num (mended m d l) i 8+e)%W64))[k-i]?=(le 8 ((num m i 8+f)%W64))[k-i]?
  have hi:i∈l:=List.mem_of_find?_eq_some hw
  rw[Qg hd hl hi]
  congr 2
  rw[gU]at *
  omega
theorem NM {l:List Nat} {m:Bytes} {d:Nat} (hd:distant l=true) (hl:∀i∈l,i+8≤m.length) (h0:d%W64=0):mended m d l=m:=by
 obtain⟨g1,g2⟩:=fK l m d hd hl
 refine List.ext_getElem? fun k=>?_
 rw[g2]
 unfold YK
 cases hw:wordOf l k with
 |none=>rfl
 |some i =>
  show(le 8 ((num m i 8+d)%W64))[k-i]?=m[k]?
  have hi:i∈l:=List.mem_of_find?_eq_some hw
  have hc:=List.find?_some hw
  simp only[decide_eq_true_eq]at hc
  have e:(num m i 8+d)%W64=num m i 8:=by
   have:=ace (b:=m) (i:=i)
   rw[gU]at *
   omega
  rw[e,acd (hl i hi),List.getElem?_take,if_pos (by omega),List.getElem?_drop]
  congr 1
  omega
theorem Qh {l:List Nat} {m:Bytes} {d p x:Nat} (hd:distant l=true) (hl:∀i∈l,i+8≤m.length) (hp:p+8≤m.length) (ha:∀i∈l,p+8≤i∨i+8≤p):mended (put m p (le 8 x)) d l=put (mended m d l) p (le 8 x):=by
 have hp':p+(le 8 x).length≤m.length:=by rw[kz];exact hp
 obtain⟨g1,g2⟩:=fK l m d hd hl
 obtain⟨g3,g4⟩:=fK l (put m p (le 8 x)) d hd (fun i hi=>by rw[sY hp'];exact hl i hi)
 refine List.ext_getElem? fun k=>?_
 rw[g4,kx (by rw[g1];exact hp'),kz,g2]
 unfold YK
 cases hw:wordOf l k with
 |none =>
  show(put m p (le 8 x))[k]?=_
  rw[kx hp',kz]
 |some i =>
  have hi:i∈l:=List.mem_of_find?_eq_some hw
  have hc:=List.find?_some hw
  simp only[decide_eq_true_eq]at hc
  have hap:=ha i hi
  show(le 8 ((num (put m p (le 8 x)) i 8+d)%W64))[k-i]?=_
  rw[LI (a:=put m p (le 8 x)) (b:=m) (i:=i) (n:=8) fun q h1 h2=>by
   rw[kx hp',kz]
   by_cases h3:q<p
   ·rw[if_pos h3]
   ·rw[if_neg h3,if_neg (by omega)]]
  by_cases h1:k<p
  ·rw[if_pos h1]
  ·rw[if_neg h1,if_neg (by omega)]
end MX
namespace MI
open PySem L2
def LK (b:List UInt8) (t:Rc31.Told) (i:Nat):List UInt8:=(t.laid.take i).foldl (fun m s=>Rc31.put m (s.at_-t.base) ((b.drop s.file).take s.raw)) (List.replicate t.size 0)
theorem VP {m b:List UInt8} {o f j:Nat} {c:UInt8} (hc:b[f+j]?=some c) (ho:o+j<m.length):bv (Rc31.put m o ((b.drop f).take (j+1)))=(bv (Rc31.put m o ((b.drop f).take j))).set (o+j) (V.int (c.toNat:Int)):=by
 have hl:f+j<b.length:=(List.getElem?_eq_some_iff.mp hc).1
 have l1:((b.drop f).take (j+1)).length=j+1:=by rw[List.length_take,List.length_drop];omega
 have l0:((b.drop f).take j).length=j:=by rw[List.length_take,List.length_drop];omega
 refine List.ext_getElem? fun k=>?_
 rw[zq,List.getElem?_set,zq,br,MX.sY (by rw[l0];omega),MX.kx (by rw[l1];omega),MX.kx (by rw[l0];omega),l0,l1]
 by_cases hk:o+j=k
 ·subst hk
  rw[if_pos rfl,if_pos ho,if_neg (by omega),if_pos (by omega),Nat.add_sub_cancel_left,List.getElem?_take,if_pos (by omega),List.getElem?_drop,hc]
  rfl
 ·rw[if_neg hk]
  by_cases h1:k<o
  ·rw[if_pos h1,if_pos h1]
  ·rw[if_neg h1,if_neg h1]
   by_cases h2:k<o+j
   ·rw[if_pos (by omega),if_pos h2,List.getElem?_take,List.getElem?_take,if_pos (by omega),if_pos (by omega)]
   ·rw[if_neg (by omega),if_neg h2]
theorem VQ (m:List UInt8) (o:Nat):Rc31.put m o []=m:=by
 unfold Rc31.put
 exact List.take_append_drop o m
theorem LL {t:Rc31.Told} (T:MX.wD t) {s:Rc31.Segment} (hs:s∈t.laid):s.at_+s.size≤t.base+t.size:=by
 have h1:=MX.Lm (s:=s) T.rise hs
 have h2:=T.lo s hs
 have e:t.size=((t.laid.getLast?.getD s).at_+(t.laid.getLast?.getD s).size)-t.base:=by
  unfold Rc31.Told.size
  cases hl:t.laid.getLast? with
  |none =>
   rw[List.getLast?_eq_none_iff]at hl
   rw[hl]at hs
   cases hs
  |some l=>rfl
 omega
theorem size_le {t:Rc31.Told} (T:MX.wD t):t.size≤4194304:=by
 unfold Rc31.Told.size
 cases hl:t.laid.getLast? with
 |none=>show 0-t.base≤4194304;omega
 |some l =>
  have:=T.hi l (List.mem_of_getLast? hl)
  show l.at_+l.size-t.base≤4194304
  omega
theorem S8 {t:Rc31.Told} (T:MX.wD t) {p:Nat} (h:Rc31.wordAt t p=true):p+8≤t.size:=by
 unfold Rc31.wordAt at h
 obtain⟨s,hs,h⟩:=List.any_eq_true.mp h
 simp only[Bool.and_eq_true,decide_eq_true_eq]at h
 have:=LL T hs
 omega
theorem NN {t:Rc31.Told} {s:Rc31.Segment} (h:s∈t.laid):s∈t.segments:=by
 unfold Rc31.Told.laid at h
 cases hs:t.segments with
 |nil=>rw[hs]at h;cases h
 |cons y r =>
  rw[hs]at h
  simp only at h
  split at h
  ·exact List.mem_cons_of_mem _ h
  ·exact h
theorem Rt (n:Nat):(List.replicate n [V.int 0]).flatten=bv (List.replicate n 0):=by
 unfold bv
 induction n with
 |zero=>rfl
 |succ n ih =>
  rw[List.replicate_succ,List.flatten_cons,ih,List.replicate_succ,List.map_cons]
  rfl
theorem VR {b:List UInt8} {t:Rc31.Told} (T:TG b t):(Rc31.laid b t).length=t.size:=by
 have key:∀(l:List Rc31.Segment) (m:List UInt8),(∀s∈l,s∈t.laid)→m.length=t.size→(l.foldl (fun m s=>Rc31.put m (s.at_-t.base) ((b.drop s.file).take s.raw)) m).length=t.size:=by
  intro l
  induction l with
  |nil=>intro m _ h;exact h
  |cons s l ih =>
   intro m hs hm
   have h0:=hs s (List.mem_cons_self ..)
   have h1:=LL T.tok h0
   have h2:=T.tok.lo s h0
   have h3:=(T.ok.oF s (NN h0)).2.2.2.1
   refine ih _ (fun q hq=>hs q (List.mem_cons_of_mem _ hq)) ?_
   rw[MX.sY,hm]
   rw[List.length_take]
   omega
 exact key _ _ (fun _ h=>h) (List.length_replicate ..)
section
variable {g:Gm} {a:Ad}
def VS (a:Ad):Sp:=fun vs H Q E=>∃(gr f:Addr) (b:List UInt8) (t:Rc31.Told),vs=[.ref gr,.ref f]∧Cu a H gr t∧TG b t∧H f=some (.lst (bv b))∧∀l H',H' l=some (.lst (bv (Rc31.laid b t)))→H l=none→ax H H'→Q (.ref l) H'
theorem GX (T:Tx g.K g.mg a):Pr g 1 a.jv ["self","file"] (VS a):=by
 refine Pr.on T.lO du fun cF A outer s H vs Q E hr h=>?_
 obtain⟨gr,f,b,t,rfl,G,tg,hf,k⟩:=h
 refine⟨_,ae (aI (i:=2) du.nd rfl (Or.inl rfl) (aO Uh (cv (aa ak ai)) (ar (pv 0) rfl)))
  (ae (l7 tU rfl (lh (ar (pv 0) rfl)) (dH (i:=3) du.nd rfl (Or.inl rfl)) (ae (aI (i:=4) du.nd rfl (Or.inl rfl) (aO gx (ar (pv 3) rfl) (ar (pv 0) rfl)))
  (ag (l7 tU rfl (BA rfl T.sf (aa (ar (pv 3) rfl) ai)) (dH (i:=5) du.nd rfl (Or.inl rfl)) (ag (TQ (fL cG (pv 1) (aO ck (ar (pv 3) rfl) (pv 5)) (fun _ _=>rfl)) (TN (pv 2) (aO ck (pv 4) (pv 5)) set_list)))))))
  (ag (aS (pv 2)))),?_⟩
 obtain⟨dx,ls,kC,sp,sa,la,pa,G0⟩:=G
 have hz:sizeLine=16777216:=sizeLine_eq
 have Zt:=size_le tg.tok
 refine⟨(by show 1≤sizeLine;decide),fun z0 nz0=>?_⟩
 have s0:ax H (upd H z0 (.lst [.int 0])):=ax.upd nz0
 have hz0:upd H z0 (.lst [.int 0]) z0=some (.lst [.int 0]):=af
 generalize upd H z0 (.lst [.int 0])=H1 at *
 refine⟨_,rfl,gr,_,dx,_,_,rfl,s0 _ _ G0.ob,T.bH,T.cS,jk,z0,_,_,rfl,rfl,hz0,by omega,by omega,(by rw[Int.toNat_natCast];show 1*_≤_;omega),fun hd nhd=>?_⟩
 rw[Int.toNat_natCast,Rt]
 have ae3:H hd=none:=s0.free nhd
 have s1:ax H (upd H1 hd (.lst (bv (List.replicate t.size 0)))):=s0.trans (ax.upd nhd)
 have hd1:upd H1 hd (.lst (bv (List.replicate t.size 0))) hd=some (.lst (bv (List.replicate t.size 0))):=af
 generalize upd H1 hd (.lst (bv (List.replicate t.size 0)))=H2 at *
 refine⟨_,rfl,gr,_,dx,_,_,rfl,s1 _ _ G0.ob,T.bH,T.gh,xU,kC,rfl,⟨_,bO.of (s1 _ _ G0.hl)⟩,ud (K:=g.K) (a:=kC) (xs:=la.map V.ref) (fun i σ H3=>∃v3 v4 v5,σ=[some (.ref gr),some (.ref f),some (.ref hd),v3,v4,v5]∧H3 hd=some (.lst (bv (LK b t i)))∧ax H H3∧(LK b t i).length=t.size)
  ⟨none,none,none,rfl,hd1,s1,by unfold LK;rw[List.take_zero,List.foldl_nil,List.length_replicate]⟩ (fun i σ H3 _ ⟨_,_,_,_,_,q,_⟩=>bO.of (q _ _ G0.hl)) ?_ ?_⟩
 ·rintro i y σ H3 hy ⟨v3,v4,v5,rfl,hL,sH,hlen⟩
  obtain⟨y,ZV,rfl⟩:=pH hy
  obtain⟨sg,SH,⟨m,⟨d,hyy⟩⟩⟩:=iw G0.laid ZV
  have VT:sg∈t.laid:=List.mem_of_getElem? SH
  have VU:=tg.tok.lo sg VT
  have hge:=LL tg.tok VT
  obtain⟨_,_,_,anj,ank,_⟩:=tg.ok.oF sg (NN VT)
  have eF:LK b t (i+1)=Rc31.put (LK b t i) (sg.at_-t.base) ((b.drop sg.file).take sg.raw):=by
   unfold LK
   rw[gK SH,List.foldl_append]
   rfl
  generalize hh:LK b t i=M at *
  refine⟨_,rfl,y,_,d,_,_,rfl,sH _ _ hyy,T.aG,T.aX,bP,_,rfl,gr,_,dx,_,_,rfl,sH _ _ G0.ob,T.bH,T.cE,lD,_,_,rfl,rfl,?_⟩
  refine⟨_,rfl,y,_,d,_,_,rfl,sH _ _ hyy,T.aG,T.bK,d9,_,rfl,by omega,by omega,qu (lo:=0) (n:=((sg.raw:Nat):Int).toNat) (fun j σ H4=>∃v5,σ=[some (.ref gr),some (.ref f),some (.ref hd),some (.ref y),some (.int ((sg.at_:Int)-(t.base:Int))),v5]∧H4 hd=some (.lst (bv (Rc31.put M (sg.at_-t.base) ((b.drop sg.file).take j))))∧ax H H4) ⟨v5,rfl,by rw[List.take_zero,VQ];exact hL,sH⟩ ?_ ?_⟩
  ·rintro j σ H4 hj ⟨w5,rfl,hF,s4⟩
   rw[Int.toNat_natCast]at hj
   have hb:sg.file+j<b.length:=by omega
   have hc:b[sg.file+j]?=some b[sg.file+j]:=List.getElem?_eq_getElem hb
   generalize b[sg.file+j]=c at hc
   have hto:sg.at_-t.base+j<M.length:=by omega
   have l0:((b.drop sg.file).take j).length=j:=by rw[List.length_take,List.length_drop];omega
   refine⟨_,rfl,_,rfl,y,_,d,_,_,rfl,s4 _ _ hyy,T.aG,T.cy,iH,_,rfl,_,_,rfl,rfl,f,_,_,V.int (c.toNat:Int),rfl,rfl,bO.of (s4 _ _ hf),at_of (j:=sg.file+j) (by omega) (by rw[zq,hc];rfl),_,rfl,_,rfl,_,rfl,_,_,rfl,rfl,hd,_,_,sg.at_-t.base+j,rfl,rfl,hF,?_,?_⟩
   ·unfold T7
    rw[br,MX.sY (by rw[l0];omega),if_pos (by omega),if_pos (by omega)]
    congr 1
    omega
   ·exact⟨_,rfl,by rw[af,VP hc hto],wb s4 ae3⟩
  ·rintro σ H4 ⟨w5,rfl,hF,s4⟩
   rw[Int.toNat_natCast,←eF]at hF
   refine⟨_,_,_,rfl,hF,s4,?_⟩
   rw[eF,MX.sY,hlen]
   rw[List.length_take]
   omega
 ·rintro σ H3 ⟨v3,v4,v5,rfl,hL,sH,hlen⟩
  have e:LK b t (la.map V.ref).length=Rc31.laid b t:=by
   unfold LK
   rw[List.length_map,bu G0.laid,List.take_length]
   rfl
  rw[e]at hL
  exact⟨_,rfl,k hd H3 hL ae3 sH⟩
end
end MI
namespace MX
open PyRc31
def NO (p:Int):Option Int:=if p=0 then some 1 else if p=2 then some 2 else if p=3 then some 3 else if p=5 then some 2 else if p=6 then some 3 else if p=7 then some 1 else none
inductive lZ:List Int→List (List Int)→List Int→Prop
 |plain (p:Int) (xs t:List Int) (h:NO p=some ((xs.length:Int)+1)):lZ (p::(xs++t)) [p::xs] t
 |row (p:Int) (r t:List Int) (h:p=1∨p=4):lZ (p::(r.length:Int)::(r++t)) [[p],r] t
theorem Qi {l:List Int} {c:List (List Int)} {t:List Int} (h:PyFlat.call shape l=some (c,t)):lZ l c t:=by
 cases l with
 |nil=>cases h
 |cons p r =>
  have plain:∀n:Nat,shape p=some (n,0)→NO p=some ((n:Int)+1)→lZ (p::r) c t:=by
   intro n hs hl
   simp only[PyFlat.call,hs,PyFlat.rows]at h
   by_cases hn:r.length<n
   ·rw[if_pos hn]at h;cases h
   ·rw[if_neg hn]at h
    cases h
    have e:r=r.take n++r.drop n:=(List.take_append_drop n r).symm
    have hlen:(r.take n).length=n:=by rw[List.length_take];omega
    have:=lZ.plain p (r.take n) (r.drop n) (by rw[hlen];exact hl)
    rw[←e]at this
    exact this
  have row:shape p=some (0,1)→(p=1∨p=4)→lZ (p::r) c t:=by
   intro hs hp
   simp only[PyFlat.call,hs,PyFlat.rows,List.drop_zero,List.take_zero]at h
   rw[if_neg (by omega)]at h
   cases r with
   |nil=>simp[PyFlat.row]at h
   |cons m r =>
    by_cases hm:0≤m∧m.toNat≤r.length
    ·simp only[PyFlat.row,if_pos hm]at h
     cases h
     have hlen:(r.take m.toNat).length=m.toNat:=by rw[List.length_take];omega
     have:=lZ.row p (r.take m.toNat) (r.drop m.toNat) hp
     rw[hlen,Int.toNat_of_nonneg hm.1,List.take_append_drop]at this
     exact this
    ·simp only[PyFlat.row,if_neg hm]at h
     cases h
  by_cases h0:p=0
  ·subst h0;exact plain 0 rfl rfl
  by_cases h1:p=1
  ·subst h1;exact row rfl (.inl rfl)
  by_cases h2:p=2
  ·subst h2;exact plain 1 rfl rfl
  by_cases h3:p=3
  ·subst h3;exact plain 2 rfl rfl
  by_cases h4:p=4
  ·subst h4;exact row rfl (.inr rfl)
  by_cases h5:p=5
  ·subst h5;exact plain 1 rfl rfl
  by_cases h6:p=6
  ·subst h6;exact plain 2 rfl rfl
  by_cases h7:p=7
  ·subst h7;exact plain 0 rfl rfl
  have:shape p=none:=by simp[shape,h0,h1,h2,h3,h4,h5,h6,h7]
  simp[PyFlat.call,this]at h
theorem Qj {f:Nat} {p:Int} {r:List Int} {cs:List (List (List Int))} (h:PyFlat.calls shape f (p::r)=some cs):∃f' c t WG,f=f'+1∧lZ (p::r) c t∧PyFlat.calls shape f' t=some WG∧cs=c::WG:=by
 cases f with
 |zero=>simp[PyFlat.calls]at h
 |succ f =>
  rw[PyFlat.calls]at h
  cases hc:PyFlat.call shape (p::r) with
  |none=>rw[hc]at h;cases h
  |some x =>
   obtain⟨c,t⟩:=x
   rw[hc]at h
   cases hr:PyFlat.calls shape f t with
   |none=>simp only[hr]at h;cases h
   |some WG =>
    simp only[hr]at h
    cases h
    exact⟨f,c,t,WG,rfl,Qi hc,hr,rfl⟩
theorem S9 {f:Nat} {cs:List (List (List Int))} (h:PyFlat.calls shape f []=some cs):cs=[]:=by
 cases f<;>(simp[PyFlat.calls]at h;exact h)
def hX:List (List Int)→List Int
 | [l]=>l
 | [[p],r]=>p::(r.length:Int)::r
 |_=>[]
theorem lZ.flat {l:List Int} {c:List (List Int)} {t:List Int} (h:lZ l c t):l=hX c++t:=by
 cases h with
 |plain p xs t h=>rfl
 |row p r t h=>rfl
theorem kA (c:List (List Int)):0≤Rc31Neutral.tells c:=by
 unfold Rc31Neutral.tells
 split
 ·split<;>omega
 ·omega
def ZZ (st:Rc31.Abs) (cs:List (List (List Int))):List Int:=PyFlat.told (PyFlat.played Rc31Neutral.step st (cs.map whole))
theorem VW (st:Rc31.Abs) (c:List (List Int)) (cs:List (List (List Int))):ZZ st (c::cs)=(((Rc31Neutral.step st (whole c)).2.length:Int)::(Rc31Neutral.step st (whole c)).2)++ZZ (Rc31Neutral.step st (whole c)).1 cs:=by
 unfold ZZ PyFlat.told
 rw[List.map_cons,PyFlat.played,List.flatMap_cons]
def cost (cs:List (List (List Int))):Int:=(cs.map fun c=>515+Rc31Neutral.tells (whole c)).sum
theorem Cz (c:List (List Int)) (cs:List (List (List Int))):cost (c::cs)=515+Rc31Neutral.tells (whole c)+cost cs:=by
 unfold cost
 rw[List.map_cons,List.sum_cons]
theorem Ru:∀cs,0≤cost cs
 | []=>by decide
 |c::cs=>by
  rw[Cz]
  have:=Ru cs
  have:=kA (whole c)
  omega
theorem VX (cs:List (List (List Int))):cost cs=515*(cs.length:Int)+((cs.map whole).map Rc31Neutral.tells).sum:=by
 induction cs with
 |nil=>rfl
 |cons c cs ih =>
  rw[Cz,ih,List.map_cons,List.map_cons,List.sum_cons,List.length_cons]
  omega
end MX
namespace MI
open PySem L2
theorem GY (p:Int):jo (Xq [(0,1),(2,2),(3,3),(5,2),(6,3),(7,1)]) (Sum.inl p)=(MX.NO p).map V.int:=by
 have key:∀(q v:Int) (r:List (Int×Int)),jo (Xq ((q,v)::r)) (Sum.inl p)=if p=q then some (V.int v) else jo (Xq r) (Sum.inl p):=fun q v r=>by
  show jo (((Sum.inl q:Key),V.int v)::Xq r) (Sum.inl p)=_
  by_cases h:p=q
  ·rw[if_pos h,lL (by rw[h])]
  ·rw[if_neg h,lM (fun z=>h (by injection z with z;exact z.symm))]
 rw[key,key,key,key,key,key]
 unfold MX.NO
 repeat' split
 all_goals first|rfl|omega
theorem acg (ns:List Int) (i j:Nat):zQ (ns.map V.int) (some (i:Int)) (some ((i:Int)+(j:Int)))=((ns.drop i).take j).map V.int:=Q5 V.int ns i j
theorem NP {ns:List Int} {i:Nat} {p:Int} {r:List Int} (h:ns.drop i=p::r):ns[i]?=some p:=by
 have:=congrArg (fun l=>l[0]?) h
 simpa [List.getElem?_drop] using this
theorem Ta {ns:List Int} {i:Nat} {p q:Int} {r:List Int} (h:ns.drop i=p::q::r):ns[i+1]?=some q:=by
 have:=congrArg (fun l=>l[1]?) h
 simpa [List.getElem?_drop] using this
theorem Tb {l:List Int} {c:List (List Int)} {t:List Int} (h:MX.lZ l c t):0<(MX.hX c).length:=by cases h<;>simp[MX.hX]
section
variable {g:Gm} {a:Ad}
def Qk (g:Gm):Sp:=fun vs H Q E=>∃(c:Addr) (ns:List Int) (i:Nat) (cc:List (List Int)) (t:List Int),vs=[.ref c,.int (i:Int)]∧bO g.K H c (ns.map V.int)∧MX.lZ (ns.drop i) cc t∧Q (.int ((MX.hX cc).length:Int)) H
theorem LM (T:Tx g.K g.mg a):Pr g 1 a.BZ ["calls","at"] (Qk g):=by
 refine Pr.on T.Dl Kg fun cF A outer s H vs Q E hr h=>?_
 obtain⟨c,ns,i,cc,t,rfl,hc,ah,k⟩:=h
 refine⟨_,ae (dk (Bz (Xs T.yT (fL cG (pv 0) (pv 1) (fun _ _=>rfl)) (pkr T.nA))) (ag (aS (UA T.yT (pkr T.nA) (fL cG (pv 0) (pv 1) (fun _ _=>rfl)) (fun _ _=>rfl)))) gw)
  (ag (aS (aO ck ak (fL cG (pv 0) (aO ck (pv 1) ak) (fun _ _=>rfl))))),?_⟩
 generalize hd:ns.drop i=l at ah
 cases ah with
 |plain p xs t hl =>
  have hp:=NP hd
  have ix:(ns.map V.int)[i]?=some (V.int p):=by rw[List.getElem?_map,hp];rfl
  refine⟨_,rfl,_,rfl,c,_,_,_,rfl,rfl,hc,at_of (j:=i) (v:=V.int p) (by omega) ix,p,rfl,?_⟩
  rw[GY,hl]
  refine⟨_,rfl,iA ⟨_,rfl,_,rfl,c,_,_,_,rfl,rfl,hc,at_of (j:=i) (v:=V.int p) (by omega) ix,p,_,rfl,(by rw[GY,hl];rfl),?_⟩⟩
  have e:((MX.hX [p::xs]).length:Int)=(xs.length:Int)+1:=by
   show(((p::xs).length:Nat):Int)=_
   rw[List.length_cons]
   omega
  rw[e]at k
  exact k
 |row p r t hp1 =>
  have hp:=NP hd
  have hq:=Ta hd
  have ix:(ns.map V.int)[i]?=some (V.int p):=by rw[List.getElem?_map,hp];rfl
  have ix1:(ns.map V.int)[i+1]?=some (V.int (r.length:Int)):=by rw[List.getElem?_map,hq];rfl
  have hl:MX.NO p=none:=by rcases hp1 with rfl|rfl<;>rfl
  refine⟨_,rfl,_,rfl,c,_,_,_,rfl,rfl,hc,at_of (j:=i) (v:=V.int p) (by omega) ix,p,rfl,?_⟩
  rw[GY,hl]
  refine⟨_,rfl,eg ⟨_,rfl,_,rfl,_,_,rfl,rfl,c,_,_,_,rfl,rfl,hc,at_of (j:=i+1) (v:=V.int (r.length:Int)) (by omega) ix1,_,_,rfl,rfl,?_⟩⟩
  have e:((MX.hX [[p],r]).length:Int)=2+(r.length:Int):=by
   show(((p::(r.length:Int)::r).length:Nat):Int)=_
   rw[List.length_cons,List.length_cons]
   omega
  rw[e]at k
  exact k
def Ql (a:Ad):Sp:=fun vs H Q E=>∃(x dx:Addr),vs=[.ref x]∧H x=some (.ins a.fA dx [])∧Q .de (upd H x (.ins a.fA dx (fH .de)))
theorem LN (T:Tx g.K g.mg a):Pr g 1 a.BY ["self"] (Ql a):=by
 refine Pr.on T.Dj Ke fun cF A outer s H vs Q E hr h=>?_
 obtain⟨x,dx,rfl,hx,k⟩:=h
 refine⟨_,ag (aT (pv 0) JV rfl),?_⟩
 refine⟨_,rfl,x,_,dx,_,rfl,hx,T.jj,T.dX,(by show 0<1000;decide),?_⟩
 rw[R5]
 exact k
structure DI (a:Ad) where
 DS:Hp→Addr→(Addr→Prop)→Rc31.Abs→Prop
 keep:∀{H H':Hp} {d:Addr} {S:Addr→Prop} {st:Rc31.Abs},DS H d S st→(∀b,S b→H' b=H b)→DS H' d S st
 there:∀{H:Hp} {d:Addr} {S:Addr→Prop} {st:Rc31.Abs},DS H d S st→∀b,S b→H b≠none
 start:∀{H:Hp} {d dx:Addr},H d=some (.ins a.fA dx (fH .de))→DS H d (At d) {}
def Bv (a:Ad) (D:DI a):Sp:=fun vs H Q E=>∃(d cl:Addr) (S:Addr→Prop) (st:Rc31.Abs) (cc:List (List Int)) (l t:List Int),vs=[.ref d,.ref cl]∧D.DS H d S st∧H cl=some (.lst ((MX.hX cc).map V.int))∧¬S cl∧MX.lZ l cc t∧Rc31Neutral.asked1 (PyRc31.whole cc)=true ∧
 ∀tl H' S',H' tl=some (.lst ((Rc31Neutral.step st (PyRc31.whole cc)).2.map V.int))→H tl=none→((Rc31Neutral.step st (PyRc31.whole cc)).2.length:Int)≤514+Rc31Neutral.tells (PyRc31.whole cc)→Kp S H H'→D.DS H' d S' (Rc31Neutral.step st (PyRc31.whole cc)).1→¬S' tl→(∀b,S' b→S b∨H b=none)→Q (.ref tl) H'
def YL (K:PySem.W.Frag) (H:Hp) (c l:Addr) (S:Addr→Prop) (xs:List V):Prop :=
 (∃(o:Obj) (bt:Array Value) (n:Nat),K.lookup c=some o∧o.cls = .type "list"∧o.dict=none∧o.data = .seq bt n∧bt.size≤sizeLine∧Vals xs bt.toList)∨(Rd H c (.lst xs)∧c≠l∧¬S c)
theorem YL.sq {K:PySem.W.Frag} {H:Hp} {c l:Addr} {S:Addr→Prop} {xs:List V} (h:YL K H c l S xs):bO K H c xs:=h.elim .inr fun q=>.inl q.1
theorem Rd.kp {H H':Hp} {c:Addr} {u:HO} (h:Rd H c u) (k:∀o,H c=some o→H' c=some o):Rd H' c u:=h.elim (fun e=>.inl (k _ e)) fun⟨o,e⟩=>.inr ⟨o,k _ e⟩
theorem Rd.some {H:Hp} {c:Addr} {u:HO} (h:Rd H c u):∃o,H c = .some o:=h.elim (fun e=>⟨_,e⟩) fun⟨o,e⟩=>⟨_,e⟩
theorem YL.step {K:PySem.W.Frag} {H H':Hp} {c l:Addr} {S S':Addr→Prop} {xs:List V} (h:YL K H c l S xs) (k:∀b o,H b=some o→b≠l→¬S b→H' b=some o) (hs:∀b,S' b→S b∨H b=none):YL K H' c l S' xs:=by
 rcases h with h|⟨h,n1,n2⟩
 ·exact .inl h
 ·refine .inr ⟨Rd.kp h fun o e=>k c o e n1 n2,n1,fun z=>?_⟩
  obtain⟨o,e⟩:=Rd.some h
  exact(hs c z).elim n2 fun q=>by rw[e]at q;cases q
def JM (K:PySem.W.Frag):Sp:=fun vs H Q E=>∃(c:Addr) (ns:List Int) (cs:List (List (List Int))),vs=[.ref c]∧bO K H c (ns.map V.int)∧PyFlat.calls PyRc31.shape ns.length ns=some cs∧(∀cc∈cs,Rc31Neutral.asked1 (PyRc31.whole cc)=true)∧MX.cost cs≤700000 ∧
 ∀l H',H' l=some (.lst ((MX.ZZ {} cs).map V.int))→Q (.ref l) H'
theorem Qm {n:Nat} (hn:1≤n) (T:Tx g.K g.mg a) (D:DI a) (OA:Pr g n a.answer ["desk","call"] (Bv a D)):Pr g (n+2) a.answers ["calls"] (JM g.K):=by
 refine Pr.on T.B3 ju fun cF A outer s H vs Q E hr h=>?_
 obtain⟨c,ns,cs,rfl,hc,hcs,xu,ae4,k⟩:=h
 refine⟨_,ae (aI (i:=1) ju.nd rfl (Or.inl rfl) (QP (LN T) T.EC au hr (by omega) T.UK))
  (ae (aI (i:=2) ju.nd rfl (Or.inl rfl) (cv ai))
  (ae (aI (i:=3) ju.nd rfl (Or.inl rfl) ak)
  (ae (qt tU (bG nE (pv 3) (aV aJ (by rfl) T.eL PySem.boot_len (aa (pv 0) ai)) (aC _)) (ae (aI (i:=4) ju.nd rfl (Or.inl rfl) (aU (LM T) au hr (by omega) T.Dm (aa (pv 0) (aa (pv 3) ai))))
  (ae (aI (i:=5) ju.nd rfl (Or.inl rfl) (aU OA au hr (by omega) T.Mu (aa (pv 1) (aa (jH mX (pv 0) (gV (pv 3)) (gV (aO ck (pv 3) (pv 4)))) ai))))
  (ae (aR (ue PySem.F.plainAttrs_list PySem.F.slot_list_append PySem.F.type_list_append iy (pv 2) (aa (aV aJ (by rfl) T.eL PySem.boot_len (aa (pv 5) ai)) ai)))
  (ae (aR (ue PySem.F.plainAttrs_list PySem.F.slot_list_extend PySem.F.type_list_extend Jd (pv 2) (aa (pv 5) ai)))
  (ag (N8 (i:=3) ju.nd rfl (Or.inl rfl) (pv 4) aan)))))))
  (ag (aS (pv 2)))))),?_⟩
 have hsz:sizeLine=16777216:=sizeLine_eq
 refine fun d dx nd ndx nex=>⟨d,dx,rfl,af,rfl,?_⟩
 rw[bM]
 have s1:ax H (upd (upd H dx (.own d)) d (.ins a.fA dx (fH .de))):=(ax.upd ndx).trans (ax.upd (by rw[aj nex.symm];exact nd))
 have hd1:upd (upd H dx (.own d)) d (.ins a.fA dx (fH .de)) d=some (.ins a.fA dx (fH .de)):=af
 generalize upd (upd H dx (.own d)) d (.ins a.fA dx (fH .de))=H1 at *
 refine⟨Nat.zero_le _,fun l hl=>?_⟩
 have s2:ax H1 (upd H1 l (.lst [])):=ax.upd hl
 have Je:upd H1 l (.lst []) l=some (.lst []):=af
 have ndl:d≠l:=ao hd1 hl
 have hd2:=s2 _ _ hd1
 generalize upd H1 l (.lst [])=H2 at *
 have xq:=s1.trans s2
 have hl0:H l=none:=s1.free hl
 have cI:YL g.K H2 c l (At d) (ns.map V.int):=by
  rcases hc with h|h
  ·obtain⟨o,e⟩:=Rd.some h
   exact .inr ⟨Rd.kp h fun o e=>xq _ _ e,ao e hl0,fun z=>by rw[show c=d from z,nd]at e;cases e⟩
  ·exact .inl h
 have dS0:D.DS H2 d (At d) {}:=D.start hd2
 refine⟨fun m σ H3=>∃(i f:Nat) (WG:List (List (List Int))) (st:Rc31.Abs) (acc:List Int) (S:Addr→Prop) (v4 v5:Option V),σ=[some (.ref c),some (.ref d),some (.ref l),some (.int (i:Int)),v4,v5]∧i≤ns.length∧m=ns.length-i∧PyFlat.calls PyRc31.shape f (ns.drop i)=some WG∧(∀cc∈WG,Rc31Neutral.asked1 (PyRc31.whole cc)=true)∧H3 l=some (.lst (acc.map V.int))∧D.DS H3 d S st∧¬S l∧YL g.K H3 c l S (ns.map V.int)∧MX.ZZ {} cs=acc++MX.ZZ st WG∧(acc.length:Int)+MX.cost WG≤700000,
  ⟨_,0,ns.length,cs,{},[],At d,none,none,rfl,Nat.zero_le _,rfl,hcs,xu,Je,dS0,(fun z=>ndl z.symm),cI,rfl,by simpa using ae4⟩,?_⟩
 rintro m σ H3 ⟨i,f,WG,st,acc,S,v4,v5,rfl,hi,rfl,YM,pN,hL,hD,nSl,cl3,ae5,hco⟩
 refine⟨_,rfl,_,rfl,c,_,rfl,.inl cl3.sq,_,_,rfl,rfl,_,rfl,?_⟩
 rw[List.length_map]
 refine aw (fun oQ=>?_) fun oQ=>?_
 ·have oQ:i<ns.length:=by omega
  obtain⟨p,r,hpr⟩:∃p r,ns.drop i=p::r:=⟨_,_,List.drop_eq_getElem_cons oQ⟩
  rw[hpr]at YM
  obtain⟨f',cc,t,cs2,rfl,ah,LY,rfl⟩:=MX.Qj YM
  rw[←hpr]at ah
  have SE:=ah.flat
  have akf:0<(MX.hX cc).length:=Tb ah
  have hlen:(MX.hX cc).length≤ns.length-i:=by
   have:=congrArg List.length SE
   rw[List.length_drop,List.length_append]at this
   omega
  refine⟨fun σ' H'=>∃m',m'<ns.length-i∧_,fun σ' H' q=>q,?_⟩
  refine⟨_,rfl,_,rfl,c,ns,i,cc,t,rfl,cl3.sq,ah,?_⟩
  refine⟨_,rfl,_,rfl,_,rfl,_,rfl,_,rfl,_,rfl,_,_,rfl,rfl,_,rfl,c,_,rfl,cl3.sq,fun cl oJ=>?_⟩
  rw[acg,show(ns.drop i).take (MX.hX cc).length=MX.hX cc by rw[SE,List.take_left'];rfl]
  have s4:ax H3 (upd H3 cl (.lst ((MX.hX cc).map V.int))):=ax.upd oJ
  have aim:upd H3 cl (.lst ((MX.hX cc).map V.int)) cl=_:=af
  have ae6:¬S cl:=fun z=>D.there hD cl z oJ
  have hD4:D.DS (upd H3 cl (.lst ((MX.hX cc).map V.int))) d S st:=D.keep hD fun b hb=>by
   have nb:b≠cl:=fun z=>ae6 (by rw[←z];exact hb)
   rw[aj nb]
  generalize upd H3 cl (.lst ((MX.hX cc).map V.int))=H4 at *
  have hL4:=s4 _ _ hL
  have cl4:YL g.K H4 c l S (ns.map V.int):=cl3.step (fun b o e _ _=>s4 _ _ e) fun b z=>.inl z
  refine⟨d,cl,S,st,cc,_,t,rfl,hD4,aim,ae6,ah,pN cc (List.mem_cons_self ..),fun tl H5 S' ZP we hbl k5 hD5 nS' ZX=>?_⟩
  have hdc:=MX.VW st cc cs2
  have hcc:=MX.Cz cc cs2
  have hcn:=MX.Ru cs2
  generalize jf:Rc31Neutral.step st (PyRc31.whole cc)=stp at *
  have hL5:=k5 _ _ hL4 nSl
  have nlt:l≠tl:=ao hL4 we
  have ae7:¬S' l:=fun z=>(ZX l z).elim nSl fun q=>by rw[hL4]at q;cases q
  have cl5:YL g.K H5 c l S' (ns.map V.int):=cl4.step (fun b o e _ n=>k5 _ _ e n) ZX
  refine⟨_,rfl,.inl ⟨rfl,_,bO.of hL5⟩,_,rfl,tl,_,rfl,.inl (bO.of ZP),l,_,_,rfl,rfl,hL5,(by rw[List.length_map];omega),?_⟩
  rw[List.length_map]
  have hL6:upd H5 l (.lst (acc.map V.int++[.int (stp.2.length:Int)])) l=_:=af
  have aio:upd H5 l (.lst (acc.map V.int++[.int (stp.2.length:Int)])) tl=some (.lst (stp.2.map V.int)):=by rw[aj nlt.symm];exact ZP
  refine⟨_,rfl,.inl ⟨rfl,_,bO.of hL6⟩,_,rfl,l,tl,_,_,rfl,rfl,hL6,aio,?_,?_⟩
  ·rw[List.length_append,List.length_map,List.length_map]
   show acc.length+1+stp.2.length≤sizeLine
   omega
  ·rw[bM]
   refine⟨_,rfl,_,rfl,_,_,rfl,rfl,ns.length-(i+(MX.hX cc).length),by omega,i+(MX.hX cc).length,f',cs2,stp.1,acc++((stp.2.length:Int)::stp.2),S',some (.int ((MX.hX cc).length:Int)),some (.ref tl),?_,by omega,rfl,?_,fun c' hc'=>pN c' (List.mem_cons_of_mem _ hc'),?_,D.keep hD5 (fun b hb=>by
    have nb:b≠l:=fun z=>ae7 (by rw[←z];exact hb)
    rw[aj nb]),ae7,cl5.step (fun b o e n _=>by rw[aj n];exact e) (fun b z=>.inl z),?_,?_⟩
   ·rw[Int.natCast_add]
    rfl
   ·rw[←List.drop_drop,SE,List.drop_left']
    ·exact LY
    ·rfl
   ·rw[af,List.map_append,List.map_cons,List.append_assoc]
    rfl
   ·rw[ae5,hdc,List.append_assoc]
   ·rw[List.length_append,List.length_cons]
    omega
 ·have ei:i=ns.length:=by omega
  subst ei
  rw[List.drop_of_length_le (Nat.le_refl _)]at YM
  have:=MX.S9 YM
  subst this
  refine⟨_,rfl,k l H3 ?_⟩
  rw[hL,ae5,show MX.ZZ st []=[] from rfl,List.append_nil]
end
end MI
namespace MI
open PySem L2
theorem Qn {l:List Int} {c:List (List Int)} {t:List Int} (h:MX.lZ l c t):∃i:Nat,i<8∧(MX.hX c)[0]?=some (i:Int):=by
 cases h with
 |plain p xs t h =>
  have key:∀n:Nat,n<8→p=(n:Int)→∃i:Nat,i<8∧(MX.hX [p::xs])[0]?=some (i:Int):=fun n hn e=>⟨n,hn,by rw[←e];rfl⟩
  unfold MX.NO at h
  by_cases h0:p=0
  ·exact key 0 (by decide) h0
  rw[if_neg h0]at h
  by_cases h2:p=2
  ·exact key 2 (by decide) h2
  rw[if_neg h2]at h
  by_cases h3:p=3
  ·exact key 3 (by decide) h3
  rw[if_neg h3]at h
  by_cases h5:p=5
  ·exact key 5 (by decide) h5
  rw[if_neg h5]at h
  by_cases h6:p=6
  ·exact key 6 (by decide) h6
  rw[if_neg h6]at h
  by_cases h7:p=7
  ·exact key 7 (by decide) h7
  rw[if_neg h7]at h
  cases h
 |row p r t h =>
  rcases h with rfl|rfl
  ·exact⟨1,by decide,rfl⟩
  ·exact⟨4,by decide,rfl⟩
section
variable {g:Gm} {a:Ad}
def WH (a:Ad) (D:DI a) (i:Nat):Sp:=fun vs H Q E=>∃(d cl:Addr) (S:Addr→Prop) (st:Rc31.Abs) (cc:List (List Int)) (l t:List Int),vs=[.ref d,.ref cl]∧D.DS H d S st∧H cl=some (.lst ((MX.hX cc).map V.int))∧¬S cl∧MX.lZ l cc t∧Rc31Neutral.asked1 (PyRc31.whole cc)=true∧(MX.hX cc)[0]?=some (i:Int) ∧
 (∀tl H' S',H' tl=some (.lst ((Rc31Neutral.step st (PyRc31.whole cc)).2.map V.int))→H tl=none→((Rc31Neutral.step st (PyRc31.whole cc)).2.length:Int)≤514+Rc31Neutral.tells (PyRc31.whole cc)→Kp S H H'→D.DS H' d S' (Rc31Neutral.step st (PyRc31.whole cc)).1→¬S' tl→(∀b,S' b→S b∨H b=none)→Q (.ref tl) H') ∧
 ∀C z,(C=a.cn∧z = -4)∨((C=a.aE∨C=a.dI∨C=a.bI∨C=a.bL)∧z = -1)→(Rc31Neutral.step st (PyRc31.whole cc)).2=[z]→∀H' S',Kp S H H'→(∀b,H b≠none→H' b≠none)→D.DS H' d S' (Rc31Neutral.step st (PyRc31.whole cc)).1→(∀b,S' b→S b∨H b=none)→E (.ref C) none H'
theorem Tc {n:Nat} (T:Tx g.K g.mg a) (D:DI a) (cf:List Addr) (hcf:cf.length=8) (hT:∀H,tS g.K H a.oX (cf.map V.ref)) (G:∀i:Fin cf.length,Pr g n cf[i] ["desk","call"] (WH a D i.val)):Pr g (n+1) a.answer ["desk","call"] (Bv a D):=by
 refine Pr.on T.Mt RY fun cF A outer s H vs Q E hr h=>?_
 obtain⟨d,cl,S,st,cc,l,t,rfl,hD,oJ,nS,ah,xu,k⟩:=h
 refine⟨_,ag (aa1 rfl rfl rfl rfl rfl rfl (fun W pn E2 pass=>ag (aS (Xp (tf:=Zh (adD g.K) (tC (.ref a.oX)) (Zh (adC g.K) (zK 1) (tC (.int 0)))) (fa:=fun i:Fin cf.length=>cf[i]) (ps:=fun _=>["desk","call"]) (sp:=fun i=>WH a D i.val) (fL Oh (pkr T.oX) (fL cG (pv 1) ak (fun _ _=>rfl)) (fun _ _=>rfl)) G pass hr (by omega) (aa (pv 0) (aa (pv 1) ai)))))
  (zX rfl rfl rfl T.B4.ns (fun _=>ag (aS (cv (aa (zM rA ak) ai)))) (zX rfl rfl rfl T.qC.ns (fun _=>ag (aS (cv (aa (zM rA ak) ai)))) (zX rfl rfl rfl T.B5.ns (fun _=>ag (aS (cv (aa (zM rA ak) ai)))) (zX rfl rfl rfl T.p9.ns (fun _=>ag (aS (cv (aa (zM rA ak) ai)))) (zX rfl rfl rfl T.vg.ns (fun _=>ag (aS (cv (aa (zM rA ak) ai)))) aa0)))))),?_⟩
 obtain⟨i,hi8,hi⟩:=Qn ah
 have hi':i<cf.length:=by omega
 have back:∀{H':Hp} {tl:Addr},(∀b,H b≠none→H' b≠none)→H' tl=none→H tl=none:=fun{H' tl} hb e=>by
  cases q:H tl with
  |none=>rfl
  |some o=>exact absurd e (hb tl (by rw[q];intro z;cases z))
 have fin:∀(z:Int) (H':Hp) (S':Addr→Prop),(Rc31Neutral.step st (PyRc31.whole cc)).2=[z]→Kp S H H'→(∀b,H b≠none→H' b≠none)→D.DS H' d S' (Rc31Neutral.step st (PyRc31.whole cc)).1→(∀b,S' b→S b∨H b=none)→∀tl,H' tl=none→Q (.ref tl) (upd H' tl (.lst [.int z])):=fun z H' S' hz kp hb hD' ZX tl we=>by
  have nS':¬S' tl:=fun q=>D.there hD' tl q we
  refine k tl _ S' (by rw[af,hz];rfl) (back hb we) (by rw[hz];have:=MX.kA (PyRc31.whole cc);show(1:Int)≤_;omega) (fun b o e n=>?_) (D.keep hD' fun b hb'=>?_) nS' ZX
  ·have h1:=kp b o e n
   rw[aj (ao h1 we)]
   exact h1
  ·have nb:b≠tl:=fun q=>nS' (by rw[←q];exact hb')
   rw[aj nb]
 refine⟨_,rfl,cl,_,_,_,rfl,rfl,bO.of oJ,at_of (j:=0) (v:=V.int (i:Int)) (by omega) (by rw[List.getElem?_map,hi];rfl),a.oX,_,_,_,rfl,rfl,hT H,at_of (j:=i) (v:=V.ref cf[i]) (by omega) (by rw[List.getElem?_map,List.getElem?_eq_getElem hi'];rfl),⟨i,hi'⟩,rfl,_,rfl,_,rfl,d,cl,S,st,cc,l,t,rfl,hD,oJ,nS,ah,xu,hi,fun tl H' S' h1 h2 h3 h4 h5 h6 h7=>k tl H' S' h1 h2 h3 h4 h5 h6 h7,fun C z hC hz H' S' kp hb hD' ZX=>?_⟩
 have F:=fin z H' S' hz kp hb hD' ZX
 rcases hC with⟨rfl,rfl⟩|⟨rfl|rfl|rfl|rfl,rfl⟩
 ·exact⟨_,rfl,fun σ'=>⟨true,T.o3,iA ⟨_,rfl,(by show 1≤sizeLine;decide),F⟩⟩⟩
 ·exact⟨_,rfl,fun σ'=>⟨false,T.o4,eg ⟨true,T.o5,iA ⟨_,rfl,(by show 1≤sizeLine;decide),F⟩⟩⟩⟩
 ·exact⟨_,rfl,fun σ'=>⟨false,T.o6,eg ⟨false,T.o7,eg ⟨true,T.o8,iA ⟨_,rfl,(by show 1≤sizeLine;decide),F⟩⟩⟩⟩⟩
 ·exact⟨_,rfl,fun σ'=>⟨false,T.kF,eg ⟨false,T.kG,eg ⟨false,T.kH,eg ⟨true,T.iL,iA ⟨_,rfl,(by show 1≤sizeLine;decide),F⟩⟩⟩⟩⟩⟩
 ·exact⟨_,rfl,fun σ'=>⟨false,T.mD,eg ⟨false,T.mE,eg ⟨false,T.mF,eg ⟨false,T.jz,eg ⟨true,T.kI,iA ⟨_,rfl,(by show 1≤sizeLine;decide),F⟩⟩⟩⟩⟩⟩⟩
end
end MI
namespace L2
open PySem PySem.Spec PyProof.Rows
theorem JN {R:PySem.W.WRecords} {cl:Str→Option Addr} {h:Heap}:∀{vs:List Value} {ns:List Int},IntsAre vs ns→PySem.W.ReadsAllW R cl h vs (ns.map PySem.W.WData.int) []
 |_,_,.nil=>.nil
 |_,_,.cons n t r=>.cons (.int n t) (JN r)
def ae8 (s₁:Shared) (ms:List Int) (r:Result) (s':Shared):Prop :=
 ∃p o vs n,r = .ok (.ret (.ref p))∧s'.heap.get? p=some o∧o.cls = .type "list"∧o.data = .seq vs n∧IntsAre vs.toList ms∧OldK s₁.heap s'.heap∧s'.os=s₁.os∧AllBare s'.gens
theorem Td {P:Program} {w:World} {K:PySem.W.Frag} {mg mb:Str→Option Value} {CX:RP} {k:Nat} {fa a:Addr} {fd:FuncData} {x:Str} {sp:Sp} {s₁:Shared} {vs:List Value} {ns ms:List Int}
 (KX:K.In s₁.heap) (hns:s₁.heap.Ns mainGlobals mg) (hb:s₁.heap.Ns builtinsNs mb) (hbb:∀x:Str,x ≠ "__name__"→mb x=bootBuiltins x) (aip:s₁.heap.NoLimit) (hg:s₁.gens=#[])
 (ha:s₁.heap.get? a=some {cls:=.type "list",data:=.seq vs.toArray}) (hi:IntsAre vs ns) (hl:ns.length≤sizeLine) (hr:ia k callerA)
 (F:∀base:Heap,K.In base→base.Ns mainGlobals mg→tT P w K mg base CX k fa fd [x] sp) (ae9:∀(s:Shared) (u:Value),BindsTo s fd ⟨[u],[]⟩ [(x,u)])
 (QH:∀H:Hp,aaV H→bO K H a (ns.map V.int)→sp [.ref a] H (fun v H'=>∃p,v = .ref p∧H' p=some (.lst (ms.map V.int))) fun _ _ _=>False)
 (hCX:∀H e s',CX [] H s₁ (fun _ _ _=>False) e s'→False) :
 codeAny (model P w) callerA (.call (.ref fa) ⟨[.ref a],[]⟩) (ae8 s₁ ms) s₁:=by
 have rv:=Jj hi
 have air:=hi.length
 have core:∀H:Hp,aaV H→bO K H a (ns.map V.int)→t6 P w H s₁.heap→(∀b,H b≠none→b=a)→(H a≠none→K.lookup a=none) →
  codeAny (model P w) callerA (.call (.ref fa) ⟨[.ref a],[]⟩) (ae8 s₁ ms) s₁:=by
  intro H hO hS cD hA hK
  have Rv:∀{b:Addr} {o:Obj},s₁.heap.get? b=some o→H b=none→(JT s₁.heap H).get? b=some o:=fun e n=>TC e n
  have noA:∀{b:Addr} {o:Obj} {es:Array DictEntry} {ep:Nat},s₁.heap.get? b=some o→o.data = .dict es ep→H b=none:=fun{b o es ep} e d=>by
   cases q:H b with
   |none=>rfl
   |some u =>
    have e':b=a:=hA b (by rw[q];simp)
    subst e'
    rw[ha]at e;cases e
    have d':Data.seq vs.toArray _=Data.dict es ep:=d
    cases d'
  have nsK:∀{b:Addr} {m:Str→Option Value},s₁.heap.Ns b m→(JT s₁.heap H).Ns b m:=fun{b m} ⟨o,es,ep,e,d,r⟩=>⟨o,es,ep,Rv e (noA e d),d,r⟩
  have hKb:K.In (JT s₁.heap H):=fun b o e=>Rv (KX b o e) (by
   cases q:H b with
   |none=>rfl
   |some u =>
    have e':b=a:=hA b (by rw[q];simp)
    subst e'
    rw[hK (by rw[q];simp)]at e;cases e)
  have hM:Mod K mg (JT s₁.heap H):=⟨hKb,nsK hns,⟨mb,nsK hb,hbb⟩,let⟨mc,h1,h2⟩:=aip;⟨mc,nsK h1,h2⟩⟩
  have e0:Og P w K mg (JT s₁.heap H) callerA [] s₁ H:=⟨rfl,hM,fun b o e=>WK e,Nat.le_of_eq (RE _ _),trivial,fun b hb=>absurd (show b∈([]:List Addr) from hb) (by simp),cD,.of_eq hg⟩
  refine codeAny_mono ((F _ hKb (nsK hns)).run callerA [] s₁ H ⟨[.ref a],[]⟩ [.ref a] [.ref a] _ _ hr e0 (ae9 s₁ (.ref a)) (.cons rfl .nil) (QH H hO hS)) fun r s' h=>?_
  cases r with
  |error e=>exact(hCX H e s' h).elim
  |ok fl =>
   cases fl with
   |next=>exact False.elim h
   |brk=>exact False.elim h
   |cont=>exact False.elim h
   |ret u =>
    obtain⟨v,H',os,bare,un,afa,r',q⟩:=h
    obtain⟨p,rfl,hp⟩:=q
    obtain rfl:u=Value.ref p:=r'
    obtain⟨hz,bt,n,rvs,hob⟩:=afa p _ hp
    refine⟨p,_,_,n,rfl,hob,rfl,rfl,by simpa using rvs.ints,OldK.of_keep fun b o e=>?_,os,bare⟩
    cases q:H b with
    |none=>exact un.keep b o e q (by intro z;exact absurd (show b∈([]:List Addr) from z) (by simp)) (by simp)
    |some u =>
     rcases hO b with z|⟨ob,xs,z⟩
     ·rw[q]at z;cases z
     ·have z2:=un.EN b ob _ z
      obtain⟨e1,_⟩:=cD b _ z
      obtain⟨e2,_⟩:=afa b _ z2
      rw[e]at e1;cases e1
      exact e2
 cases hk:K.lookup a with
 |some o =>
  have e:=KX a o hk
  rw[ha]at e
  cases e
  refine core (fun _=>none) (fun _=>.inl rfl) (.inr ⟨_,vs.toArray,_,hk,rfl,rfl,rfl,by rw[List.size_toArray,air];exact hl,by simpa using rv⟩) (fun b u z=>by have z':(none:Option HO)=some u:=z;cases z') (fun b z=>absurd rfl z) fun z=>absurd rfl z
 |none =>
  refine core (fun b=>if b=a then some (.TB {cls:=.type "list",data:=.seq vs.toArray} (.lst (ns.map V.int))) else none) (fun b=>?_) (.inl (.inr ⟨{cls:=.type "list",data:=.seq vs.toArray},if_pos rfl⟩)) (fun b u z=>?_) (fun b z=>?_) fun _=>hk
  ·by_cases hb:b=a
   ·exact .inr ⟨_,_,if_pos hb⟩
   ·exact .inl (if_neg hb)
  ·by_cases hb:b=a
   ·have z':=(if_pos hb).symm.trans z
    cases z'
    subst hb
    exact⟨ha,by rw[List.length_map];exact hl,vs,_,rv,ha⟩
   ·have z':=(if_neg hb).symm.trans z
    cases z'
  ·by_cases hb:b=a
   ·exact hb
   ·exact absurd (if_neg hb) z
theorem VY {r:PySem.W.OpenSpec} {n k:Nat} {q:Program} {loose:List Str} {XP:(Str→Option Value)→Heap→Prop} {YP:World→Heap→Prop} {d:DefRec} {K:Params→PySem.W.Frag} {CX:World→RP} {sp:World→Sp} {x:Str} {PRE:List Int→Prop} {g:List Int→List Int}
 (ais:∀args,r.pre args=true→∃ns:List Int,args=[.list (ns.map .int)]∧ns.length≤n∧PRE ns) (afb:∀ns:List Int,r.pre [.list (ns.map .int)]=true→PRE ns→r.post [.list (ns.map .int)] (.list ((g ns).map .int))=true)
 (hn2:n≤sizeLine) (hdf:d.params.defaults=[]) (hr:ia k callerA)
 (hY:∀(w:World) (h:Heap),YP w h→(K w.params).In h)
 (F:∀(w:World) (mg:Str→Option Value) (fa:Addr) (h:Heap),(K w.params).In h→h.Ns mainGlobals mg→mg d.name=some (.ref fa) →
  ∃fd:FuncData,(∀(s:Shared) (u:Value),BindsTo s fd ⟨[u],[]⟩ [(x,u)]) ∧
   ∀base:Heap,(K w.params).In base→base.Ns mainGlobals mg→tT r.prog w (K w.params) mg base (CX w) k fa fd [x] (sp w))
 (QH:∀(w:World) (H:Hp) (a:Addr) (ns:List Int),ns.length≤n→PRE ns→aaV H→bO (K w.params) H a (ns.map V.int)→sp w [.ref a] H (fun v H'=>∃p,v = .ref p∧H' p=some (.lst ((g ns).map V.int))) fun _ _ _=>False)
 (hCX:∀(w:World) (H:Hp) (s:Shared) (e:Value) (s':Shared),CX w [] H s (fun _ _ _=>False) e s'→False) :
 PySem.W.WalkOS q loose XP YP r d [] (fun f vs=>PySem.call f vs):=by
 intro w s₀ s₁ mg mb G Y fa o pm cd doc dV kV ho hd Wv hD hmg hg args vals as Yy anx hrd zI VU
 obtain rfl:dV = .none:=PySem.W.Dflts.none hD hdf
 obtain rfl:kV = .none:=PySem.W.Dflts.noKw hD
 obtain⟨ns,rfl,hlen,hP⟩:=ais args Yy
 have KX:=hY w _ Y
 obtain⟨fd,hb,hF⟩:=F w mg fa _ KX G.T.g hmg
 cases zI with
 |cons w1 w2 =>
  cases w2
  cases w1 with
  |list aiv Ml =>
   have hints:=Att.DK ns _ Ml
   refine PySem.W.enter_call (codeAny_mono (Td KX G.T.g G.T.b G.T.builtins G.T.nolimit hg aiv hints (Nat.le_trans hlen hn2) hr hF hb (fun H hO hS=>QH w H _ ns hlen hP hO hS) fun H e s'=>hCX w H s₁ e s') fun res s' hq=>?_)
   obtain⟨p,ob,vs',n',rfl,h1,h2,h3,h4,h5,h6,h7⟩:=hq
   refine⟨.inl ⟨.ref p,.list ((g ns).map .int),[p],rfl,fun c=>PySem.W.osNone c,.list h1 h2 h3 (JN h4),afb ns Yy hP,fun z=>by cases z⟩,h5,h6,h7⟩
end L2
namespace MI
open PySem L2 PySem.W
theorem JO {lo hi:Int}:∀{ds:List WData} {ns:List Int},Codec.decItems (Codec.decInt lo hi) ds=some ns→ds=ns.map WData.int
 | [],ns,h=>by
  cases h
  rfl
 |d::ds,ns,h=>by
  unfold Codec.decItems at h
  cases hd:Codec.decInt lo hi d with
  |none=>rw[hd]at h;cases h
  |some z =>
   cases hr:Codec.decItems (Codec.decInt lo hi) ds with
   |none=>rw[hd,hr]at h;cases h
   |some zs =>
    rw[hd,hr]at h
    cases h
    rw[JO hr]
    unfold Codec.decInt at hd
    split at hd
    ·split at hd
     ·cases hd
      rfl
     ·cases hd
    ·cases hd
abbrev rr:OpenSpec:=PySem.Challenge.rw_mendedimage_s01_answers
theorem VZ {args:List WData} {x:Codec.denoteAll rr.args} (h:Codec.decAll rr.args args=some x):args=[.list (x.1.map WData.int)]∧x.1.length≤16000:=by
 cases args with
 |nil=>cases h
 |cons d ds =>
  have h':Codec.both Prod.mk (Codec.decList 0 16000 (Codec.decInt (Int.negSucc 2147483647) (Int.ofNat 18446744073709551615)) d) (Codec.decEnd ds)=some x:=h
  cases hd:Codec.decList 0 16000 (Codec.decInt (Int.negSucc 2147483647) (Int.ofNat 18446744073709551615)) d with
  |none=>rw[hd]at h';cases h'
  |some ns =>
   cases ds with
   |cons e es=>rw[hd]at h';cases h'
   |nil =>
    rw[hd]at h'
    cases h'
    unfold Codec.decList at hd
    split at hd
    ·rename_i dl
     split at hd
     ·rename_i hl
      have e:=JO hd
      subst e
      refine⟨rfl,?_⟩
      have hl:Codec.inNat 0 16000 (ns.map WData.int).length=true:=hl
      unfold Codec.inNat at hl
      simp only[Bool.and_eq_true,decide_eq_true_eq,List.length_map]at hl
      exact hl.2
     ·cases hd
    ·cases hd
theorem DE:∀{a b:List Int},a.map WData.int=b.map WData.int→a=b
 | [],[],_=>rfl
 | [],_::_,h=>by cases h
 |_::_,[],h=>by cases h
 |x::a,y::b,h=>by
  rw[List.map_cons,List.map_cons]at h
  injection h with h1 h2
  injection h1 with h1
  rw[h1,DE h2]
theorem aci (args:List WData) (h:rr.pre args=true):∃ns:List Int,args=[.list (ns.map .int)]∧ns.length≤16000∧PyRc31.answers_asked ns=true:=by
 unfold OpenSpec.pre at h
 cases hd:Codec.decAll rr.args args with
 |none=>rw[hd]at h;cases h
 |some x =>
  rw[hd]at h
  obtain⟨e,l⟩:=VZ hd
  exact⟨x.1,e,l,h⟩
theorem YN (ns:List Int) (h:rr.pre [.list (ns.map .int)]=true):rr.post [.list (ns.map .int)] (.list ((PyRc31.answers ns).map .int))=true:=by
 unfold OpenSpec.pre at h
 unfold OpenSpec.post
 cases hd:Codec.decAll rr.args [.list (ns.map .int)] with
 |none=>rw[hd]at h;cases h
 |some x =>
  obtain⟨e,l⟩:=VZ hd
  have e2:ns=x.1:=DE (by injection e with e _;injection e)
  show same _ (rr.ret.enc (PyRc31.answers x.1))=true
  rw[←e2]
  exact same_iff.mpr rfl
theorem V0 {ns:List Int} (h:PyRc31.answers_asked ns=true):∃cs,PyFlat.calls PyRc31.shape ns.length ns=some cs∧(∀cc∈cs,Rc31Neutral.asked1 (PyRc31.whole cc)=true)∧MX.cost cs≤700000∧PyRc31.answers ns=MX.ZZ {} cs:=by
 unfold PyRc31.answers_asked at h
 unfold PyRc31.answers
 unfold PyRc31.calls at h ⊢
 cases hc:PyFlat.calls PyRc31.shape ns.length ns with
 |none=>rw[hc]at h;cases h
 |some cs =>
  rw[hc]at h
  simp only[Bool.and_eq_true]at h
  obtain⟨h1,h2⟩:=h
  unfold Rc31Neutral.asked at h2
  simp only[Bool.and_eq_true,decide_eq_true_eq,List.all_eq_true,List.mem_map,forall_exists_index,and_imp,forall_apply_eq_imp_iff₂,List.length_map]at h2
  obtain⟨⟨h3,h4,h5⟩,_⟩:=h2
  refine⟨cs,rfl,h3,?_,rfl⟩
  rw[MX.VX]
  omega
end MI
namespace MI
open PySem L2 PySem.W
theorem acj {P:Program} {w:World} {fs:List Env} {H:Hp} {s:Shared} {e:Value} {s':Shared} (h:t7 P w fs H s (fun _ _ _=>False) e s'):False:=by
 obtain⟨_,_,_,_,_,_,_,_,_,_,_,_,_,q⟩:=h
 exact q
theorem V1 {n:Nat} {q:Program} {loose:List Str} {XP:(Str→Option Value)→Heap→Prop} {YP:World→Heap→Prop} {d:DefRec} {K:Params→PySem.W.Frag} (hn:1≤n) (hdf:d.params.defaults=[]) (hdn:d.name = "answers") (hr:ia (n+2) callerA)
 (hY:∀(w:World) (h:Heap),YP w h→(K w.params).In h)
 (TX:∀(w:World) (mg:Str→Option Value) (h:Heap),(K w.params).In h→h.Ns mainGlobals mg→∃a,Tx (K w.params) mg a)
 (D:∀a:Ad,DI a)
 (OA:∀(w:World) (mg:Str→Option Value) (base:Heap) (a:Ad),Tx (K w.params) mg a→Pr ⟨rr.prog,w,K w.params,mg,base⟩ n a.answer ["desk","call"] (Bv a (D a))) :
 PySem.W.WalkOS q loose XP YP rr d [] (fun f vs=>PySem.call f vs):=by
 refine VY (r:=rr) (n:=16000) (k:=n+2) (x := "calls") (K:=K) (CX:=fun w=>t7 rr.prog w) (sp:=fun w=>JM (K w.params)) (PRE:=fun ns=>PyRc31.answers_asked ns=true) (g:=PyRc31.answers) aci (fun ns h _=>YN ns h) (by decide) hdf hr hY (fun w mg fa h KX G hmg=>?_) (fun w H a ns hl hP hO hS=>?_) fun w H s e s' h=>acj h
 ·obtain⟨a,T⟩:=TX w mg h KX G
  have e0:(Value.ref fa) = .ref a.answers:=Option.some.inj ((show mg "answers" = some (.ref fa) by rw[←hdn];exact hmg).symm.trans T.Jr)
  cases e0
  obtain⟨fd,F,_⟩:=T.B3
  obtain⟨oc,od,kV,doc,pm,an,cF,ct,Jb,rfl,lk,Wv⟩:=F.ex
  refine⟨PySem.W.fnOf "answers" "answers" (oV nu) (lq nu) (aq nu) .none kV doc pm an cF ct,fun s u=>.of_eq rfl,fun base kb nb=>?_⟩
  have T':Tx (Gm.K ⟨rr.prog,w,K w.params,mg,base⟩) (Gm.mg ⟨rr.prog,w,K w.params,mg,base⟩) a:=T
  obtain⟨fd',F',_,_,oc',od',ahw,lk'⟩:=Qm hn T' (D a) (OA w mg base a T)
  rw[lk]at lk'
  cases lk'
  exact F'
 ·obtain⟨cs,h1,h2,h3,h4⟩:=V0 hP
  exact⟨a,ns,cs,rfl,hS,h1,h2,h3,fun l H' hl=>⟨l,rfl,by rw[h4];exact hl⟩⟩
end MI
namespace MI
open PySem L2
def Rw (fb:List UInt8) (at_ p v j:Nat):List UInt8:=fb.mapIdx fun k c=>if p≤at_+k∧at_+k<p+j then UInt8.ofNat (v/256^(at_+k-p)%256) else c
theorem sZ (fb:List UInt8) (at_ p v j k:Nat):(Rw fb at_ p v j)[k]?=(fb[k]?).map fun c=>if p≤at_+k∧at_+k<p+j then UInt8.ofNat (v/256^(at_+k-p)%256) else c:=by
 unfold Rw
 rw[List.getElem?_mapIdx]
theorem LO (fb:List UInt8) (at_ p v j:Nat):(Rw fb at_ p v j).length=fb.length:=by
 unfold Rw
 rw[List.length_mapIdx]
theorem V2 (fb:List UInt8) (at_ p v:Nat):Rw fb at_ p v 0=fb:=by
 refine List.ext_getElem? fun k=>?_
 rw[sZ]
 cases fb[k]? with
 |none=>rfl
 |some c =>
  show some (if _ then _ else c)=some c
  rw[if_neg (by omega)]
theorem Rx {fb:List UInt8} {at_ p v j:Nat} (h:∀K,K<fb.length→at_+K≠p+j):Rw fb at_ p v (j+1)=Rw fb at_ p v j:=by
 refine List.ext_getElem? fun k=>?_
 rw[sZ,sZ]
 by_cases hk:k<fb.length
 ·have:=h k hk
  have e:(p≤at_+k∧at_+k<p+(j+1))=(p≤at_+k∧at_+k<p+j):=propext (by omega)
  simp only[e]
 ·rw[List.getElem?_eq_none (by omega)]
  rfl
theorem ack {fb:List UInt8} {at_ p v j K:Nat} (hK:K<fb.length) (h:at_+K=p+j):bv (Rw fb at_ p v (j+1))=(bv (Rw fb at_ p v j)).set K (V.int ((v/256^j%256:Nat):Int)):=by
 refine List.ext_getElem? fun k=>?_
 rw[zq,List.getElem?_set,zq,sZ,sZ,br,LO]
 by_cases hk:K=k
 ·subst hk
  rw[if_pos rfl,if_pos hK,List.getElem?_eq_getElem hK]
  show some (V.int ((if _ then _ else _:UInt8).toNat:Int))=_
  rw[if_pos (by omega),show at_+K-p=j by omega,MX.Qe]
 ·rw[if_neg hk]
  have e:(p≤at_+k∧at_+k<p+(j+1))=(p≤at_+k∧at_+k<p+j):=propext (by omega)
  simp only[e]
section
variable {g:Gm} {a:Ad}
def NQ (m:List UInt8) (p base kB:Nat):Nat:=((((Rc31.num m p 8:Nat):Int)+(base:Int)-(kB:Int))%18446744073709551616).toNat
def Te:Sp:=fun vs H Q E=>∃(fl:Addr) (fb:List UInt8) (p at_ v:Nat),vs=[.ref fl,.int ((p:Int)-(at_:Int)),.int (v:Int)]∧H fl=some (.lst (bv fb))∧at_<2^60∧p<2^60∧∀H',H' fl=some (.lst (bv (Rw fb at_ p v 8)))→Kp (At fl) H H'→Q .de H'
theorem DF (T:Tx g.K g.mg a):Pr g 1 a.Ft ["row","at","value"] Te:=by
 refine Pr.on T.Fy uH fun cF A outer s H vs Q E hr h=>?_
 obtain⟨fl,fb,p,at_,v,rfl,hf,hat,hp,k⟩:=h
 refine⟨_,ag (l7 tU rfl (IT rfl T.sf (aa (pv 1) (aa (aO ck (pv 1) (pk T.mm)) ai))) (dH (i:=3) uH.nd rfl (Or.inl rfl)) (ae (dk (EY iK nE ak (pv 3) (aV aJ (by rfl) T.eL PySem.boot_len (aa (pv 0) ai))) (ag (TQ (aO jF (pv 2) ak) (TN (pv 0) (pv 3) set_list))) gw)
  (ag (N8 (i:=2) uH.nd rfl (Or.inl rfl) ak TU)))),?_⟩
 refine⟨_,rfl,_,rfl,_,_,rfl,rfl,_,_,rfl,⟨by omega,by omega,by omega,by omega⟩,qu (lo:=(p:Int)-(at_:Int)) (n:=((p:Int)-(at_:Int)+8-((p:Int)-(at_:Int))).toNat) (fun j σ H2=>∃v3,σ=[some (.ref fl),some (.int ((p:Int)-(at_:Int))),some (.int ((v/256^j:Nat):Int)),v3]∧H2 fl=some (.lst (bv (Rw fb at_ p v j)))∧Kp (At fl) H H2) ⟨none,by rw[Nat.pow_zero,Nat.div_one];rfl,by rw[V2];exact hf,Kp.refl⟩ ?_ ?_⟩
 ·rintro j σ H2 hj ⟨v5,rfl,hF,kp⟩
  have hd:(((v/256^j:Nat):Int)/256)=((v/256^(j+1):Nat):Int):=by
   rw[Nat.pow_succ,←Nat.div_div_eq_div_mul]
   omega
  have hm:(((v/256^j:Nat):Int)%256)=((v/256^j%256:Nat):Int):=by omega
  have aiw:((bv (Rw fb at_ p v j)).length:Int)=(fb.length:Int):=by rw[br,LO]
  refine⟨_,rfl,_,_,rfl,rfl,_,rfl,?_⟩
  refine aw (fun c1=>?_) fun c1=>⟨false,rfl,eg ⟨_,rfl,_,_,rfl,rfl,⟨(by decide:(0:Int)<256),(by decide:(256:Int)<1073741824)⟩,_,by rw[←hd];rfl,by rw[Rx (fun K hK=>by omega)];exact hF,kp⟩⟩
  refine⟨_,rfl,fl,_,rfl,.inl (bO.of hF),_,_,rfl,rfl,_,rfl,?_⟩
  rw[aiw]
  refine aw (fun c2=>?_) fun c2=>⟨_,rfl,_,_,rfl,rfl,⟨(by decide:(0:Int)<256),(by decide:(256:Int)<1073741824)⟩,_,by rw[←hd];rfl,by rw[Rx (fun K hK=>by omega)];exact hF,kp⟩
  obtain⟨K,hK⟩:∃K:Nat,(p:Int)-(at_:Int)+(j:Int)=(K:Int):=⟨((p:Int)-(at_:Int)+(j:Int)).toNat,by omega⟩
  have hKl:K<fb.length:=by omega
  refine⟨_,rfl,_,_,rfl,rfl,(by show(0:Int)<256;decide),_,rfl,_,rfl,fl,_,_,K,rfl,rfl,hF,?_,?_⟩
  ·unfold T7
   rw[br,LO,if_pos (by omega),if_pos (by omega)]
   congr 1
   omega
  ·refine⟨_,rfl,_,_,rfl,rfl,⟨(by decide:(0:Int)<256),(by decide:(256:Int)<1073741824)⟩,_,by rw[←hd];rfl,?_,?_⟩
   ·rw[af,ack hKl (by omega),←hm]
   ·exact kp.step (Kp.upd (S:=At fl) (.inl rfl)) fun _ z=>.inl z
 ·rintro σ H2 ⟨v5,rfl,hF,kp⟩
  rw[show((p:Int)-(at_:Int)+8-((p:Int)-(at_:Int))).toNat=8 by omega]at hF
  exact k H2 hF kp
def LP (a:Ad):Sp:=fun vs H Q E=>∃(x dx hl gr dg:Addr) (fs fg:List (Str×V)) (m:List UInt8) (p:Nat) (base kB:Nat),vs=[.ref x,.int (p:Int)]∧H x=some (.ins a.bR dx fs)∧fs.lookup ("held" : Str)=some (.ref hl)∧fs.lookup ("base" : Str)=some (.int (base:Int))∧fs.lookup ("ground" : Str)=some (.ref gr) ∧
 H gr=some (.ins a.cZ dg fg)∧fg.lookup ("home" : Str)=some (.int (kB:Int))∧H hl=some (.lst (bv m))∧∀H',ax H H'→Q (.int (NQ m p base kB:Nat)) H'
theorem wg (T:Tx g.K g.mg a):Pr g 2 a.jO ["self","place"] (LP a):=by
 refine Pr.on T.mx uI fun cF A outer s H vs Q E hr h=>?_
 obtain⟨x,dx,hl,gr,dg,fs,fg,m,p,base,kB,rfl,hx,f1,f2,f3,hg,f4,hh,k⟩:=h
 refine⟨_,ag (aS (aO jF (aO gx (aO ck (aU (cp T) au hr (by decide) T.a7 (aa (ar (pv 0) rfl) (aa (pv 1) (aa (pk T.mm) ai)))) (ar (pv 0) rfl)) (ar (ar (pv 0) rfl) rfl)) (pk T.gQ))),?_⟩
 refine⟨_,rfl,x,_,dx,_,_,rfl,hx,T.a9,T.fF,f1,_,rfl,hl,m,p,8,rfl,hh,fun H1 s1=>?_⟩
 refine⟨_,rfl,x,_,dx,_,_,rfl,s1 _ _ hx,T.a9,T.fE,f2,_,_,rfl,rfl,_,rfl,x,_,dx,_,_,rfl,s1 _ _ hx,T.a9,T.dO,f3,gr,_,dg,_,_,rfl,s1 _ _ hg,T.bH,T.cE,f4,_,_,rfl,rfl,_,_,rfl,rfl,(by show(0:Int)<18446744073709551616;decide),?_⟩
 have ev:((((Rc31.num m p 8:Nat):Int)+(base:Int)-(kB:Int))%18446744073709551616)=((NQ m p base kB:Nat):Int):=by
  unfold NQ
  omega
 have:=k H1 s1
 rw[←ev]at this
 exact this
end
end MI
namespace MI
open PySem L2
def YO (m:List UInt8) (l:List Nat) (V:Nat→Nat) (at_ n:Nat) (z:Int):List UInt8:=((m.drop at_).take n).mapIdx fun k c=>match MX.wordOf l (at_+k) with
 |some i=>if (i:Int)<z then UInt8.ofNat (V i/256^(at_+k-i)%256) else c
 |none=>c
section
variable {m:List UInt8} {l:List Nat} {V:Nat→Nat} {at_ n:Nat} {z:Int}
theorem wG (k:Nat):(YO m l V at_ n z)[k]?=(((m.drop at_).take n)[k]?).map fun c=>match MX.wordOf l (at_+k) with
 |some i=>if (i:Int)<z then UInt8.ofNat (V i/256^(at_+k-i)%256) else c
 |none=>c:=by
 unfold YO
 rw[List.getElem?_mapIdx]
theorem Bw {k i:Nat} (h:MX.wordOf l k=some i):i∈l∧i≤k∧k<i+8:=by
 have hc:=List.find?_some h
 simp only[decide_eq_true_eq]at hc
 exact⟨List.mem_of_find?_eq_some h,hc⟩
theorem V3 (hz:z≤(at_:Int)-7):YO m l V at_ n z=(m.drop at_).take n:=by
 refine List.ext_getElem? fun k=>?_
 rw[wG]
 cases((m.drop at_).take n)[k]? with
 |none=>rfl
 |some c =>
  show some _=some c
  congr 1
  cases hw:MX.wordOf l (at_+k) with
  |none=>rfl
  |some i =>
   have:=Bw hw
   show(if (i:Int)<z then _ else c)=c
   rw[if_neg (by omega)]
theorem YQ (h:∀i∈l,(i:Int)≠z):YO m l V at_ n (z+1)=YO m l V at_ n z:=by
 refine List.ext_getElem? fun k=>?_
 rw[wG,wG]
 cases hw:MX.wordOf l (at_+k) with
 |none=>rfl
 |some i =>
  have h1:=h i (Bw hw).1
  have e:((i:Int)<z+1)=((i:Int)<z):=propext (by omega)
  simp only[e]
theorem acm (hd:Rc31.distant l=true) {p:Nat} (hp:p∈l) (hz:z=(p:Int)):YO m l V at_ n (z+1)=Rw (YO m l V at_ n z) at_ p (V p) 8:=by
 refine List.ext_getElem? fun k=>?_
 rw[sZ,wG,wG,Option.map_map]
 congr 1
 funext c
 show _=if p≤at_+k∧at_+k<p+8 then _ else _
 by_cases hk:p≤at_+k∧at_+k<p+8
 ·rw[if_pos hk,MX.JL hd hp hk.1 hk.2]
  show(if (p:Int)<z+1 then _ else c)=_
  rw[if_pos (by omega)]
 ·rw[if_neg hk]
  cases hw:MX.wordOf l (at_+k) with
  |none=>rfl
  |some i =>
   have h1:=Bw hw
   have ne:i≠p:=fun q=>hk (by rw[←q];exact h1.2)
   have e:((i:Int)<z+1)=((i:Int)<z):=propext (by omega)
   simp only[e]
theorem YR {d:Nat} (hd:Rc31.distant l=true) (hl:∀i∈l,i+8≤m.length) (hV:∀i,V i=(Rc31.num m i 8+d)%Rc31.W64) (hz:(at_:Int)+(((m.drop at_).take n).length:Int)≤z):YO m l V at_ n z=((Rc31.mended m d l).drop at_).take n:=by
 obtain⟨g1,g2⟩:=MX.fK l m d hd hl
 refine List.ext_getElem? fun k=>?_
 have eR:(((Rc31.mended m d l).drop at_).take n)[k]?=if k<n then MX.YK m d l (at_+k) else none:=by rw[List.getElem?_take,List.getElem?_drop,g2]
 rw[wG,eR]
 by_cases hk:k<n
 ·rw[if_pos hk]
  unfold MX.YK
  have e0:((m.drop at_).take n)[k]?=m[at_+k]?:=by rw[List.getElem?_take,if_pos hk,List.getElem?_drop]
  by_cases Uu:at_+k<m.length
  ·have hlen:k<((m.drop at_).take n).length:=by rw[List.length_take,List.length_drop];omega
   rw[e0,List.getElem?_eq_getElem Uu]
   cases hw:MX.wordOf l (at_+k) with
   |none=>rfl
   |some i =>
    have h1:=Bw hw
    show some (if (i:Int)<z then _ else _)=(Rc31.le 8 ((Rc31.num m i 8+d)%Rc31.W64))[at_+k-i]?
    rw[if_pos (by omega),←hV i]
    unfold Rc31.le
    rw[List.getElem?_map,List.getElem?_range (by omega)]
    rfl
  ·rw[e0,List.getElem?_eq_none (by omega)]
   cases hw:MX.wordOf l (at_+k) with
   |none=>rfl
   |some i =>
    have h1:=Bw hw
    have h2:=hl i h1.1
    omega
 ·rw[if_neg hk,List.getElem?_take,if_neg hk]
  rfl
end
section
variable {g:Gm} {a:Ad}
def Tf (a:Ad):Sp:=fun vs H Q E=>∃(x dx hl md gr dg:Addr) (fs fg:List (Str×V)) (aZ:List (Key×V)) (m:List UInt8) (l:List Nat) (at_ base kB d:Nat) (most:Int),vs=[.ref x,.int (at_:Int),.int most]∧H x=some (.ins a.bR dx fs)∧fs.lookup ("held" : Str)=some (.ref hl)∧fs.lookup ("base" : Str)=some (.int (base:Int))∧fs.lookup ("ground" : Str)=some (.ref gr)∧H gr=some (.ins a.cZ dg fg)∧fg.lookup ("home" : Str)=some (.int (kB:Int))∧fs.lookup ("mended" : Str)=some (.ref md)∧fs.lookup ("mended_word" : Str)=none ∧
 H hl=some (.lst (bv m))∧H md=some (.dK aZ)∧(∀z:Int,(jo aZ (Sum.inl z)).isSome=decide (∃p∈l,(p:Int)=z))∧Rc31.distant l=true∧(∀i∈l,i+8≤m.length)∧m.length≤4194304∧(∀i,NQ m i base kB=(Rc31.num m i 8+d)%Rc31.W64)∧at_<2^40 ∧
 ∀tl H',H' tl=some (.lst (bv (((Rc31.mended m d l).drop at_).take (Rc31.room_ most))))→H tl=none→ax H H'→Q (.ref tl) H'
theorem IG (T:Tx g.K g.mg a):Pr g 3 a.yM ["self","at","most"] (Tf a):=by
 refine Pr.on T.Aq pY fun cF A outer s H vs Q E hr h=>?_
 obtain⟨x,dx,hl,md,gr,dg,fs,fg,aZ,m,l,at_,base,kB,d,most,rfl,hx,f1,f2,f3,hgr,f6,f4,f5,hh,hmd,VT,hdi,hli,LZ,hV,hat,k⟩:=h
 refine⟨_,ae (dk (JW (EY iK iK ak (pv 2) (pk T.Ds))) (ag (aS (cv ai))) gw)
  (ae (aI (i:=3) pY.nd rfl (Or.inl rfl) (jH mX (ar (pv 0) rfl) (gV (pv 1)) (gV (aO ck (pv 1) (pv 2)))))
  (ae (l7 tU rfl (IT rfl T.sf (aa (aO gx (pv 1) ak) (aa (aO ck (pv 1) (aV aJ (by rfl) T.eL PySem.boot_len (aa (pv 3) ai))) ai))) (dH (i:=4) pY.nd rfl (Or.inl rfl)) (ag (dk (Bz (aaP (Fh hr) (pv 4) (ar (pv 0) rfl))) (ag (aR (aU (DF T) au hr (by decide) T.yR (aa (pv 3) (aa (aO gx (pv 4) (pv 1)) (aa (cK (pv 0) (wg T) T.a9 T.mI au hr (by decide) (aa (pv 4) ai)) ai)))))) gw)))
  (ag (aS (pv 3))))),?_⟩
 have empty:¬(1≤most∧most≤4194304)→∀tl,H tl=none→Q (.ref tl) (upd H tl (.lst [])):=fun hn tl ht=>by
  refine k tl _ ?_ ht (ax.upd ht)
  have e:Rc31.room_ most=0:=by
   unfold Rc31.room_
   rw[if_neg (show ¬(1≤most∧most≤((Rc31.MOST:Nat):Int)) from hn)]
  rw[af,e]
  rfl
 refine⟨_,rfl,_,_,rfl,rfl,_,rfl,?_⟩
 refine aw (fun c1=>?_) fun c1=>⟨false,rfl,iA ⟨Nat.zero_le _,empty fun z=>c1 z.1⟩⟩
 refine⟨_,_,rfl,rfl,_,rfl,?_⟩
 by_cases c2:¬most≤4194304
 ·have e2:decide (most≤(4194304:Int))=false:=decide_eq_false c2
  rw[e2]
  exact iA ⟨Nat.zero_le _,empty fun z=>c2 z.2⟩
 ·have c2:most≤4194304:=Classical.not_not.mp c2
  have e2:decide (most≤(4194304:Int))=true:=decide_eq_true c2
  rw[e2]
  obtain⟨n,rfl⟩:∃n:Nat,most=(n:Int):=⟨most.toNat,by omega⟩
  have er:Rc31.room_ (n:Int)=n:=by
   unfold Rc31.room_
   rw[if_pos (show 1≤(n:Int)∧(n:Int)≤((Rc31.MOST:Nat):Int) from ⟨c1,c2⟩)]
   rfl
  rw[er]at k
  refine eg ⟨_,rfl,x,_,dx,_,_,rfl,hx,T.a9,T.fF,f1,_,rfl,_,rfl,_,rfl,_,rfl,_,_,rfl,rfl,_,rfl,hl,_,rfl,bO.of hh,fun fl SE=>?_⟩
  rw[K9]
  have s1:ax H (upd H fl (.lst (bv ((m.drop at_).take n)))):=ax.upd SE
  have N4:upd H fl (.lst (bv ((m.drop at_).take n))) fl=some (.lst (bv ((m.drop at_).take n))):=af
  generalize upd H fl (.lst (bv ((m.drop at_).take n)))=H1 at *
  have anD:((m.drop at_).take n).length≤m.length:=by rw[List.length_take,List.length_drop];omega
  refine⟨_,rfl,_,_,rfl,rfl,_,rfl,_,rfl,fl,_,rfl,.inl (bO.of N4),_,_,rfl,rfl,_,_,rfl,?_,?_⟩
  ·rw[br]
   exact⟨by omega,by omega,by omega,by omega⟩
  rw[br]
  refine qu (lo:=(at_:Int)-7) (n:=((at_:Int)+(((m.drop at_).take n).length:Int)-((at_:Int)-7)).toNat) (fun j σ H2=>∃v4,σ=[some (.ref x),some (.int (at_:Int)),some (.int (n:Int)),some (.ref fl),v4]∧H2 fl=some (.lst (bv (YO m l (fun i=>NQ m i base kB) at_ n ((at_:Int)-7+(j:Int)))))∧ax H H2) ⟨none,rfl,?_,s1⟩ ?_ ?_
  ·rw[V3 (by omega)]
   exact N4
  ·rintro j σ H2 hj ⟨v4,rfl,hF,sH⟩
   have WA:=sH _ _ hx
   refine⟨_,rfl,_,rfl,x,_,dx,_,_,rfl,WA,T.a9,T.eZ,f4,md,_,rfl,wH.k (k:=Sum.inl ((at_:Int)-7+(j:Int))) (sH _ _ hmd),_,rfl,?_⟩
   rw[VT]
   have ej:(at_:Int)-7+((j+1:Nat):Int)=((at_:Int)-7+(j:Int))+1:=by omega
   refine aw (fun hp=>?_) fun hp=>⟨_,rfl,by rw[ej,YQ fun i hi e=>hp ⟨i,hi,e⟩];exact hF,sH⟩
   obtain⟨p,oI,hpz⟩:=hp
   have hp8:=hli p oI
   refine⟨_,rfl,_,rfl,_,rfl,_,_,rfl,rfl,_,rfl,x,dx,_,rfl,WA,f5,_,rfl,x,dx,hl,gr,dg,fs,fg,m,p,base,kB,?_,WA,f1,f2,f3,sH _ _ hgr,f6,sH _ _ hh,fun H3 s3=>⟨fl,_,p,at_,NQ m p base kB,?_,s3 _ _ hF,by omega,by omega,fun H4 hF4 k4=>?_⟩⟩
   ·rw[hpz]
    rfl
   ·rw[hpz]
    rfl
   ·refine⟨_,rfl,?_,wF (sH.trans s3) k4 fun b hb=>by rw[show b=fl from hb];exact SE⟩
    rw[hF4,ej,acm hdi oI hpz.symm]
  ·rintro σ H2 ⟨v4,rfl,hF,sH⟩
   refine⟨_,rfl,k fl H2 ?_ SE sH⟩
   rw[hF,YR (d:=d) hdi hli hV (by omega)]
end
end MI
namespace MI
open PySem L2
section
variable {g:Gm} {a:Ad}
def V4 (a:Ad):Sp:=fun vs H Q E=>∃(x dx:Addr) (fs:List (Str×V)) (b:Nat),vs=[.ref x,.int (b:Int)]∧H x=some (.ins a.bR dx fs)∧fs.length<1000∧(b%4096≠0∨2^47≤b+Rc31.MOST→E (.ref a.dI) none H)∧(¬(b%4096≠0∨2^47≤b+Rc31.MOST)→Q .de (upd H x (.ins a.bR dx (aF "base" (.int (b:Int)) fs))))
theorem LQ (T:Tx g.K g.mg a):Pr g 1 a.BV ["self","base"] (V4 a):=by
 refine Pr.on T.Df Kc fun cF A outer s H vs Q E hr h=>?_
 obtain⟨x,dx,fs,b,rfl,hx,hl,k0,k1⟩:=h
 refine⟨_,ae (dk (PW.pt (ac9 (bG TY (aO jF (pv 1) (pk T.FH)) ak (aC _)) (aag (bG zN (aO ck (pv 1) (pk T.se)) (pk T.UL) (aC _))))) (ag (nH T.B5 rfl rC rfl)) gw)
  (ag (aT (pv 0) (pv 1) rfl)),?_⟩
 have hM:Rc31.MOST=4194304:=rfl
 rw[hM]at k0 k1
 refine⟨_,rfl,_,_,rfl,rfl,(by show(0:Int)<4096;decide),rfl,_,rfl,?_⟩
 have ne:(!decide (V.int ((b:Int)%4096)=V.int 0))=decide (b%4096≠0):=by
  by_cases q:b%4096=0
  ·have e1:V.int ((b:Int)%4096)=V.int 0:=by congr 1;omega
   have e2:¬(b%4096≠0):=fun z=>z q
   rw[decide_eq_true e1,decide_eq_false e2]
   rfl
  ·have e1:¬V.int ((b:Int)%4096)=V.int 0:=fun z=>by injection z with z;omega
   have e2:b%4096≠0:=q
   rw[decide_eq_false e1,decide_eq_true e2]
   rfl
 show if (!decide (V.int ((b:Int)%4096)=V.int 0))=true then _ else _
 rw[ne]
 refine aw (fun c1=>?_) fun c1=>?_
 ·exact k0 (.inl c1)
 ·refine⟨_,rfl,_,_,rfl,rfl,_,_,rfl,rfl,_,rfl,?_⟩
  generalize hb:decide ((140737488355328:Int)≤(b:Int)+4194304)=bb
  cases bb with
  |true =>
   have:=of_decide_eq_true hb
   exact iA (k0 (.inr (by omega)))
  |false =>
   have:=of_decide_eq_false hb
   refine eg ⟨_,rfl,_,rfl,x,_,dx,_,rfl,hx,T.a9,T.fE,hl,k1 (fun z=>z.elim (fun z=>c1 z) fun z=>by omega)⟩
end
end MI
namespace MI
open Rc31
def dD (t:Told):Dir×Dir×Dir:=t.info.getD ((0,0),(0,0),(0,0))
theorem GZ {b:Bytes} {d:Dir} (h:MX.rb b d):(part b d).length=d.2:=by
 unfold part
 rw[List.length_take,List.length_drop]
 unfold MX.rb at h
 omega
theorem Ry {b:Bytes} {t:Told} (T:TG b t):MX.rb b (dD t).1∧MX.rb b (dD t).2.1∧MX.rb b (dD t).2.2:=by
 unfold dD
 cases h:t.info with
 |none=>exact⟨Nat.zero_le _,Nat.zero_le _,Nat.zero_le _⟩
 |some d=>exact T.ok.info d h
theorem Tg (u:Wn):(eW u).map (fun w=>w.word)=wd u.r:=by
 unfold eW
 rw[List.map_map]
 exact List.map_id _
theorem zD (ws:List Wn):(ws.flatMap eW).map (fun w=>w.word)=outs (ws.map fun u=>u.r):=by
 unfold outs
 induction ws with
 |nil=>rfl
 |cons u ws ih =>
  rw[List.flatMap_cons,List.map_append,ih,Tg,List.map_cons,List.flatMap_cons]
theorem Bx (a b:List Rn):outs (a++b)=outs a++outs b:=by
 unfold outs
 rw[List.flatMap_append]
structure aiy (b:Bytes) (t:Told):Prop where
 noM:vX t (part b (dD t).1)=none→image b=none
 noB:v9 t (part b (dD t).2.1)=none→image b=none
 noG:gives (part b (dD t).2.2) t.size=none→image b=none
 noD:∀rs ws,vX t (part b (dD t).1)=some rs→v9 t (part b (dD t).2.1)=some ws→distant (outs (rs++ws.map fun u=>u.r))=false→image b=none
 yes:∀rs ws g,vX t (part b (dD t).1)=some rs→v9 t (part b (dD t).2.1)=some ws→gives (part b (dD t).2.2) t.size=some g→distant (outs (rs++ws.map fun u=>u.r))=true→image b=some ⟨t,laid b t,outs rs,ws.flatMap eW,g⟩
 okM:∀rs,vX t (part b (dD t).1)=some rs→∀r∈rs,xt t r
 okB:∀ws,v9 t (part b (dD t).2.1)=some ws→∀u∈ws,S1 t u
theorem YS {b:Bytes} {t:Told} (h:toldOf b=some t) (T:TG b t):aiy b t:=by
 obtain⟨d1,d2,d3⟩:=Ry T
 obtain⟨m1,m2⟩:=SY T.tok (part b (dD t).1) (dD t).1.2 (GZ d1).symm
 obtain⟨b1,b2⟩:=S5 T.tok (part b (dD t).2.1) (dD t).2.1.2 (GZ d2).symm
 have e:image b=(mends t ((dD t).1.2+1) {} (part b (dD t).1)).bind fun ms=>(binds t ((dD t).2.1.2+1) {} (part b (dD t).2.1)).bind fun ws=>(gives (part b (dD t).2.2) t.size).bind fun g =>
  if distant (ms++ws.map fun w=>w.word)=true then some ⟨t,laid b t,ms,ws,g⟩ else none:=by
  unfold image
  rw[h]
  rfl
 have fin:∀ms ws (g:List (Bytes×Nat)),distant (ms++ws.map fun w=>w.word)=false→(if distant (ms++ws.map fun w=>w.word)=true then some (⟨t,laid b t,ms,ws,g⟩:Image) else none)=none:=fun ms ws g q=>by rw[q];rfl
 refine⟨fun hm=>?_,fun hb=>?_,fun hg=>?_,fun rs ws hm hb hd=>?_,fun rs ws g hm hb hg hd=>?_,fun rs hm=>(m1 rs hm).2,fun ws hb=>(b1 ws hb).2⟩
 ·rw[e]
  cases hms:mends t ((dD t).1.2+1) {} (part b (dD t).1) with
  |none=>rfl
  |some ms =>
   have hd:=m2 hm ms hms
   show(binds t ((dD t).2.1.2+1) {} (part b (dD t).2.1)).bind _=none
   cases binds t ((dD t).2.1.2+1) {} (part b (dD t).2.1) with
   |none=>rfl
   |some ws =>
    show(gives (part b (dD t).2.2) t.size).bind _=none
    cases gives (part b (dD t).2.2) t.size with
    |none=>rfl
    |some g=>exact fin _ _ _ (MX.ko hd).1
 ·rw[e]
  cases hms:mends t ((dD t).1.2+1) {} (part b (dD t).1) with
  |none=>rfl
  |some ms =>
   show(binds t ((dD t).2.1.2+1) {} (part b (dD t).2.1)).bind _=none
   cases hbs:binds t ((dD t).2.1.2+1) {} (part b (dD t).2.1) with
   |none=>rfl
   |some ws =>
    have hd:=b2 hb ws hbs
    show(gives (part b (dD t).2.2) t.size).bind _=none
    cases gives (part b (dD t).2.2) t.size with
    |none=>rfl
    |some g=>exact fin _ _ _ (MX.ko hd).2
 ·rw[e,hg]
  cases mends t ((dD t).1.2+1) {} (part b (dD t).1) with
  |none=>rfl
  |some ms =>
   show(binds t ((dD t).2.1.2+1) {} (part b (dD t).2.1)).bind _=none
   cases binds t ((dD t).2.1.2+1) {} (part b (dD t).2.1) with
   |none=>rfl
   |some ws=>rfl
 ·rw[e,(m1 rs hm).1,(b1 ws hb).1]
  show(gives (part b (dD t).2.2) t.size).bind _=none
  cases gives (part b (dD t).2.2) t.size with
  |none=>rfl
  |some g =>
   refine fin _ _ _ ?_
   rw[zD,←hd,Bx]
   rfl
 ·rw[e,(m1 rs hm).1,(b1 ws hb).1,hg]
  show(if _ then _ else _)=_
  rw[if_pos]
  ·rfl
  ·rw[zD,←hd,Bx]
   rfl
end MI
namespace MI
open PySem L2
def tR (a:Ad0) (libs:List (List UInt8)) (N:Addr→Prop) (hl x:Addr) (H:Hp) (y:Addr) (u:Wn):Prop:=∃dx xr dr nl ln,H y=some (.ins a.me dx (sj (.ref xr) (.int (u.vY:Int)) (.ref ln) (.ref nl) (.int (u.plus:Int))))∧H xr=some (.ins a.tw dr (xS (.int (u.r.p:Int)) (.int (u.r.n:Int)) (.int (MX.aD u.r.n u.r.skip))))∧H nl=some (.lst (bv u.name))∧H ln=some (.lst (bv (libs.getD (u.vY-1) [])))∧(N y∧N xr∧N nl∧N ln)∧y≠x∧xr≠x∧nl≠hl∧ln≠hl
theorem tR.kept {a:Ad0} {libs:List (List UInt8)} {N:Addr→Prop} {hl x:Addr} {H H':Hp} {y:Addr} {u:Wn} (h:tR a libs N hl x H y u) (s:ax H H'):tR a libs N hl x H' y u:=by
 obtain⟨dx,xr,dr,nl,ln,h1,h2,h3,h4,r⟩:=h
 exact⟨dx,xr,dr,nl,ln,s _ _ h1,s _ _ h2,s _ _ h3,s _ _ h4,r⟩
theorem G4 (u:Wn):(eW u).length=u.r.n:=by
 unfold eW
 rw[List.length_map,NJ]
theorem V5 {u:Wn} {b:Nat} (h:b<u.r.n):(eW u)[b]?=some ⟨u.vY,u.name,u.plus,MX.bQ u.r.p u.r.skip b⟩:=by
 unfold eW wd
 rw[List.getElem?_map,List.getElem?_map,List.getElem?_range h]
 rfl
theorem Th {ws:List Wn} {i b:Nat} {u:Wn} (hi:ws[i]?=some u) (h:b<u.r.n):(ws.flatMap eW)[((ws.take i).flatMap eW).length+b]?=some ⟨u.vY,u.name,u.plus,MX.bQ u.r.p u.r.skip b⟩:=by
 obtain⟨oQ,e⟩:=List.getElem?_eq_some_iff.mp hi
 have e2:ws=ws.take i++(u::ws.drop (i+1)):=by
  conv=>lhs;rw[←List.take_append_drop i ws]
  rw[List.drop_eq_getElem_cons oQ,e]
 conv=>lhs;arg 1;rw[e2]
 rw[List.flatMap_append,List.flatMap_cons,List.getElem?_append_right (by omega),Nat.add_sub_cancel_left,List.getElem?_append_left (by rw[G4];exact h),V5 h]
theorem Qo {ws:List Wn} {i:Nat} {u:Wn} (hi:ws[i]?=some u):((ws.take (i+1)).flatMap eW).length=((ws.take i).flatMap eW).length+u.r.n:=by
 rw[gK hi,List.flatMap_append,List.length_append,List.flatMap_cons,List.length_append,G4]
 rfl
section
variable {g:Gm} {a:Ad}
def V6 (a:Ad):Sp:=fun vs H Q E=>∃(z dz y:Addr) (p:Int),vs=[.ref z,.int p,.ref y]∧H z=some (.ins a.fm dz [])∧∀H',H' z=some (.ins a.fm dz (ke (.int p) (.ref y)))→Kp (At z) H H'→Q .de H'
theorem zE (T:Tx g.K g.mg a):Pr g 1 a.mh ["self","place","want"] (V6 a):=by
 refine Pr.on T.oZ yE fun cF A outer s H vs Q E hr h=>?_
 obtain⟨z,dz,y,p,rfl,hz,k⟩:=h
 refine⟨_,ae (aT (pv 0) (pv 1) rfl) (ag (aT (pv 0) (pv 2) rfl)),?_⟩
 refine⟨_,rfl,_,rfl,z,_,dz,_,rfl,hz,T.fD,T.df,(by show 0<1000;decide),_,rfl,_,rfl,z,_,dz,_,rfl,af,T.fD,T.dw,pl1,?_⟩
 rw[bM,DY]
 exact k _ af (Kp.upd (.inl rfl))
structure DG (a:Ad) (H:Hp) (x dx wl:Addr) (fs:List (Str×V)) (wa:List Addr) (ws:List Wn) (t:Rc31.Told) (N:Addr→Prop) (hl:Addr):Prop where
 ob:H x=some (.ins a.bR dx fs)
 f:fs.lookup ("wanted" : Str)=some (.ref wl)
 l:H wl=some (.lst (wa.map V.ref))
 pr:Paired (tR a.toAd0 t.libraries N hl x H) wa ws
 tok:MX.wD t
 ok:∀u∈ws,S1 t u
theorem DG.same {H H':Hp} {x dx wl:Addr} {fs:List (Str×V)} {wa:List Addr} {ws:List Wn} {t:Rc31.Told} {N:Addr→Prop} {hl:Addr} (h:DG a H x dx wl fs wa ws t N hl) (s:ax H H'):DG a H' x dx wl fs wa ws t N hl :=
 ⟨s _ _ h.ob,h.f,s _ _ h.l,Paired.ua h.pr fun _ _ q=>q.kept s,h.tok,h.ok⟩
def LR (a:Ad):Sp:=fun vs H Q E=>∃(x dx wl:Addr) (fs:List (Str×V)) (wa:List Addr) (ws:List Wn) (t:Rc31.Told) (N:Addr→Prop) (hl:Addr) (k:Int),vs=[.ref x,.int k]∧DG a H x dx wl fs wa ws t N hl ∧
 (¬(0≤k∧k<((ws.flatMap eW).length:Int))→∀H',ax H H'→E (.ref a.bL) none H') ∧
 ∀(u:Wn) (y z dz:Addr) (p:Nat) (H':Hp),0≤k→u∈ws→tR a.toAd0 t.libraries N hl x H' y u→(ws.flatMap eW)[k.toNat]?=some ⟨u.vY,u.name,u.plus,p⟩→H' z=some (.ins a.fm dz (ke (.int (p:Int)) (.ref y)))→H z=none→ax H H'→Q (.ref z) H'
theorem l6 (T:Tx g.K g.mg a):Pr g 3 a.jQ ["self","k"] (LR a):=by
 refine Pr.on T.mz fj fun cF A outer s H vs Q E hr h=>?_
 obtain⟨x,dx,wl,fs,wa,ws,t,N,hl,kk,rfl,P,k0,k1⟩:=h
 refine⟨_,ae (aI (i:=2) fj.nd rfl (Or.inl rfl) (pv 1))
  (ae (l7 tU rfl (lh (ar (pv 0) rfl)) (dH (i:=3) fj.nd rfl (Or.inl rfl)) (ae (dk (EY iK nE ak (pv 2) (ar (ar (pv 3) rfl) rfl)) (ag (aS (kO (zE T) T.lB au hr (by decide) T.AB (aa (cK (ar (pv 3) rfl) (iu T) T.dR T.fO au hr (by decide) (aa (pv 2) ai)) (aa (pv 3) ai))))) gw)
  (ag (N8 (i:=2) fj.nd rfl (Or.inl rfl) (ar (ar (pv 3) rfl) rfl) aao))))
  (ag (nH T.vg rfl rC rfl))),?_⟩
 refine⟨_,rfl,_,rfl,x,_,dx,_,_,rfl,P.ob,T.a9,T.ff,P.f,wl,rfl,⟨_,bO.of P.l⟩,ud (K:=g.K) (a:=wl) (xs:=wa.map V.ref) (fun i σ H2=>∃v3,σ=[some (.ref x),some (.int kk),some (.int (kk-(((ws.take i).flatMap eW).length:Int))),v3]∧H2=H∧(0≤kk→(((ws.take i).flatMap eW).length:Int)≤kk)) ⟨none,?_,rfl,fun q=>by simpa using q⟩ (fun i σ H2 _ ⟨_,_,e,_⟩=>by rw[e];exact bO.of P.l) ?_ ?_⟩
 ·rw[List.take_zero,List.flatMap_nil,List.length_nil,Int.natCast_zero,Int.sub_zero]
  rfl
 ·rintro i y σ H2 hy ⟨v3,rfl,rfl,hle⟩
  obtain⟨y,ZV,rfl⟩:=pH hy
  obtain⟨u,hu,hW⟩:=iw P.pr ZV
  obtain⟨Hg,xr,dr,nl,ln,h1,h2,h3,h4,hN,Hc⟩:=id hW
  have hum:u∈ws:=List.mem_of_getElem? hu
  have hsn:=Qo hu
  generalize hB:((ws.take i).flatMap eW).length=B at *
  have next:¬(0≤kk-(B:Int)∧kk-(B:Int)<(u.r.n:Int))→∃v3,[some (V.ref x),some (.int kk),some (.int (kk-(B:Int)-(u.r.n:Int))),some (.ref y)]=[some (V.ref x),some (.int kk),some (.int (kk-(((ws.take (i+1)).flatMap eW).length:Int))),v3]∧H2=H2∧(0≤kk→(((ws.take (i+1)).flatMap eW).length:Int)≤kk):=fun zJ=>by
   refine⟨some (.ref y),?_,rfl,fun q=>?_⟩
   ·rw[hsn,show kk-(B:Int)-(u.r.n:Int)=kk-((B+u.r.n:Nat):Int) by omega]
   ·have:=hle q
    rw[hsn]
    omega
  refine⟨_,rfl,_,_,rfl,rfl,_,rfl,?_⟩
  refine aw (fun c1=>?_) fun c1=>⟨false,rfl,eg ⟨_,rfl,_,rfl,y,_,Hg,_,_,rfl,h1,T.eP,T.bB,dN,xr,_,dr,_,_,rfl,h2,T.dR,T.cH,gu,_,_,rfl,rfl,next fun z=>c1 z.1⟩⟩
  refine⟨_,rfl,y,_,Hg,_,_,rfl,h1,T.eP,T.bB,dN,xr,_,dr,_,_,rfl,h2,T.dR,T.cH,gu,_,_,rfl,rfl,_,rfl,?_⟩
  refine aw (fun c2=>?_) fun c2=>⟨_,rfl,_,rfl,y,_,Hg,_,_,rfl,h1,T.eP,T.bB,dN,xr,_,dr,_,_,rfl,h2,T.dR,T.cH,gu,_,_,rfl,rfl,next fun z=>c2 z.2⟩
  obtain⟨b,hb⟩:∃b:Nat,kk-(B:Int)=(b:Int):=⟨(kk-(B:Int)).toNat,by omega⟩
  have hbn:b<u.r.n:=by omega
  have YT:=P.ok u hum
  have jf:=YT.r.str P.tok
  have oI:=(YT.r.pl P.tok hbn).1
  refine⟨_,rfl,y,_,Hg,_,_,rfl,h1,T.eP,T.bB,dN,xr,dr,_,rfl,h2,gE,_,rfl,xr,_,_,_,_,rfl,⟨dr,h2⟩,⟨by omega,by omega⟩,_,rfl,fun z d nz nd ZH=>⟨z,d,y,_,rfl,af,fun H3 hz k3=>⟨rfl,?_⟩⟩⟩
  have s3:ax H2 H3:=ax.tP nz nd k3
  refine k1 u y z d (MX.bQ u.r.p u.r.skip b) H3 (by omega) hum (hW.kept s3) ?_ ?_ nz s3
  ·rw[show kk.toNat=B+b by omega,←hB]
   exact Th hu hbn
  ·rw[hz,oI,hb]
 ·rintro σ H2 ⟨v3,rfl,rfl,hle⟩
  refine k0 (fun z=>?_) H2 (ax.refl _)
  have:=hle z.1
  rw[List.length_map,bu P.pr,List.take_length]at this
  omega
theorem NR (b:List UInt8):nv (Rc31.codes b)=bv b:=by
 unfold nv Rc31.codes bv
 rw[List.map_map]
 rfl
theorem YU (n:Nat):nv (List.replicate n 0)=bv (List.replicate n 0):=by
 unfold nv bv
 rw[List.map_replicate,List.map_replicate]
 rfl
def NS:Sp:=fun vs H Q E=>∃(l:Addr) (b:List UInt8),vs=[.ref l]∧H l=some (.lst (bv b))∧b.length≤255∧∀z H',H' z=some (.lst (nv (Rc31.padded 255 b)))→H z=none→ax H H'→Q (.ref z) H'
theorem ym (T:Tx g.K g.mg a):Pr g 1 a.yJ ["letters"] NS:=by
 refine Pr.on T.Ao Hr fun cF A outer s H vs Q E hr h=>?_
 obtain⟨l,b,rfl,hl,hb,k⟩:=h
 refine⟨_,ag (aS (aO BE (pv 0) (aO Uh (cv (aa ak ai)) (aO gx (pk T.pd) (aV aJ (by rfl) T.eL PySem.boot_len (aa (pv 0) ai)))))),?_⟩
 have hz:sizeLine=16777216:=sizeLine_eq
 refine⟨_,rfl,(by show 1≤sizeLine;decide),fun z0 nz0=>?_⟩
 have s0:ax H (upd H z0 (.lst [.int 0])):=ax.upd nz0
 have hz0:upd H z0 (.lst [.int 0]) z0=some (.lst [.int 0]):=af
 generalize upd H z0 (.lst [.int 0])=H1 at *
 have hk:((255:Int)-((bv b).length:Int)).toNat=255-b.length:=by rw[br];omega
 refine⟨_,rfl,l,_,rfl,.inl (bO.of (s0 _ _ hl)),_,_,rfl,rfl,z0,_,_,rfl,rfl,hz0,by rw[br];omega,by rw[br];omega,by rw[hk];show 1*_≤_;omega,fun z1 nz1=>?_⟩
 rw[hk,Rt]
 have s1:ax H1 (upd H1 z1 (.lst (bv (List.replicate (255-b.length) 0)))):=ax.upd nz1
 have YV:upd H1 z1 (.lst (bv (List.replicate (255-b.length) 0))) z1=_:=af
 generalize upd H1 z1 (.lst (bv (List.replicate (255-b.length) 0)))=H2 at *
 have s01:=s0.trans s1
 refine⟨l,z1,_,_,rfl,rfl,s01 _ _ hl,YV,by rw[br,br,List.length_replicate];omega,fun z nz=>k z _ ?_ (s01.free nz) (s01.trans (ax.upd nz))⟩
 rw[af]
 unfold Rc31.padded
 rw[LG,NR,YU]
def NU (libs:List (List UInt8)) (w:Rc31.Want):List Nat:=w.name.length::w.word::w.library::w.plus::(Rc31.padded 255 (libs.getD (w.library-1) [])++Rc31.padded 255 w.name)
theorem oH {b:List UInt8} (h:b.length≤255):(Rc31.padded 255 b).length=255:=by
 unfold Rc31.padded Rc31.codes
 rw[List.length_append,List.length_map,List.length_replicate]
 omega
def LS (a:Ad):Sp:=fun vs H Q E=>∃(x dx wl:Addr) (fs:List (Str×V)) (wa:List Addr) (ws:List Wn) (t:Rc31.Told) (N:Addr→Prop) (hl:Addr) (k:Int),vs=[.ref x,.int k]∧DG a H x dx wl fs wa ws t N hl∧fs.lookup ("wanted_word" : Str)=none∧(∀l∈t.libraries,l.length≤255) ∧
 (¬(0≤k∧k<((ws.flatMap eW).length:Int))→∀H',ax H H'→E (.ref a.bL) none H') ∧
 ∀(w:Rc31.Want) (z:Addr) (H':Hp),0≤k→(ws.flatMap eW)[k.toNat]?=some w→w.name.length≤255→H' z=some (.lst (nv (NU t.libraries w)))→H z=none→ax H H'→Q (.ref z) H'
theorem wj (T:Tx g.K g.mg a):Pr g 4 a.jR ["self","k"] (LS a):=by
 refine Pr.on T.mB fk fun cF A outer s H vs Q E hr h=>?_
 obtain⟨x,dx,wl,fs,wa,ws,t,N,hl,kk,rfl,P,f5,S3,k0,k1⟩:=h
 refine⟨_,ae (aI (i:=2) fk.nd rfl (Or.inl rfl) (cK (pv 0) (l6 T) T.a9 T.i9 au hr (by decide) (aa (pv 1) ai)))
  (ae (aI (i:=3) fk.nd rfl (Or.inl rfl) (ar (pv 2) rfl))
  (ae (aI (i:=4) fk.nd rfl (Or.inl rfl) (cv (aa (aV aJ (by rfl) T.eL PySem.boot_len (aa (ar (pv 3) rfl) ai)) (aa (ar (pv 2) rfl) (aa (ar (pv 3) rfl) (aa (ar (pv 3) rfl) ai))))))
  (ag (aS (aO BE (aO BE (pv 4) (aU (ym T) au hr (by decide) T.rZ (aa (ar (pv 3) rfl) ai))) (aU (ym T) au hr (by decide) T.rZ (aa (ar (pv 3) rfl) ai))))))),?_⟩
 have hsz:sizeLine=16777216:=sizeLine_eq
 refine⟨_,rfl,x,dx,_,rfl,P.ob,f5,_,rfl,x,dx,wl,fs,wa,ws,t,N,hl,kk,rfl,P,k0,fun u y z dz p H1 hk hu hW hw hz nz s1=>?_⟩
 obtain⟨Hg,xr,dr,nl,ln,h1,h2,h3,h4,hN,Hc⟩:=id hW
 have YT:=P.ok u hu
 have V7:=YT.aeY
 have NV:(t.libraries.getD (u.vY-1) []).length≤255:=by
  rw[List.getD_eq_getElem?_getD]
  cases hg:t.libraries[u.vY-1]? with
  |none=>exact Nat.zero_le _
  |some l=>exact S3 l (List.mem_of_getElem? hg)
 refine⟨_,rfl,z,_,dz,_,_,rfl,hz,T.fD,T.dw,ph,?_⟩
 refine⟨_,rfl,y,_,Hg,_,_,rfl,h1,T.eP,T.iE,Du,nl,_,rfl,.inl (bO.of h3),_,rfl,z,_,dz,_,_,rfl,hz,T.fD,T.df,oi,_,rfl,y,_,Hg,_,_,rfl,h1,T.eP,T.gL,FI,_,rfl,y,_,Hg,_,_,rfl,h1,T.eP,T.gP,AM,(by show 4≤sizeLine;omega),fun l4 nl4=>?_⟩
 rw[br]
 have s2:ax H1 (upd H1 l4 (.lst [.int (u.name.length:Int),.int (p:Int),.int (u.vY:Int),.int (u.plus:Int)])):=ax.upd nl4
 have hl4:upd H1 l4 (.lst [.int (u.name.length:Int),.int (p:Int),.int (u.vY:Int),.int (u.plus:Int)]) l4=_:=af
 generalize upd H1 l4 (.lst [.int (u.name.length:Int),.int (p:Int),.int (u.vY:Int),.int (u.plus:Int)])=H2 at *
 have xq:=s1.trans s2
 refine⟨_,rfl,_,rfl,y,_,Hg,_,_,rfl,s2 _ _ h1,T.eP,T.dF,wR,ln,_,rfl,s2 _ _ h4,NV,fun z5 H3 hz5 nz5 s3=>?_⟩
 have LD:=xq.trans s3
 refine⟨l4,z5,_,_,rfl,rfl,s3 _ _ hl4,hz5,by rw[lg,oH NV];show 4+255≤sizeLine;omega,fun z6 nz6=>?_⟩
 have s4:ax H3 (upd H3 z6 (.lst ([V.int (u.name.length:Int),.int (p:Int),.int (u.vY:Int),.int (u.plus:Int)]++nv (Rc31.padded 255 (t.libraries.getD (u.vY-1) []))))):=ax.upd nz6
 have hz6:upd H3 z6 (.lst ([V.int (u.name.length:Int),.int (p:Int),.int (u.vY:Int),.int (u.plus:Int)]++nv (Rc31.padded 255 (t.libraries.getD (u.vY-1) [])))) z6=_:=af
 generalize upd H3 z6 (.lst ([V.int (u.name.length:Int),.int (p:Int),.int (u.vY:Int),.int (u.plus:Int)]++nv (Rc31.padded 255 (t.libraries.getD (u.vY-1) []))))=H4 at *
 have s14:=LD.trans s4
 refine⟨_,rfl,y,_,Hg,_,_,rfl,s4 _ _ (s3 _ _ (s2 _ _ h1)),T.eP,T.iE,Du,nl,_,rfl,s4 _ _ (s3 _ _ (s2 _ _ h3)),V7,fun z7 H5 hz7 nz7 s5=>?_⟩
 have s15:=s14.trans s5
 refine⟨z6,z7,_,_,rfl,rfl,s5 _ _ hz6,hz7,by rw[List.length_append,lg,lg,oH NV,oH V7];show 4+255+255≤sizeLine;omega,fun z8 nz8=>?_⟩
 refine k1 _ z8 _ hk hw V7 ?_ (s15.free nz8) (s15.trans (ax.upd nz8))
 rw[af]
 unfold NU
 rw[List.append_assoc,←LG]
 rfl
theorem YW {m:List UInt8} {p v:Nat} (h:p+8≤m.length):Rw m 0 p v 8=Rc31.put m p (Rc31.le 8 v):=by
 refine List.ext_getElem? fun k=>?_
 have e8:(Rc31.le 8 v).length=8:=MX.kz 8 v
 rw[sZ,MX.kx (by rw[e8];exact h),e8]
 by_cases h1:k<p
 ·rw[if_pos h1]
  cases m[k]? with
  |none=>rfl
  |some c =>
   show some (if _ then _ else c)=some c
   rw[if_neg (by omega)]
 ·rw[if_neg h1]
  by_cases h2:k<p+8
  ·rw[if_pos h2,List.getElem?_eq_getElem (show k<m.length by omega)]
   show some (if _ then _ else _)=_
   rw[if_pos (by omega),Nat.zero_add]
   unfold Rc31.le
   rw[List.getElem?_map,List.getElem?_range (by omega)]
   rfl
  ·rw[if_neg h2]
   cases m[k]? with
   |none=>rfl
   |some c =>
    show some (if _ then _ else c)=some c
    rw[if_neg (by omega)]
def Ti (a:Ad):Sp:=fun vs H Q E=>∃(x dx wl:Addr) (fs:List (Str×V)) (wa:List Addr) (ws:List Wn) (t:Rc31.Told) (N:Addr→Prop) (hl:Addr) (k:Int) (v:Nat) (m:List UInt8),vs=[.ref x,.int k,.int (v:Int)]∧DG a H x dx wl fs wa ws t N hl∧fs.lookup ("wanted_word" : Str)=none∧fs.lookup ("held" : Str)=some (.ref hl)∧H hl=some (.lst (bv m))∧m.length≤4194304∧(∀w∈ws.flatMap eW,w.word+8≤m.length) ∧
 (¬(0≤k∧k<((ws.flatMap eW).length:Int))→∀H',ax H H'→E (.ref a.bL) none H') ∧
 ∀(w:Rc31.Want) (H':Hp),0≤k→(ws.flatMap eW)[k.toNat]?=some w→H' hl=some (.lst (bv (Rc31.put m w.word (Rc31.le 8 ((v+w.plus)%Rc31.W64)))))→Kp (At hl) H H'→Q .de H'
theorem IH (T:Tx g.K g.mg a):Pr g 4 a.yN ["self","k","value"] (Ti a):=by
 refine Pr.on T.Ar xx fun cF A outer s H vs Q E hr h=>?_
 obtain⟨x,dx,wl,fs,wa,ws,t,N,hl,kk,v,m,rfl,P,f5,f1,hh,LZ,QM,k0,k1⟩:=h
 refine⟨_,ae (aI (i:=3) xx.nd rfl (Or.inl rfl) (cK (pv 0) (l6 T) T.a9 T.i9 au hr (by decide) (aa (pv 1) ai)))
  (ag (aR (aU (DF T) au hr (by decide) T.yR (aa (ar (pv 0) rfl) (aa (ar (pv 3) rfl) (aa (aO jF (aO ck (pv 2) (ar (ar (pv 3) rfl) rfl)) (pk T.gQ)) ai)))))),?_⟩
 refine⟨_,rfl,x,dx,_,rfl,P.ob,f5,_,rfl,x,dx,wl,fs,wa,ws,t,N,hl,kk,rfl,P,k0,fun u y z dz p H1 hk hu hW hw hz nz s1=>?_⟩
 obtain⟨Hg,xr,dr,nl,ln,h1,h2,h3,h4,hN,Hc⟩:=id hW
 have hp8:p+8≤m.length:=QM _ (List.mem_of_getElem? hw)
 refine⟨_,rfl,x,_,dx,_,_,rfl,s1 _ _ P.ob,T.a9,T.fF,f1,_,rfl,z,_,dz,_,_,rfl,hz,T.fD,T.df,oi,_,rfl,_,rfl,z,_,dz,_,_,rfl,hz,T.fD,T.dw,ph,y,_,Hg,_,_,rfl,h1,T.eP,T.gP,AM,_,_,rfl,rfl,_,_,rfl,rfl,(by show(0:Int)<18446744073709551616;decide),?_⟩
 have ev:((v:Int)+(u.plus:Int))%18446744073709551616=(((v+u.plus)%Rc31.W64:Nat):Int):=by
  rw[MX.gU]
  omega
 refine⟨hl,m,p,0,(v+u.plus)%Rc31.W64,?_,s1 _ _ hh,by decide,by omega,fun H2 hF k2=>k1 _ H2 hk hw (by rw[hF,YW hp8]) ((Kp.same s1).step k2 fun _ z=>.inl z)⟩
 rw[←ev,show(p:Int)-((0:Nat):Int)=(p:Int) by omega]
 rfl
end
end MI
namespace L2
open PySem PySem.Spec PyProof.Rows
theorem Qp {prog:Program} {w:World} {d:Addr} (hd:(d==sysModules)=false) :
 MeetsIn prog w (Builtin.«dict.__len__» ⟨[.ref d],[]⟩) (fun _ R s=>∃o es ep,s.heap.get? d=some o∧o.data = .dict es ep∧R (.ok (.ret (.int es.size s.toks))) {s with toks:=s.toks+1}) :=
 .of_wp fun A R s ⟨o,es,ep,ho,acn,h⟩=>by
  show wpAny _ _ (dictSize d >>= _) _ _ s
  unfold dictSize
  refine wpAny_bind (wpAny_bind (wpAny_dictEntries ho acn (wpAny_pure ?_)))
  show wpAny _ _ (Builtin.Dict.pendingCount d >>= _) _ _ s
  refine wpAny_bind (wpAny_pendingCount_other hd ?_)
  refine wpAny_ret_mkInt ?_
  rw[Nat.add_zero]
  exact h
theorem Tj {prog:Program} {w:World} {A:Around} {E:Value→Shared→Prop} {s:Shared} {d:Addr} {o:Obj} {es:Array DictEntry} {ep:Nat} {Q:Value→Shared→Prop} (hd:(d==sysModules)=false) (ht:s.TypeIs (.ref d) "dict") (ho:s.heap.get? d=some o) (acn:o.data = .dict es ep) (adF:(es.size:Int)<2^63)
 (h:Q (.int es.size (s.toks+1)) {s with toks:=s.toks+1+1}):wpAny (model prog w) A (call (.builtin "len") [.ref d]) Q E s:=by
 refine Calls.call_function_entry kind_len plain_len entry_len (args_len1 _) ?_
 unfold Builtin.«len»
 refine wpAny_bind (m:=oneArg "len" _) (wpAny_pure ?_)
 refine wpAny_bind (m:=callSpecial? (.ref d) (Str.ofString "__len__")) (wpAny_callSpecial?_slot (name:=Str.ofString "__len__") ht PySem.F.slot_dict_len
  (call_meetsIn PySem.F.slot_dict_len ht PySem.F.entry_dict_len (PySem.F.args_dict_len_1 _) (Qp hd) ⟨o,es,ep,ho,acn,?_⟩))
 show wpAny _ _ _ _ _ {s with toks:=s.toks+1}
 refine wpAny_bind (wpAny_holding (wpAny_pure ?_))
 refine wpAny_bind (wpAny_letGo ?_)
 show wpAny _ _ (if ((es.size:Nat):Int)<0 then _ else _) _ _ _
 rw[if_neg (by omega)]
 show wpAny _ _ (if ((es.size:Nat):Int)≥2^63 then _ else _) _ _ _
 rw[if_neg (by omega)]
 exact wpAny_bind (wpAny_mkInt (wpAny_pure ⟨_,rfl,h⟩))
theorem Tn {X:Cx}:oR X (.builtin "len") (fun xs H Q=>∃a aZ,xs=[V.ref a]∧H a=some (.dT aZ)∧Q (.int aZ.length) H):=by
 intro pins s σ H xs us Q I r h
 obtain⟨a,aZ,rfl,ha,q⟩:=h
 obtain⟨u,rfl,ru⟩:=vals1 r
 cases ru
 obtain⟨z,hd,xs,rel,o,es,ep,h1,h2,h3,h4,_⟩:=Zm I.cD ha
 have hl:es.size=aZ.length:=by
  rw[size_of_entries h4]
  exact(Paired.length rel).symm
 refine Tj hd ⟨o,h1,h2.1⟩ h1 h3 (by rw[hl];rw[sizeLine_eq]at z;omega) ?_
 rw[hl]
 exact⟨.int aZ.length,H,I.tok _,⟨_,rfl⟩,q⟩
end L2
namespace MX
open Rc31
theorem V8 {size:Nat} {pre:Bytes} {x:Nat×Bytes} {h:List (Bytes×Nat)} (e:fN size pre x=some h):∀y∈h,y.1≠[]:=by
 unfold fN at e
 split at e
 ·cases e
  intro y hy
  cases hy
 ·split at e
  ·cases e
  ·obtain⟨y,_,e⟩:=Option.bind_eq_some_iff.mp e
   obtain⟨z,_,e⟩:=Option.bind_eq_some_iff.mp e
   split at e
   ·rename_i hc
    cases e
    intro q hq
    rw[List.mem_singleton.mp hq]
    intro h0
    have h0:pre=[]:=h0
    rw[h0]at hc
    cases hc.2.2.2
   ·cases e
theorem To {e:Bytes} {size:Nat} {S:List (Nat×Bytes)} {g:List (Bytes×Nat)} {ns:List Nat} (F:cP e size S g ns):∀y∈g,y.1≠[]:=by
 induction F with
 |nil=>intro y hy;cases hy
 |@cons i pre h kids rest gk gr nk nr hn _ _ ih1 ih2 =>
  intro y hy
  rcases List.mem_append.mp hy with q|q
  ·unfold kr at hn
   split at hn
   ·cases hn
   ·obtain⟨x,_,hn⟩:=Option.bind_eq_some_iff.mp hn
    obtain⟨h',hh,hn⟩:=Option.bind_eq_some_iff.mp hn
    have e2:h'=h:=by
     split at hn
     ·cases hn
     ·obtain⟨l,_,hn⟩:=Option.map_eq_some_iff.mp hn
      exact congrArg Prod.fst hn
    subst e2
    exact V8 hh y q
  ·exact(List.mem_append.mp q).elim (ih1 y) (ih2 y)
theorem V9 {e:Bytes} {size:Nat} {g:List (Bytes×Nat)} (h:gives e size=some g):∀y∈g,y.1≠[]:=by
 by_cases he:e=[]
 ·rw[he]at h
  unfold gives at h
  cases h
  intro y hy
  cases hy
 ·obtain⟨ns,F,_⟩:=(Cy he).mp h
  exact To F
theorem find_key {b:Bytes}:∀{g:List (Bytes×Nat)},(g.map fun x=>x.1).Nodup→∀{y:Bytes×Nat},g.find? (fun x=>x.1==b)=some y↔y∈g∧y.1=b
 | [],_,y=>by simp
 |p::g,nd,y=>by
  rw[List.map_cons,List.nodup_cons]at nd
  rw[List.find?_cons]
  by_cases hp:p.1=b
  ·have e:(p.1==b)=true:=by simpa using hp
   rw[e]
   constructor
   ·intro h
    cases h
    exact⟨List.mem_cons_self ..,hp⟩
   ·rintro⟨hm,hb⟩
    rcases List.mem_cons.mp hm with q|q
    ·rw[q]
    ·exact absurd (List.mem_map.mpr ⟨y,q,by rw[hb,hp]⟩) nd.1
  ·have e:(p.1==b)=false:=by simpa using hp
   rw[e]
   show g.find? (fun x=>x.1==b)=some y↔_
   rw[find_key nd.2]
   constructor
   ·rintro⟨hm,hb⟩
    exact⟨List.mem_cons_of_mem _ hm,hb⟩
   ·rintro⟨hm,hb⟩
    rcases List.mem_cons.mp hm with q|q
    ·rw[q]at hb
     exact absurd hb hp
    ·exact⟨q,hb⟩
theorem find_perm {b:Bytes} {g G:List (Bytes×Nat)} (p:g.Perm G) (nd:(G.map fun x=>x.1).Nodup):g.find? (fun x=>x.1==b)=G.find? (fun x=>x.1==b):=by
 have nd':(g.map fun x=>x.1).Nodup:=(p.map _).nodup_iff.mpr nd
 cases h:G.find? (fun x=>x.1==b) with
 |some y =>
  obtain⟨hm,hb⟩:=(find_key nd).mp h
  exact(find_key nd').mpr ⟨p.mem_iff.mpr hm,hb⟩
 |none =>
  cases h':g.find? (fun x=>x.1==b) with
  |none=>rfl
  |some y =>
   obtain⟨hm,hb⟩:=(find_key nd').mp h'
   rw[(find_key nd).mpr ⟨p.mem_iff.mp hm,hb⟩]at h
   cases h
end MX
namespace MI
open PySem L2
theorem Rz (G:List (List UInt8×Nat)) (b:List UInt8):jo (gk G) (kb b)=(G.find? fun x=>x.1==b).map fun x=>V.int (x.2:Int):=by
 induction G with
 |nil=>rfl
 |cons p r ih =>
  show jo ((kb p.1,V.int (p.2:Int))::gk r) (kb b)=_
  rw[List.find?_cons]
  by_cases h:p.1=b
  ·have e:(p.1==b)=true:=by simpa using h
   rw[lL (by show kb p.1=kb b;rw[h]),e]
   rfl
  ·have e:(p.1==b)=false:=by simpa using h
   rw[lM (fun z=>h (P6 z)),ih,e]
section
variable {g:Gm} {a:Ad}
def LU (a:Ad):Sp:=fun vs H Q E=>∃(x dx gd nb:Addr) (fs:List (Str×V)) (b:List UInt8) (G:List (List UInt8×Nat)),vs=[.ref x,.ref nb]∧H x=some (.ins a.bR dx fs)∧fs.lookup ("names" : Str)=some (.ref gd)∧H gd=some (.dT (gk G))∧H nb=some (.tup (bv b)) ∧
 ((G.find? fun x=>x.1==b)=none→E (.ref a.bI) none H)∧∀z,(G.find? fun x=>x.1==b)=some z→Q (.int (z.2:Int)) H
theorem wm (T:Tx g.K g.mg a):Pr g 1 a.jP ["self","name"] (LU a):=by
 refine Pr.on T.my uJ fun cF A outer s H vs Q E hr h=>?_
 obtain⟨x,dx,gd,nb,fs,b,G,rfl,hx,f,hg,hn,k0,k1⟩:=h
 refine⟨_,ae (dk (Bz (BH (Fh hr) (pv 1) (ar (pv 0) rfl))) (ag (nH T.p9 rfl rC rfl)) gw)
  (ag (aS (Xk (Fh hr) (ar (pv 0) rfl) (pv 1) (fun _ _=>rfl)))),?_⟩
 have WL:H nb=some (.tup ((kb b).map kV)):=by rw[aeK];exact hn
 refine⟨_,rfl,_,rfl,x,_,dx,_,_,rfl,hx,T.a9,T.eI,f,gd,_,rfl,wH.t hg WL,_,rfl,?_⟩
 rw[Rz]
 cases hf:(G.find? fun x=>x.1==b) with
 |none=>exact iA (k0 hf)
 |some z =>
  refine eg ⟨_,rfl,x,_,dx,_,_,rfl,hx,T.a9,T.eI,f,_,rfl,gd,_,rfl,?_,k1 z hf⟩
  have:=wH.t hg WL
  rw[Rz,hf]at this
  exact this
def Tp (a:Ad):Sp:=fun vs H Q E=>∃(x dx gr dg hl md wl gd:Addr) (fg:List (Str×V)) (kB bg:Int),vs=[.ref x,.ref gr,.int bg,.ref hl,.ref md,.ref wl,.ref gd]∧H x=some (.ins a.bR dx [])∧H gr=some (.ins a.cZ dg fg)∧fg.lookup ("home" : Str)=some (.int kB)∧gr≠x ∧
 ∀H',H' x=some (.ins a.bR dx (cJ (.ref gr) (.int kB) (.int bg) (.ref hl) (.ref md) (.ref wl) (.ref gd)))→Kp (At x) H H'→Q .de H'
theorem II (T:Tx g.K g.mg a):Pr g 1 a.yL ["self","ground","beginning","held","mended","wanted","names"] (Tp a):=by
 refine Pr.on T.Ap Hs fun cF A outer s H vs Q E hr h=>?_
 obtain⟨x,dx,gr,dg,hl,md,wl,gd,fg,kB,bg,rfl,hx,hg,f,ne,k⟩:=h
 refine⟨_,ae (aT (pv 0) (pv 1) rfl)
  (ae (aT (pv 0) (ar (pv 1) rfl) rfl)
  (ae (aT (pv 0) (pv 2) rfl)
  (ae (aT (pv 0) (pv 3) rfl)
  (ae (aT (pv 0) (pv 4) rfl)
  (ae (aT (pv 0) (pv 5) rfl)
  (ag (aT (pv 0) (pv 6) rfl))))))),?_⟩
 refine⟨_,rfl,_,rfl,x,_,dx,_,rfl,hx,T.a9,T.dO,(by show 0<1000;decide),_,rfl,gr,_,dg,_,_,rfl,(by rw[aj ne];exact hg),T.bH,T.cE,f,_,rfl,x,_,dx,_,rfl,af,T.a9,T.fE,pl1,_,rfl,_,rfl,x,_,dx,_,rfl,af,T.a9,T.eE,pl2,_,rfl,_,rfl,x,_,dx,_,rfl,af,T.a9,T.fF,pl3,_,rfl,_,rfl,x,_,dx,_,rfl,af,T.a9,T.eZ,pl4,_,rfl,_,rfl,x,_,dx,_,rfl,af,T.a9,T.ff,pl5,_,rfl,_,rfl,x,_,dx,_,rfl,af,T.a9,T.eI,pl6,?_⟩
 rw[bM,bM,bM,bM,bM,bM,OI]
 exact k _ af (Kp.upd (.inl rfl))
theorem JP:∀ws:List Wn,(ws.map fun u=>(u.r.n:Int)).sum=((ws.flatMap eW).length:Int)
 | []=>rfl
 |u::ws=>by
  have ih:=JP ws
  show(u.r.n:Int)+(ws.map fun u=>(u.r.n:Int)).sum=((eW u++ws.flatMap eW).length:Int)
  rw[ih,List.length_append,G4]
  omega
def YX (a:Ad):Sp:=fun vs H Q E=>∃(x dx wl gr dg kC md gd:Addr) (fs fg:List (Str×V)) (wa:List Addr) (ws:List Wn) (t:Rc31.Told) (N:Addr→Prop) (hl:Addr) (lv:List V) (aZ:List (Key×V)) (G:List (List UInt8×Nat)) (base size bg:Int),vs=[.ref x]∧DG a H x dx wl fs wa ws t N hl∧ws.length≤16000000 ∧
 fs.lookup ("ground" : Str)=some (.ref gr)∧fs.lookup ("base" : Str)=some (.int base)∧fs.lookup ("beginning" : Str)=some (.int bg)∧fs.lookup ("mended" : Str)=some (.ref md)∧fs.lookup ("names" : Str)=some (.ref gd)∧H gr=some (.ins a.cZ dg fg)∧fg.lookup ("laid" : Str)=some (.ref kC)∧fg.lookup ("length" : Str)=some (.int size)∧H kC=some (.lst lv)∧H md=some (.dK aZ)∧H gd=some (.dT (gk G)) ∧
 ∀z H',H' z=some (.lst [.int (lv.length:Int),.int base,.int size,.int bg,.int (aZ.length:Int),.int ((ws.flatMap eW).length:Int),.int (G.length:Int)])→H z=none→ax H H'→Q (.ref z) H'
theorem G5 (T:Tx g.K g.mg a):Pr g 1 a.uT ["self"] (YX a):=by
 refine Pr.on T.xK ie fun cF A outer s H vs Q E hr h=>?_
 obtain⟨x,dx,wl,gr,dg,kC,md,gd,fs,fg,wa,ws,t,N,hl,lv,aZ,G,base,size,bg,rfl,P,zI,f1,f2,f3,f4,f5,hg,f6,f7,aiB,hmd,ZT,k⟩:=h
 refine⟨_,ae (aI (i:=1) ie.nd rfl (Or.inl rfl) (cv (aa (aV aJ (by rfl) T.eL PySem.boot_len (aa (ar (ar (pv 0) rfl) rfl) ai)) (aa (ar (pv 0) rfl) (aa (ar (ar (pv 0) rfl) rfl) (aa (ar (pv 0) rfl) ai))))))
  (ae (aI (i:=2) ie.nd rfl (Or.inl rfl) (aV (Oo rfl) (by rfl) T.Q0 PyProof.Rows.boot_sum (aa (Cp (te:=J1 g.K (J1 g.K (zK 3) "run_wanted") "count") JA rfl ie.nd (lh (ar (pv 0) rfl)) (nG (N:=["self","lies","wanted","want"]) (sc:=aq lu) (own:=[("want",3)]) (by decide +kernel)) (fun _ _ _ _ _ _=>dH (i:=3) ie.nd rfl (Or.inl rfl)) (fun _ _ _ _ _ _ _=>zT) (fun _ _ _ _ _ _ pass=>ar (ar (pv 3) rfl) rfl)) ai)))
  (ag (aS (aO BE (pv 1) (cv (aa (aV RV (by rfl) T.eL PySem.boot_len (aa (ar (pv 0) rfl) ai)) (aa (pv 2) (aa (aV Tn (by rfl) T.eL PySem.boot_len (aa (ar (pv 0) rfl) ai)) ai)))))))),?_⟩
 have hsz:sizeLine=16777216:=sizeLine_eq
 refine⟨_,rfl,x,_,dx,_,_,rfl,P.ob,T.a9,T.dO,f1,gr,_,dg,_,_,rfl,hg,T.bH,T.gh,f6,kC,_,rfl,.inl (bO.of aiB),_,rfl,x,_,dx,_,_,rfl,P.ob,T.a9,T.fE,f2,_,rfl,x,_,dx,_,_,rfl,P.ob,T.a9,T.dO,f1,gr,_,dg,_,_,rfl,hg,T.bH,T.cS,f7,_,rfl,x,_,dx,_,_,rfl,P.ob,T.a9,T.eE,f3,(by show 4≤sizeLine;omega),fun l1 nl1=>?_⟩
 have s1:ax H (upd H l1 (.lst [.int (lv.length:Int),.int base,.int size,.int bg])):=ax.upd nl1
 have EF:upd H l1 (.lst [.int (lv.length:Int),.int base,.int size,.int bg]) l1=_:=af
 generalize upd H l1 (.lst [.int (lv.length:Int),.int base,.int size,.int bg])=H1 at *
 have P1:=P.same s1
 refine⟨_,rfl,x,_,dx,_,_,rfl,P1.ob,T.a9,T.ff,P.f,wl,rfl,⟨_,bO.of P1.l⟩,fun D hD=>?_⟩
 refine zV (K:=g.K) (a:=wl) (xs:=wa.map V.ref) (fun i H4=>H4 D=some (.lst (((ws.take i).map fun u=>(u.r.n:Int)).map V.int))∧ax H1 H4) ⟨af,ax.upd hD⟩ (fun i H4 _ ⟨_,s4⟩=>bO.of (s4 _ _ P1.l)) ?_ ?_
 ·rintro i y H4 hi ⟨Rj,s4⟩
  obtain⟨y,hy,rfl⟩:=pH hi
  obtain⟨u,hq,⟨Hg,xr,dr,nl,ln,h1,h2,h3,h4,hN,Hc⟩⟩:=iw P1.pr hy
  obtain⟨oQ,_⟩:=List.getElem?_eq_some_iff.mp hq
  refine⟨rfl,Ri ?_⟩
  refine⟨_,rfl,y,_,Hg,_,_,rfl,s4 _ _ h1,T.eP,T.bB,dN,xr,_,dr,_,_,rfl,s4 _ _ h2,T.dR,T.cH,gu,_,Rj,?_,?_,?_⟩
  ·rw[List.length_map,List.length_map,List.length_take]
   omega
  ·rw[af,gK hq,List.map_append,List.map_append]
   rfl
  ·intro z o e
   rw[aj (ao e hD)]
   exact s4 _ _ e
 ·rintro H4 ⟨Rj,s4⟩
  rw[List.length_map,bu P.pr,List.take_of_length_le (Nat.le_refl _)]at Rj
  refine⟨D,_,rfl,bO.of Rj,?_⟩
  rw[JP]
  have s14:=s1.trans s4
  have P4:=P.same s14
  refine⟨_,rfl,_,rfl,x,_,dx,_,_,rfl,P4.ob,T.a9,T.eZ,f4,md,_,rfl,s14 _ _ hmd,_,rfl,_,rfl,x,_,dx,_,_,rfl,P4.ob,T.a9,T.eI,f5,gd,_,rfl,s14 _ _ ZT,(by show 3≤sizeLine;omega),fun l2 nl2=>?_⟩
  have s5:ax H4 (upd H4 l2 (.lst [.int (aZ.length:Int),.int ((ws.flatMap eW).length:Int),.int ((gk G).length:Int)])):=ax.upd nl2
  have Je:upd H4 l2 (.lst [.int (aZ.length:Int),.int ((ws.flatMap eW).length:Int),.int ((gk G).length:Int)]) l2=_:=af
  generalize upd H4 l2 (.lst [.int (aZ.length:Int),.int ((ws.flatMap eW).length:Int),.int ((gk G).length:Int)])=H5 at *
  have s15:=s14.trans s5
  refine⟨l1,l2,_,_,rfl,rfl,s5 _ _ (s4 _ _ EF),Je,(by show 4+3≤sizeLine;omega),fun z nz=>k z _ ?_ (s15.free nz) (s15.trans (ax.upd nz))⟩
  have eG:(gk G).length=G.length:=by unfold gk;rw[List.length_map]
  rw[af,eG]
  rfl
end
end MI
namespace L2
open PySem PySem.Spec PyProof.Rows
section
variable {prog:Program} {w:World} {A:Around} {E:Value→Shared→Prop} {s:Shared}
theorem aco {a:Addr} {o:Obj} {Q:Option Obj→Shared→Prop} (ho:s.heap.get? a=some o) (h:Q (some o) s):wpAny (model prog w) A (loadIfAlive a) Q E s:=by
 have h':Q (s.heap.get? a) s:=by rw[ho];exact h
 exact fun _ _ _=>h'
abbrev zF (h:Heap) (z TI TO T:Addr) (f:Bool):Prop :=
 h.get? z=some {cls:=.type "zip",dict:=none,data:=.fields #[rawInt T,.bool f,.bool false,.ref TI,.ref TO],slots:=#[]}
theorem Z0 {z TI TO T:Addr} {f:Bool} {oT:Obj} {Q:Bool→Shared→Prop} (hz:zF s.heap z TI TO T f) (hT:s.heap.get? T=some oT)
 (hQ:∀h',zF h' z TI TO T true→Heap.SameBut z s.heap h'→Q false {s with heap:=h'}):wpAny (model prog w) A (Builtin.SmallTypes.ownedTupleIsFree (.ref z)) Q E s:=by
 unfold Builtin.SmallTypes.ownedTupleIsFree
 refine wpAny_bind (wpAny_field hz rfl (x:=rawInt T) rfl ?_)
 show wpAny _ _ (loadIfAlive ((T:Int).toNat) >>= _) _ _ _
 rw[Int.toNat_natCast]
 refine wpAny_bind (aco hT ?_)
 simp only[Option.isNone_some,Bool.false_eq_true,if_false]
 refine wpAny_bind (wpAny_field hz rfl (x:=.bool f) rfl ?_)
 cases f with
 |true =>
  rw[if_neg (show ¬((Value.bool true != Value.bool true)=true) from Bool.false_ne_true)]
  exact wpAny_pure (hQ _ hz (Heap.SameBut.refl _ _))
 |false =>
  rw[if_pos (show(Value.bool false != Value.bool true)=true from rfl)]
  exact wpAny_bind (wpAny_setField_rec hz (by simp) fun h₃ he₃ hs₃=>wpAny_pure (hQ _ he₃ hs₃))
theorem LV {z TI TO i1 i2 l1 l2 T:Addr} {f:Bool} {oT:Obj} {k1 k2:Nat} {xs ys:Array Value} {x y:Value} {Q:Value→Shared→Prop} (D:ZipApart z TI TO i1 i2 l1 l2)
 (hz:zF s.heap z TI TO T f) (hT:s.heap.get? T=some oT) (yq:IsPair s.heap TI (.ref i1) (.ref i2))
 (h1:s.heap.IsListIter i1 l1 k1) (h2:s.heap.IsListIter i2 l2 k2) (EF:s.heap.IsList l1 xs) (Je:s.heap.IsList l2 ys) (hx:xs[k1]?=some x) (hy:ys[k2]?=some y)
 (hQ:∀h',zF h' z TI TO T true→h'.IsListIter i1 l1 (k1+1)→h'.IsListIter i2 l2 (k2+1)→IsPair h' s.heap.objs.size x y→h'.objs.size=s.heap.objs.size+1 →
  (∀c o,c≠z→c≠i1→c≠i2→s.heap.get? c=some o→h'.get? c=some o)→Q (.ref s.heap.objs.size) {s with heap:=h'}) :
 wpAny (model prog w) A (Builtin.«zip.__next__» ⟨[.ref z],[]⟩) (fun fin s'=>∃v,fin = .done (.ret v)∧Q v s') E s:=by
 show wpAny _ _ (field (.ref z) 2 >>= _) _ _ _
 refine wpAny_bind (wpAny_field hz rfl (x:=.bool false) rfl ?_)
 show wpAny _ _ (field (.ref z) 3 >>= _) _ _ _
 refine wpAny_bind (wpAny_field hz rfl (x:=.ref TI) rfl ?_)
 refine wpAny_bind (wpAny_seqItems yq rfl ?_)
 show wpAny _ _ (Builtin.SmallTypes.ownedTupleIsFree (.ref z) >>= _) _ _ _
 refine wpAny_bind (Z0 hz hT fun h₁ hz₁ WI=>?_)
 simp only[Bool.false_eq_true,if_false]
 refine wpAny_bind ?_
 rw[←Array.forIn_toList]
 simp only[List.forIn_cons,List.forIn_nil]
 refine wpAny_bind (wpAny_bind (wpAny_holding ?_))
 show wpAny _ _ (Builtin.SmallTypes.nextOf (.ref i1) >>= _) _ _ _
 refine wpAny_bind (wpAny_nextOf_list_item (h1.extBut WI.extBut D.i1z) (EF.extBut WI.extBut D.l1z) hx fun h₂ h1₂ hs₂=>wpAny_pure ?_)
 refine wpAny_pure ?_
 refine wpAny_bind (wpAny_bind (wpAny_holding ?_))
 show wpAny _ _ (Builtin.SmallTypes.nextOf (.ref i2) >>= _) _ _ _
 refine wpAny_bind (wpAny_nextOf_list_item ((h2.extBut WI.extBut D.i2z).extBut hs₂.extBut D.i12.symm) ((Je.extBut WI.extBut D.l2z).extBut hs₂.extBut D.l2i1) hy fun h₄ h2₄ hs₄=>wpAny_pure ?_)
 refine wpAny_pure ?_
 refine wpAny_pure ?_
 show wpAny _ _ (newTuple [x,y] >>= _) _ _ _
 refine wpAny_bind (wpAny_newTuple (wpAny_pure ⟨_,rfl,?_⟩))
 have e2:h₂.objs.size=h₁.objs.size:=hs₂.1
 have e4:h₄.objs.size=h₂.objs.size:=hs₄.1
 have hsz:h₄.objs.size=s.heap.objs.size:=by rw[e4,e2,WI.1]
 have hk:∀c o,c≠z→c≠i1→c≠i2→s.heap.get? c=some o→h₄.get? c=some o:=fun c o c1 c3 c4 e=>hs₄.extBut _ _ c4 (hs₂.extBut _ _ c3 (WI.extBut _ _ c1 e))
 have hz₄:zF h₄ z TI TO T true:=hs₄.extBut _ _ D.i2z.symm (hs₂.extBut _ _ D.i1z.symm hz₁)
 have h1₄:h₄.IsListIter i1 l1 (k1+1):=h1₂.extBut hs₄.extBut D.i12
 show Q (.ref h₄.objs.size) _
 have up:∀c o,h₄.get? c=some o→(h₄.push {cls:=.type "tuple",data:=.seq #[x,y]}).get? c=some o:=fun c o e=>Heap.get?_push_of_some _ e
 rw[hsz]
 refine hQ _ (up _ _ hz₄) (h1₄.at fun o e=>up _ o e) (h2₄.at fun o e=>up _ o e) ?_ (by rw[Heap.size_push,hsz]) fun c o c1 c3 c4 e=>up _ _ (hk c o c1 c3 c4 e)
 rw[←hsz]
 exact Heap.get?_push_size _ rfl
theorem NW {z TI TO i1 i2 l1 l2 T:Addr} {f:Bool} {oT:Obj} {k1:Nat} {xs:Array Value} {Q:Fin→Shared→Prop} (hh:A.handled=none) (D:ZipApart z TI TO i1 i2 l1 l2)
 (hz:zF s.heap z TI TO T f) (hT:s.heap.get? T=some oT) (yq:IsPair s.heap TI (.ref i1) (.ref i2))
 (h1:s.heap.IsListIter i1 l1 k1) (EF:s.heap.IsList l1 xs) (RU:xs[k1]?=none)
 (hE:∀h' e,(∀c o,c≠z→c≠i1→c≠i2→s.heap.get? c=some o→h'.get? c=some o)→(∃o,h'.get? e=some o∧o.cls = .type "StopIteration")→E (.ref e) {s with heap:=h'}) :
 wpAny (model prog w) A (Builtin.«zip.__next__» ⟨[.ref z],[]⟩) Q E s:=by
 show wpAny _ _ (field (.ref z) 2 >>= _) _ _ _
 refine wpAny_bind (wpAny_field hz rfl (x:=.bool false) rfl ?_)
 show wpAny _ _ (field (.ref z) 3 >>= _) _ _ _
 refine wpAny_bind (wpAny_field hz rfl (x:=.ref TI) rfl ?_)
 refine wpAny_bind (wpAny_seqItems yq rfl ?_)
 show wpAny _ _ (Builtin.SmallTypes.ownedTupleIsFree (.ref z) >>= _) _ _ _
 refine wpAny_bind (Z0 hz hT fun h₁ hz₁ WI=>?_)
 simp only[Bool.false_eq_true,if_false]
 refine wpAny_bind ?_
 rw[←Array.forIn_toList]
 simp only[List.forIn_cons,List.forIn_nil]
 refine wpAny_bind (wpAny_bind (wpAny_holding ?_))
 show wpAny _ _ (Builtin.SmallTypes.nextOf (.ref i1) >>= _) _ _ _
 refine wpAny_bind (wpAny_nextOf_list_end hh (h1.extBut WI.extBut D.i1z) (EF.extBut WI.extBut D.l1z) RU fun h₂ e hs₂ he=>?_)
 exact hE h₂ e (fun c o c1 c3 _ q=>hs₂ _ _ c3 (WI.extBut _ _ c1 q)) he
def ZS (h:Heap) (z TI TO i1 i2 S:Addr):Prop:=(IsZip h z TI TO .none∧∃a b,IsPair h TO a b)∨∃T f oT,zF h z TI TO T f∧h.get? T=some oT∧T≠z∧T≠TO∧T≠i1∧T≠i2∧T≠S
theorem ZS.typeIs {z TI TO i1 i2 S:Addr} (h:ZS s.heap z TI TO i1 i2 S):s.TypeIs (.ref z) "zip":=by
 rcases h with⟨h,_⟩|⟨T,f,oT,h,_⟩
 ·exact⟨_,h,rfl⟩
 ·exact⟨_,h,rfl⟩
theorem ZS.keep {h h':Heap} {z TI TO i1 i2 S:Addr} (q:ZS h z TI TO i1 i2 S) (hzS:z≠S) (hTS:TO≠S) (k:∀c o,c≠S→h.get? c=some o→h'.get? c=some o):ZS h' z TI TO i1 i2 S:=by
 rcases q with⟨h,a,b,p⟩|⟨T,f,oT,h,p,n1,n2,n3,n4,n5⟩
 ·exact .inl ⟨k _ _ hzS h,a,b,k _ _ hTS p⟩
 ·exact .inr ⟨T,f,oT,k _ _ hzS h,k _ _ n5 p,n1,n2,n3,n4,n5⟩
theorem Wa {z TI TO i1 i2 l1 l2 S:Addr} {k:Nat} {xs ys:Array Value} {x y:Value} {Q:Option Value→Shared→Prop} (D:ZipApart z TI TO i1 i2 l1 l2) (hS:S<s.heap.objs.size)
 (hz:ZS s.heap z TI TO i1 i2 S) (yq:IsPair s.heap TI (.ref i1) (.ref i2)) (Hd:TO<s.heap.objs.size)
 (h1:s.heap.IsListIter i1 l1 k) (h2:s.heap.IsListIter i2 l2 k) (EF:s.heap.IsList l1 xs) (Je:s.heap.IsList l2 ys) (hx:xs[k]?=some x) (hy:ys[k]?=some y)
 (hQ:∀h',ZS h' z TI TO i1 i2 S→h'.IsListIter i1 l1 (k+1)→h'.IsListIter i2 l2 (k+1)→IsPair h' s.heap.objs.size x y→h'.objs.size=s.heap.objs.size+1 →
  (∀c o,c≠z→c≠TO→c≠i1→c≠i2→s.heap.get? c=some o→h'.get? c=some o)→Q (some (.ref s.heap.objs.size)) {s with heap:=h'}) :
 wpAny (model prog w) A (pyNext (.ref z)) Q E s:=by
 have lz:z<s.heap.objs.size:=by
  obtain⟨o,e,_⟩:=hz.typeIs
  exact Heap.lt_size e
 have li1:i1<s.heap.objs.size:=by obtain⟨_,e,_⟩:=h1;exact Heap.lt_size e
 have li2:i2<s.heap.objs.size:=by obtain⟨_,e,_⟩:=h2;exact Heap.lt_size e
 have hT:=hz.typeIs
 rcases hz with⟨hz,a,b,p⟩|⟨T,f,oT,hz,p,n1,n2,n3,n4,n5⟩
 ·exact wpAny_pyNext_zip_item D hz yq p h1 h2 EF Je hx hy fun h' z' TO' a1 a2 a3 a4 a5=>hQ h' (.inr ⟨_,false,_,z',a3,Nat.ne_of_gt lz,Nat.ne_of_gt Hd,Nat.ne_of_gt li1,Nat.ne_of_gt li2,Nat.ne_of_gt hS⟩) a1 a2 a3 a4 a5
 ·unfold pyNext
  exact wpAny_bind (wpAny_attempt (wpAny_callSpecial?_slot (name:=Str.ofString "__next__") hT F.slot_zip_next
   (wpAny_call_entry F.slot_zip_next hT F.entry_zip_next
    (LV D hz p yq h1 h2 EF Je hx hy fun h' z' a1 a2 a3 a4 a5=>wpAny_pure (hQ h' (.inr ⟨T,true,oT,z',a5 _ _ n1 n3 n4 p,n1,n2,n3,n4,n5⟩) a1 a2 a3 a4 fun c o c1 _ c3 c4 e=>a5 c o c1 c3 c4 e)) (F.args_zip_next_1 _))))
theorem YY {z TI TO i1 i2 l1 l2 S:Addr} {k:Nat} {xs ys:Array Value} {Q:Option Value→Shared→Prop} (hh:A.handled=none) (D:ZipApart z TI TO i1 i2 l1 l2)
 (hz:ZS s.heap z TI TO i1 i2 S) (yq:IsPair s.heap TI (.ref i1) (.ref i2))
 (h1:s.heap.IsListIter i1 l1 k) (h2:s.heap.IsListIter i2 l2 k) (EF:s.heap.IsList l1 xs) (Je:s.heap.IsList l2 ys) (RU:xs[k]?=none)
 (hQ:∀h',(∀c o,c≠z→c≠TO→c≠i1→c≠i2→s.heap.get? c=some o→h'.get? c=some o)→Q none {s with heap:=h'}) :
 wpAny (model prog w) A (pyNext (.ref z)) Q E s:=by
 have hT:=hz.typeIs
 rcases hz with⟨hz,a,b,p⟩|⟨T,f,oT,hz,p,n1,n2,n3,n4,n5⟩
 ·exact wpAny_pyNext_zip_end hh D hz yq p h1 h2 EF Je (.inl RU) hQ
 ·unfold pyNext
  refine wpAny_bind (wpAny_attempt (wpAny_callSpecial?_slot (name:=Str.ofString "__next__") hT F.slot_zip_next
   (wpAny_call_entry F.slot_zip_next hT F.entry_zip_next (NW hh D hz p yq h1 EF RU fun h' e hk he=>?_) (F.args_zip_next_1 _))))
  obtain⟨o,ho,hc⟩:=he
  refine wpAny_bind (wpAny_isInstance (T := "StopIteration") (b:=true) ⟨o,ho,hc⟩ isSubtype_stop ?_)
  exact wpAny_pure (hQ _ fun c o c1 _ c3 c4 e=>hk c o c1 c3 c4 e)
theorem IJ:typeLookup (.type "zip") "keys" = pure none:=am_miss_of_fast (by first|decide +kernel|rfl)
theorem CA:typeLookup (.type "zip") "__getattr__" = pure none:=by rw[typeLookup_type,builtinLookup_eq_fast];kernel_rfl
theorem tj:entryFor table "zip.__getattribute__" = some Builtin.«object.__getattribute__» :=
 entryFor_alias (id' := "object.__getattribute__") (by kernel_rfl) (by decide +kernel) (by decide +kernel) (by kernel_rfl)
theorem G6 (a:Addr) (xs:Array Value) (name:Str) (u:Tok) (Z1:typeLookup (.type "zip") name=pure none) (Wb:(["__module__","__name__","__qualname__","__doc__","__annotations__"]:List Str).contains name=false) (hsz:name.length+100≤sizeLine:=by size_fits) :
 Meets (Builtin.«object.__getattribute__» ⟨[.ref a,.str name u],[]⟩) (fun A R s=>s.heap.get? a=some {cls:=.type "zip",dict:=none,data:=.fields xs,slots:=#[]}∧raisesAttr (.ref a) name A R s) :=
 Meets.of_wp fun prog w A R s hs=>by
  obtain⟨hp,g,d,tk,os⟩:=s
  obtain⟨hx,hs⟩:=hs
  have hT:(⟨hp,g,d,tk,os⟩:Shared).TypeIs (.ref a) "zip":=⟨_,hx,rfl⟩
  unfold Builtin.«object.__getattribute__»
  repeat (any_goals (first|assumption|wp_step))
  simp only[Wb,Bool.false_eq_true,if_false]
  repeat (any_goals (first|assumption|wp_step))
  exact wpAny_raiseAttrError hs.1 hs.2 (attrMsg_fits (by decide +kernel) hsz)
theorem Wc {a:Addr} {xs:Array Value} {Q:Option Value→Shared→Prop} (hx:s.heap.get? a=some {cls:=.type "zip",dict:=none,data:=.fields xs,slots:=#[]}) (hA:A.handled=none)
 (h:∀h' tk,(∀b ob,s.heap.get? b=some ob→h'.get? b=some ob)→Q none {s with heap:=h',toks:=tk}):wpAny (model prog w) A (getAttr? (.ref a) "keys") Q E s:=by
 obtain⟨hp,g,d,tk,os⟩:=s
 have hT:∀tk',(⟨hp,g,d,tk',os⟩:Shared).TypeIs (.ref a) "zip":=fun _=>⟨_,hx,rfl⟩
 have Z1:=IJ
 have Wb:(["__module__","__name__","__qualname__","__doc__","__annotations__"]:List Str).contains "keys" = false:=by decide +kernel
 have hsz:("keys" : Str).length+100≤sizeLine:=by first|size_fits|decide +kernel
 have f1:=sub_AttributeError
 have f3:=PySem.F.slot_zip_getattribute.lookup
 have f4:=PySem.F.slot_zip_getattribute.bind (.ref a)
 have f5:=CA
 unfold getAttr? getAttrBy? getAttrBy
 repeat (any_goals (first|assumption|exact hT _|((with_reducible show wpAny _ _ (call (Value.builtin "zip.__getattribute__") _ _) _ _ _);refine call_meets PySem.F.slot_zip_getattribute (hT _) tj (PySem.F.args_zip_getattribute_2 _ _) (G6 a xs "keys" _ Z1 Wb hsz) ⟨hx,hA,fun h' tk' e hx'=>?_⟩)|wp_step))
 obtain⟨t',u',he⟩:=hx'.there
 show wpAny _ _ (getattributeRaised _ _ _ _ _ _ _) _ _ _
 unfold getattributeRaised
 repeat (any_goals (first|assumption|wp_step))
 all_goals first|exact h _ _ hx'.keeps|(dsimp only;repeat (any_goals (first|assumption|exact h _ _ hx'.keeps|wp_step)))
end
section
variable {prog:Program} {w:World} {A:Around} {E:Value→Shared→Prop}
theorem JQ {R:Result→Shared→Prop} {S z TI TO i1 i2 l1 l2:Addr} {xs ys:Array Value} {res:Value} (hh:A.handled=none) (D:ZipApart z TI TO i1 i2 l1 l2) (n1:S≠z) (n2:S≠TI) (n3:S≠TO) (n4:S≠i1) (n5:S≠i2) (n6:S≠l1) (n7:S≠l2) :
 ∀(rest:List (Key×Value)) (i:Nat) (acc:List (Key×Value)) (ix:Int) (t:Tok) (s:Shared),xs.size=i+rest.length→acc.length+rest.length≤sizeLine →
  (∀(j:Nat) (q:Key×Value),rest[j]?=some q→∃u:Value,xs[i+j]?=some u∧ys[i+j]?=some q.2∧CF q.1 u=true) →
  ZS s.heap z TI TO i1 i2 S→IsPair s.heap TI (.ref i1) (.ref i2)→TO<s.heap.objs.size→s.heap.IsListIter i1 l1 i→s.heap.IsListIter i2 l2 i→s.heap.IsList l1 xs→s.heap.IsList l2 ys→s.heap.DictOf (cj prog w) S acc →
  (∀h' tk,h'.DictOf (cj prog w) S (merged acc rest)→(∀b o,b≠S→b≠z→b≠TO→b≠i1→b≠i2→s.heap.get? b=some o→h'.get? b=some o)→R (.ok (.ret res)) {s with heap:=h',toks:=tk}) →
  codeAny (model prog w) A (.builtin "dict.update.loop" ⟨[.ref S,.ref z,.int ix t,res],[]⟩) R s
 | [],i,acc,ix,t,s,hsz,Tw,ht,hz,yq,Hd,h1,h2,EF,Je,hm,hR=>by
  refine codeAny_builtin Mm ?_
  rw[Around.under_plainId uk _]
  show wpAny _ A.in1 (pyNext (.ref z) >>= _) _ _ s
  refine wpAny_bind (YY (A:=A.in1) hh D hz yq h1 h2 EF Je (by first|exact Array.getElem?_eq_none (Nat.le_of_eq hsz)|(simp at hsz;simp;omega)) fun h' hk=>?_)
  show wpAny _ A.in1 (Builtin.Dict.addKeywords S [] >>= _) _ _ _
  refine wpAny_bind (wpAny_pure (wpAny_pure ?_))
  exact hR h' s.toks (hm.at fun o e=>hk S o n1 n3 n4 n5 e) fun b o _ b2 b3 b4 b5 e=>hk b o b2 b3 b4 b5 e
 |q::rest,i,acc,ix,t,s,hsz,Tw,ht,hz,yq,Hd,h1,h2,EF,Je,hm,hR=>by
  obtain⟨u,hu,hv,hk⟩:=ht 0 q rfl
  rw[List.length_cons]at hsz Tw
  have hS:S<s.heap.objs.size:=by
   obtain⟨o,e,_⟩:=hm.typeIs (s:=s)
   exact Heap.lt_size e
  refine codeAny_builtin Mm ?_
  rw[Around.under_plainId uk _]
  show wpAny _ A.in1 (pyNext (.ref z) >>= _) _ _ s
  refine wpAny_bind (Wa (A:=A.in1) (x:=u) (y:=q.2) D hS hz yq Hd h1 h2 EF Je (by simpa using hu) (by simpa using hv) fun g1 YV j1 j2 hp hgs hg=>?_)
  have hm1:g1.DictOf (cj prog w) S acc:=hm.at fun o e=>hg S o n1 n3 n4 n5 e
  have aiF:IsPair g1 TI (.ref i1) (.ref i2):=hg _ _ D.TIz D.TITO D.TIi1 D.TIi2 yq
  have aiG:g1.IsList l1 xs:=EF.at fun o e=>hg _ o D.l1z D.l1TO D.l1i1 D.l1i2 e
  have aiH:g1.IsList l2 ys:=Je.at fun o e=>hg _ o D.l2z D.l2TO D.l2i1 D.l2i2 e
  have aiI:TO<g1.objs.size:=by rw[hgs];exact Nat.lt_succ_of_lt Hd
  show wpAny _ A.in1 (holding [Value.ref s.heap.objs.size] _ >>= _) _ _ _
  refine wpAny_bind (wpAny_holding ?_)
  refine wpAny_bind (wpAny_tryCatch ?_)
  unfold Builtin.Dict.pairItems
  refine wpAny_bind (wpAny_typeOf (T := "tuple") ⟨_,hp,rfl⟩ ?_)
  rw[if_pos (by first|decide|rfl|simp)]
  refine wpAny_bind (wpAny_seqItems hp rfl (wpAny_pure ?_))
  show wpAny _ A.in1 (holding [u,q.2] (dictSet S u q.2)) _ _ _
  refine wpAny_holding (wpAny_dictSet_pairs (knd:=cj prog w) (k:=q.1) hk hm1 (fun g2 hm2 Zg=>?_) (by omega))
  have k2:∀c o,c≠S→g1.get? c=some o→g2.get? c=some o:=fun c o hc e=>Zg.extBut c o hc e
  have aiJ:g2.objs.size=g1.objs.size:=Zg.1
  refine wpAny_pure ⟨plainId_quiet uk _,JQ (xs:=xs) (ys:=ys) hh D n1 n2 n3 n4 n5 n6 n7 rest (i+1) (stored acc q.1 q.2) (ix+1) 0 _ (show xs.size=i+1+rest.length by omega) ?_ (fun j q' e=>?_) ?_ ?_ ?_ ?_ ?_ ?_ ?_ hm2 fun h' tk TF k=>?_⟩
  ·have z:=stored_length_le acc q.1 q.2
   omega
  ·obtain⟨u',e1,e2,e3⟩:=ht (j+1) q' (by simpa using e)
   rw[show i+1+j=i+(j+1) by omega]
   exact⟨u',e1,e2,e3⟩
  ·exact YV.keep n1.symm n3.symm k2
  ·exact k2 _ _ n2.symm aiF
  ·show TO<g2.objs.size
   rw[aiJ]
   exact aiI
  ·exact j1.at fun o e=>k2 _ o n4.symm e
  ·exact j2.at fun o e=>k2 _ o n5.symm e
  ·exact aiG.at fun o e=>k2 _ o n6.symm e
  ·exact aiH.at fun o e=>k2 _ o n7.symm e
  ·exact hR h' tk TF fun c oc c1 c2 c3 c4 c5 e=>k c oc c1 c2 c3 c4 c5 (k2 _ _ c1 (hg c oc c2 c3 c4 c5 e))
theorem IK {s:Shared} {z TI TO i1 i2 l1 l2:Addr} {xs ys:Array Value} {va vb:Value} {prs:List (Key×Value)} {Q:Value→Shared→Prop} (hh:A.handled=none) (D:ZipApart z TI TO i1 i2 l1 l2) (hz:IsZip s.heap z TI TO .none) (yq:IsPair s.heap TI (.ref i1) (.ref i2)) (Hd:IsPair s.heap TO va vb)
 (h1:s.heap.IsListIter i1 l1 0) (h2:s.heap.IsListIter i2 l2 0) (EF:s.heap.IsList l1 xs) (Je:s.heap.IsList l2 ys) (hsz:xs.size=prs.length) (Tw:prs.length≤sizeLine)
 (ht:∀(j:Nat) (q:Key×Value),prs[j]?=some q→∃u:Value,xs[j]?=some u∧ys[j]?=some q.2∧CF q.1 u=true)
 (h:∀h' tk,h'.DictOf (cj prog w) s.heap.objs.size (merged [] prs)→(∀b o,b≠z→b≠TO→b≠i1→b≠i2→s.heap.get? b=some o→h'.get? b=some o)→Q (.ref s.heap.objs.size) {s with heap:=h',toks:=tk}) :
 wpAny (model prog w) A (call (.type "dict") [.ref z]) Q E s:=by
 refine callType_codes (Q₁:=fun obj s₁=>obj = .ref s.heap.objs.size∧s₁ = {s with heap:=s.heap.push {cls:=.type "dict",data:=.dict #[]}}) PySem.F.kt_called_dict (PySem.F.kt_typeCall_dict_1 _) PySem.F.entry_dict_init (kt_code_dict_new _ ⟨rfl,rfl⟩) ?_
 rintro obj s₁ ⟨rfl,rfl⟩
 have Om:(s.heap.push {cls:=.type "dict",data:=.dict #[]}).DictOf (cj prog w) s.heap.objs.size []:=Heap.DictOf.new s.heap
 have k0:∀b o,s.heap.get? b=some o→(s.heap.push {cls:=.type "dict",data:=.dict #[]}).get? b=some o:=fun b o e=>Heap.get?_push_of_some _ e
 refine⟨Om.typeIs,PySem.F.args_dict_init_2 _ _,?_⟩
 unfold Builtin.«dict.__init__»
 refine wpAny_bind ?_
 unfold Builtin.Dict.selfAndRest
 refine wpAny_bind (wpAny_notOrdered_dict Om.typeIs ?_)
 show wpAny _ _ (pure (s.heap.objs.size,[Value.ref z])) _ _ _
 refine wpAny_pure ?_
 show wpAny _ _ (Builtin.Dict.updateFrom "dict.__init__" s.heap.objs.size (.ref z) [] .none) _ _ _
 unfold Builtin.Dict.updateFrom
 refine wpAny_bind (wpAny_typeOf (T := "zip") ⟨_,k0 _ _ hz,rfl⟩ ?_)
 rw[if_pos (by first|decide|rfl|simp)]
 refine wpAny_bind (Wc (k0 _ _ hz) hh fun g1 tk1 hk1=>?_)
 rw[if_pos (show(none:Option Value).isNone=true from rfl)]
 refine wpAny_bind (wpAny_rule ?_)
 have up:∀b o,s.heap.get? b=some o→g1.get? b=some o:=fun b o e=>hk1 _ _ (k0 _ _ e)
 refine wpAny_bind (wpAny_pyIter_zip (up _ _ hz) ?_)
 have lt:∀{b o},s.heap.get? b=some o→s.heap.objs.size≠b:=fun e=>Nat.ne_of_gt (Heap.lt_size e)
 have li1:s.heap.objs.size≠i1:=by obtain⟨_,e,_⟩:=h1;exact lt e
 have li2:s.heap.objs.size≠i2:=by obtain⟨_,e,_⟩:=h2;exact lt e
 have ll1:s.heap.objs.size≠l1:=by obtain⟨_,e,_⟩:=EF;exact lt e
 have ll2:s.heap.objs.size≠l2:=by obtain⟨_,e,_⟩:=Je;exact lt e
 have key:=JQ (prog:=prog) (w:=w) (A:=A.in1) (R:=wants (fun r s₂=>r = .none∧Q (.ref s.heap.objs.size) s₂) E) (S:=s.heap.objs.size) (xs:=xs) (ys:=ys) (res:=Value.none) hh D (lt hz) (lt yq) (lt Hd) li1 li2 ll1 ll2 prs 0 [] 0 0
  {s with heap:=g1,toks:=tk1} (by rw[hsz,Nat.zero_add]) (by rw[List.length_nil,Nat.zero_add];exact Tw)
  (fun j q e=>by
   obtain⟨u,e1,e2,e3⟩:=ht j q e
   exact⟨u,by rw[Nat.zero_add];exact e1,by rw[Nat.zero_add];exact e2,e3⟩)
  (.inl ⟨up _ _ hz,va,vb,up _ _ Hd⟩) (up _ _ yq) (Heap.lt_size (up _ _ Hd)) (h1.at fun o e=>up _ o e) (h2.at fun o e=>up _ o e) (EF.at fun o e=>up _ o e) (Je.at fun o e=>up _ o e) (Om.at fun o e=>hk1 _ _ e)
  (fun h' tk TF k=>⟨rfl,h h' tk TF fun b o b1 b2 b3 b4 e=>k b o (lt e).symm b1 b2 b3 b4 (up _ _ e)⟩)
 first
  |exact wpAny_pure ⟨plainId_quiet uk _,key⟩
  |exact wpAny_bind (wpAny_pure (wpAny_pure ⟨plainId_quiet uk _,key⟩))
end
section
variable {X:Cx}
theorem We:∀(ks:List Key) {ys:List V} {us:List Value},Vals ys us→KV (ks.zip ys) (ks.zip us)
 | [],_,_,_=>by simp only[List.zip_nil_left];exact .nil
 |k::ks,_,_,.nil=>by simp only[List.zip_nil_right];exact .nil
 |k::ks,_,_,.cons r t=>by
  rw[List.zip_cons_cons,List.zip_cons_cons]
  exact .cons ⟨rfl,r⟩ (We ks t)
def Wf (K:PySem.W.Frag) (ta:TA):TE:=fun σ H Q=>ta σ H fun vs H1=>∃(a b:Addr) (ks:List Key) (ys:List V),vs=[.ref a,.ref b]∧bO K H1 a (ks.map kV)∧bO K H1 b ys∧ks.length=ys.length∧∀p,H1 p=none→Q (.ref p) (upd H1 p (.dK (kN [] (ks.zip ys))))
theorem Qq:bootBuiltins "dict" = some (.type "dict"):=by decide +kernel
theorem Qr {e e2:Expr} {ta:TA} {p pos p2 Tq:Pos} (aff:X.calm=true) (hg:Gl X "dict") (hm:X.mg "dict" = none) (hgz:Gl X "zip") (hmz:X.mg "zip" = none) (ha:PA X [e,e2] ta)
 (hs:starEach [e,e2] X.env=(false,eval e X.env)::starEach [e2] X.env:=by rfl) (oI:(backTo Tq (starEach [e2] X.env)).any (·.1)=false:=by rfl)
 (hs1:starEach [Expr.Call (.Name "zip" p2) [e,e2] [] Tq] X.env=(false,eval (.Call (.Name "zip" p2) [e,e2] [] Tq) X.env)::starEach [] X.env:=by rfl) (aiK:(backTo pos (starEach [] X.env)).any (·.1)=false:=by rfl) :
 PE X (.Call (.Name "dict" p) [.Call (.Name "zip" p2) [e,e2] [] Tq] [] pos) (Wf X.K ta):=by
 intro pins s σ H Q I h
 refine wpAny_Call_Name_kw (rp I hg hm Qq ?_)
 refine PyProof.Rows.callWith_type1 ?_ hs1 aiK
 rw[hs1]
 show wpAny _ _ (spliced ((false,eval (.Call (.Name "zip" p2) [e,e2] [] Tq) X.env)::backTo pos (starEach [] X.env))) _ _ s
 refine Calls.spliced_cons ?_
 refine Call_ (rp I hgz hmz Ji (PyProof.Rows.callWith_type1 (dj (ha Tq pins s σ H _ I h) fun us s1 ⟨vs,H1,I1,r1,q1⟩=>?_) hs oI))
 obtain⟨a,b,ks,ys,ex,Zn,Zo,hlen,q⟩:=q1
 subst ex
 cases r1 with
 |cons r rr =>
  cases rr with
  |cons r' rr =>
   cases rr
   cases r
   cases r'
   obtain⟨bt,rv,p1,YV⟩:=I1.list Zn
   obtain⟨rB,rv2,p2',_⟩:=I1.list Zo
   have la:a<s1.heap.objs.size:=p1.lt
   have lb:b<s1.heap.objs.size:=p2'.lt
   refine call_zip_2 p1.isList p2'.isList fun h' hz yq Hd h1 h2 hsz hk=>Calls.spliced_nil ?_
   have I2:Inv X pins σ H1 {s1 with heap:=h'}:=I1.kept (t':=s1.toks) hk
   have l1:=rv.length
   have l2:=rv2.length
   rw[List.length_map]at l1 YV
   have lp:(ks.zip rB).length=ks.length:=by rw[List.length_zip];omega
   refine IK (s:={s1 with heap:=h'}) (prs:=ks.zip rB) (I2.ok.hd aff) (PySem.W.ktu_apart s1.heap.objs.size a b la lb) hz yq Hd h1 h2 (p1.isList.at fun o e=>hk _ o e) (p2'.isList.at fun o e=>hk _ o e) (by rw[lp];simp;omega) (by rw[lp];exact YV) (fun j q' e=>?_) fun h'' tk TF k=>?_
   ·obtain⟨e1,e2⟩:=List.getElem?_zip_eq_some.mp e
    obtain⟨u,hu,ru⟩:=rv.get (i:=j) (x:=kV q'.1) (by rw[List.getElem?_map,e1];rfl)
    exact⟨u,by simpa using hu,by simpa using e2,zW (P:=X.prog) (w:=X.w) ru⟩
   ·have hmn:(h'.objs.size==sysModules)=false:=beq_eq_false_iff_ne.mpr (Nat.ne_of_gt I2.big)
    have rel:KV (ks.zip ys) (ks.zip rB):=We ks rv2
    have Rf:(kN [] (ks.zip ys)).length≤sizeLine:=by
     refine Nat.le_trans (pO (ks.zip ys) []) ?_
     rw[List.length_nil,Nat.zero_add,rel.length,lp]
     exact YV
    refine⟨.ref h'.objs.size,upd H1 h'.objs.size (.dK (kN [] (ks.zip ys))),I2.Jh (t':=tk) (ch:=[s1.heap.objs.size+4,s1.heap.objs.size+2,s1.heap.objs.size+3,s1.heap.objs.size,s1.heap.objs.size+1]) (fun c o hb e=>k c o (fun q'=>hb (by simp[q'])) (fun q'=>hb (by simp[q'])) (fun q'=>hb (by simp[q'])) (fun q'=>hb (by simp[q'])) e) (fun c hcm=>?_) (Nat.le_refl _) (show eX X.prog X.w _ _ _ (.dK (kN [] (ks.zip ys))) from ⟨Rf,hmn,merged [] (ks.zip rB),KV.merge rel .nil,TF⟩),rfl,q _ (I2.cD.fresh (Nat.le_refl _))⟩
    have e':c=s1.heap.objs.size+4∨c=s1.heap.objs.size+2∨c=s1.heap.objs.size+3∨c=s1.heap.objs.size∨c=s1.heap.objs.size+1:=by simpa using hcm
    have hle:s1.heap.objs.size≤c:=by
     rcases e' with z|z|z|z|z
     ·rw[z];exact Nat.le_add_right _ _
     ·rw[z];exact Nat.le_add_right _ _
     ·rw[z];exact Nat.le_add_right _ _
     ·rw[z];exact Nat.le_refl _
     ·rw[z];exact Nat.le_add_right _ _
    exact I1.L6 hle (I1.cD.fresh hle)
end
end L2
namespace MI
open PySem L2
structure acq (a:Ad0) (H:Hp) (N:Addr→Prop) (x:Addr) (i:Rc31.Image) (base:Nat) (mem:List UInt8) (dx gr dg hl md wl gd kC:Addr) (NX NY:V) (lv:List V) (aZ:List (Key×V)) (wa:List Addr) (ws:List Wn) (G:List (List UInt8×Nat)) (m:List UInt8):Prop where
 ob:H x=some (.ins a.bR dx (cJ (.ref gr) (.int (base:Int)) (.int ((i.told.entry.getD 0:Nat):Int)) (.ref hl) (.ref md) (.ref wl) (.ref gd)))
 YZ:H gr=some (.ins a.cZ dg (gN NX (.ref kC) (.int (i.told.base:Int)) (.int (i.told.size:Int)) NY))
 NZ:H kC=some (.lst lv)
 lvl:lv.length=i.told.laid.length
 Y0:H hl=some (.lst (bv m))
 Y1:H md=some (.dK aZ)
 mdk:∀z:Int,(jo aZ (Sum.inl z)).isSome=decide (∃p∈i.mends,(p:Int)=z)
 mdl:aZ.length=i.mends.length
 Z2:H wl=some (.lst (wa.map V.ref))
 pr:Paired (tR a i.told.libraries N hl x H) wa ws
 wn:i.wants=ws.flatMap eW
 wok:∀u∈ws,S1 i.told u
 aiM:ws.length≤1048576
 Y2:H gd=some (.dT (gk G))
 gp:i.gives.Perm G
 gn:(G.map fun x=>x.1).Nodup
 g0:∀y∈i.gives,y.1≠[]
 tok:MX.wD i.told
 libs:∀l∈i.told.libraries,l.length≤255
 dist:Rc31.distant (i.mends++i.wants.map fun w=>w.word)=true
 LW:m.length=i.told.size
 Y3:∀p∈i.mends++i.wants.map fun w=>w.word,p+8≤i.told.size
 Z3:i.told.size≤4194304
 kB:i.told.base<2^48
 Wg:base<2^48
 Tr:mem=Rc31.mended m ((Rc31.W64+base-i.told.base)%Rc31.W64) i.mends
 ns:N x∧N gr∧N kC∧N hl∧N md∧N wl∧N gd
 ne:gr≠x∧kC≠hl∧wl≠hl
def wo (a:Ad0) (H:Hp) (N:Addr→Prop) (x:Addr) (i:Rc31.Image) (base:Nat) (mem:List UInt8):Prop:=∃dx gr dg hl md wl gd kC NX NY lv aZ wa ws G m,acq a H N x i base mem dx gr dg hl md wl gd kC NX NY lv aZ wa ws G m
theorem nj {a b:List Nat} (h:Rc31.distant (a++b)=true):Rc31.distant a=true:=by
 cases e:Rc31.distant a with
 |true=>rfl
 |false =>
  rw[(MX.ko (b:=b) e).1]at h
  cases h
theorem IL {l:List Nat} (h:Rc31.distant l=true):l.Nodup:=by
 refine((MX.dt l).mp h).imp ?_
 intro x y q e
 subst e
 omega
def kp (ps:List Nat):List (Key×V):=ps.map fun(p:Nat)=>((Sum.inl (p:Int):Key),V.int (p:Int))
theorem Qs (z:Int):∀ps:List Nat,(jo (kp ps) (Sum.inl z)).isSome=decide (∃p∈ps,(p:Int)=z)
 | []=>by
  rw[decide_eq_false (fun⟨p,hp,_⟩=>nomatch hp)]
  rfl
 |p::ps=>by
  have ih:=Qs z ps
  show(jo (((Sum.inl (p:Int):Key),V.int (p:Int))::kp ps) (Sum.inl z)).isSome=_
  by_cases h:(p:Int)=z
  ·rw[lL (by show(Sum.inl (p:Int):Key)=Sum.inl z;rw[h])]
   rw[decide_eq_true ⟨p,List.mem_cons_self ..,h⟩]
   rfl
  ·rw[lM (fun q=>h (by injection q)),ih]
   congr 1
   refine propext ⟨fun⟨q,hq,e⟩=>⟨q,List.mem_cons_of_mem _ hq,e⟩,fun⟨q,hq,e⟩=>?_⟩
   rcases List.mem_cons.mp hq with r|r
   ·rw[r]at e
    exact absurd e h
   ·exact⟨q,r,e⟩
theorem acr {ps:List Nat} {p:Nat} (h:p∉ps):putK (kp ps) (Sum.inl (p:Int)) (V.int (p:Int))=kp (ps++[p]):=by
 unfold putK
 rw[ui,Qs,decide_eq_false (fun⟨q,hq,e⟩=>h (by rw[show p=q by omega];exact hq))]
 show(if false=true then _ else _)=_
 rw[if_neg (by decide)]
 unfold kp
 rw[List.map_append]
 rfl
theorem N0:∀(qs ps:List Nat),(ps++qs).Nodup→kN (kp ps) (kp qs)=kp (ps++qs)
 | [],ps,_=>by rw[List.append_nil];rfl
 |q::qs,ps,nd=>by
  show kN (putK (kp ps) (Sum.inl (q:Int)) (V.int (q:Int))) (kp qs)=_
  have h:q∉ps:=fun hm=>by
   have:=(List.nodup_append.mp nd).2.2 q hm q (List.mem_cons_self ..)
   exact this rfl
  rw[acr h,N0 qs (ps++[q]) (by rw[List.append_assoc];exact nd),List.append_assoc]
  rfl
theorem acs (ps:List Nat):(ps.map fun(p:Nat)=>(Sum.inl (p:Int):Key)).zip (nv ps)=kp ps:=by
 unfold nv kp
 induction ps with
 |nil=>rfl
 |cons p ps ih =>
  rw[List.map_cons,List.map_cons,List.zip_cons_cons,ih]
  rfl
theorem G8 {α β γ:Type} {F:α→γ→Prop} {f:β→γ}:∀{l:List α} {m:List β},Paired (fun x u=>F x (f u)) l m→Paired F l (m.map f)
 |_,_,.nil=>.nil
 |_,_,.cons r t=>.cons r (G8 t)
theorem RA {b:List UInt8} {t:Rc31.Told} (T:TG b t):t.base<2^48:=by
 have hr:=T.row
 cases hl:t.laid with
 |nil=>rw[hl]at hr;exact hr.elim
 |cons s r =>
  rw[hl]at hr
  have h1:=hr.2.2.1
  rw[GC]at h1
  have Hc:s::r≠[]:=by simp
  have hm:(s::r).getLast Hc∈t.laid:=by rw[hl];exact List.getLast_mem Hc
  have h2:=T.tok.lo _ hm
  rw[List.getLast?_eq_getLast Hc,Option.getD_some]at h1
  omega
theorem CB {t:Rc31.Told} (T:MX.wD t) {rs:List Rn} (h:∀r∈rs,xt t r):∀q∈outs rs,q+8≤t.size:=by
 intro q hq
 unfold outs at hq
 obtain⟨r,hr,hq⟩:=List.mem_flatMap.mp hq
 unfold wd at hq
 obtain⟨j,hj,rfl⟩:=List.mem_map.mp hq
 exact S8 T ((h r hr).row j (List.mem_range.mp hj))
section
variable {g:Gm} {a:Ad}
def Ts (a:Ad):Sp:=fun vs H Q E=>∃(p ls ll:Addr) (b:List UInt8) (n:Nat) (t:Rc31.Told),vs=[.ref p]∧lU a H p ls ll b n t∧∀pl q1 q2 q3 H',H' pl=some (.lst [.ref q1,.ref q2,.ref q3])→H' q1=some (.lst (bv (Rc31.part b (dD t).1)))→H' q2=some (.lst (bv (Rc31.part b (dD t).2.1)))→H' q3=some (.lst (bv (Rc31.part b (dD t).2.2)))→ax H H'→Q (.ref pl) H'
theorem CC (b:List UInt8):Rc31.part b (0,0)=[]:=by
 unfold Rc31.part
 exact List.take_zero
theorem N1 (T:Tx g.K g.mg a):Pr g 1 a.Fu ["contents"] (Ts a):=by
 refine Pr.on T.Fz Mo fun cF A outer s H vs Q E hr h=>?_
 obtain⟨p,ls,ll,b,n,t,rfl,⟨dx,bg,pt,sa,la,as,D⟩,k⟩:=h
 refine⟨_,ae (dk (Bz (By (ar (pv 0) rfl))) (ag (aS (cv (aa (cv ai) (aa (cv ai) (aa (cv ai) ai)))))) gw)
  (ag (aS (ar (pv 0) rfl))),?_⟩
 have hp:=D.pt
 refine⟨_,rfl,p,_,dx,_,_,rfl,D.ob,T.aM,T.cz,kX,_,rfl,?_⟩
 cases hi:t.info with
 |none =>
  rw[hi]at hp
  obtain⟨rfl,_⟩:=hp
  have ed:dD t=((0,0),(0,0),(0,0)):=by unfold dD;rw[hi];rfl
  rw[ed]at k
  refine iA ⟨Nat.zero_le _,fun q1 n1=>⟨Nat.zero_le _,fun q2 n2=>⟨Nat.zero_le _,fun q3 n3=>⟨(by show 3≤sizeLine;decide),fun pl np=>?_⟩⟩⟩⟩
  have s1:ax H (upd H q1 (.lst [])):=ax.upd n1
  have h1:upd H q1 (.lst []) q1=some (.lst []):=af
  generalize upd H q1 (.lst [])=H1 at *
  have s2:ax H1 (upd H1 q2 (.lst [])):=ax.upd n2
  have h2:upd H1 q2 (.lst []) q2=some (.lst []):=af
  generalize upd H1 q2 (.lst [])=H2 at *
  have s3:ax H2 (upd H2 q3 (.lst [])):=ax.upd n3
  have h3:upd H2 q3 (.lst []) q3=some (.lst []):=af
  generalize upd H2 q3 (.lst [])=H3 at *
  have s4:ax H3 (upd H3 pl (.lst [.ref q1,.ref q2,.ref q3])):=ax.upd np
  refine k pl q1 q2 q3 _ af ?_ ?_ ?_ (((s1.trans s2).trans s3).trans s4)
  ·rw[CC]
   exact s4 _ _ (s3 _ _ (s2 _ _ h1))
  ·rw[CC]
   exact s4 _ _ (s3 _ _ h2)
  ·rw[CC]
   exact s4 _ _ h3
 |some d =>
  rw[hi]at hp
  obtain⟨d1,d2,d3⟩:=d
  obtain⟨pl,q1,q2,q3,rfl,_,h0,h1,h2,h3⟩:=hp
  have ed:dD t=(d1,d2,d3):=by unfold dD;rw[hi];rfl
  rw[ed]at k
  exact eg ⟨_,rfl,p,_,dx,_,_,rfl,D.ob,T.aM,T.cz,kX,k pl q1 q2 q3 H h0 h1 h2 h3 (ax.refl _)⟩
def IM (a:Ad):Sp:=fun vs H Q E=>∃(p ls ll:Addr) (b:List UInt8) (n:Nat) (t:Rc31.Told),vs=[.ref p]∧lU a H p ls ll b n t∧Q (.int ((t.entry.getD 0:Nat):Int)) H
theorem Ey (T:Tx g.K g.mg a):Pr g 1 a.rY ["contents"] (IM a):=by
 refine Pr.on T.ve DT fun cF A outer s H vs Q E hr h=>?_
 obtain⟨p,ls,ll,b,n,t,rfl,⟨dx,bg,pt,sa,la,as,D⟩,k⟩:=h
 refine⟨_,ae (dk (Bz (By (ar (pv 0) rfl))) (ag (aS ak)) gw)
  (ag (aS (ar (pv 0) rfl))),?_⟩
 have hp:=D.bg
 refine⟨_,rfl,p,_,dx,_,_,rfl,D.ob,T.aM,T.ba,dG,_,rfl,?_⟩
 cases hi:t.entry with
 |none =>
  rw[hi]at hp k
  obtain rfl:bg = .de:=hp
  exact iA k
 |some e =>
  rw[hi]at hp k
  obtain rfl:bg = .int (e:Int):=hp
  exact eg ⟨_,rfl,p,_,dx,_,_,rfl,D.ob,T.aM,T.ba,dG,k⟩
def JR (a:Ad):Sp:=fun vs H Q E=>∃(f:Addr) (b:List UInt8),vs=[.ref f]∧H f=some (.lst (bv b))∧b.length≤1048576∧(∀z,H z=none→a.new z)∧(b.length<1∨Rc31.image b=none→∀H',ax H H'→E (.ref a.aE) none H') ∧
 ∀i,1≤b.length→Rc31.image b=some i→∀x H',wo a.toAd0 H' a.new x i i.told.base i.memory→H x=none→ax H H'→Q (.ref x) H'
theorem Wh {b:List UInt8} (h:Rc31.toldOf b=none):Rc31.image b=none:=by
 unfold Rc31.image
 rw[h]
 rfl
theorem N2 (T:Tx g.K g.mg a):Pr g 12 a.Ag ["file"] (JR a):=by
 refine Pr.on T.FD dE fun cF A outer s H vs Q E hr h=>?_
 obtain⟨f,b,rfl,hf,hb,DJ,k0,k1⟩:=h
 refine⟨_,ae (az (aB T) au hr (by decide) T.aA (zO iK iK ak (aV aJ (by rfl) T.eL PySem.boot_len (aa (pv 0) ai)) (pk T.Dt)))
  (ae (aI (i:=1) dE.nd rfl (Or.inl rfl) (aU (Gy T) au hr (by decide) T.xG (aa (pv 0) ai)))
  (ae (aI (i:=2) dE.nd rfl (Or.inl rfl) (aU (Lo T) au hr (by decide) T.De (aa (pv 1) ai)))
  (ae (aI (i:=3) dE.nd rfl (Or.inl rfl) (aU (N1 T) au hr (by decide) T.FC (aa (pv 1) ai)))
  (ae (aI (i:=4) dE.nd rfl (Or.inl rfl) (aU (Lx T) au hr (by decide) T.Dh (aa (fL cG (pv 3) ak (fun _ _=>rfl)) (aa (pv 2) ai))))
  (ae (aI (i:=5) dE.nd rfl (Or.inl rfl) (aU (Lz T) au hr (by decide) T.CZ (aa (fL cG (pv 3) ak (fun _ _=>rfl)) (aa (pv 2) (aa (ar (pv 1) rfl) ai)))))
  (ae (aR (aU (GW T) au hr (by decide) T.xE (aa (aO BE (pv 4) (Cp (te:=J1 g.K (zK 9) "run_wanted") JA rfl dE.nd (lh (pv 5)) (nG (N:=["file","contents","ground","parts","runs_mended","wanted","names","places","mended","want"]) (sc:=aq rN) (own:=[("want",9)]) (by decide +kernel)) (fun _ _ _ _ _ _=>dH (i:=9) dE.nd rfl (Or.inl rfl)) (fun _ _ _ _ _ _ _=>zT) (fun _ _ _ _ _ _ pass=>ar (pv 9) rfl))) (aa (ar (pv 2) rfl) ai))))
  (ae (aI (i:=6) dE.nd rfl (Or.inl rfl) (aU (GU T) au hr (by decide) T.xP (aa (fL cG (pv 3) ak (fun _ _=>rfl)) (aa (ar (pv 2) rfl) ai))))
  (ae (aI (i:=7) dE.nd rfl (Or.inl rfl) (aU (Bu T) au hr (by decide) T.uZ (aa (pv 4) ai)))
  (ae (aI (i:=8) dE.nd rfl (Or.inl rfl) (Qr rfl rfl T.UN rfl T.UP (aa (pv 7) (aa (pv 7) ai))))
  (ag (aS (kO (II T) T.AD au hr (by decide) T.QW (aa (pv 2) (aa (aU (Ey T) au hr (by decide) T.vf (aa (pv 1) ai)) (aa (cK (pv 2) (GX T) T.bH T.lP au hr (by decide) (aa (pv 0) ai)) (aa (pv 8) (aa (pv 5) (aa (pv 6) ai)))))))))))))))))),?_⟩
 have hz:sizeLine=16777216:=sizeLine_eq
 refine⟨_,rfl,f,_,rfl,.inl (bO.of hf),_,_,rfl,rfl,_,rfl,?_⟩
 rw[br]
 refine aw (fun c1=>?_) fun c1=>⟨false,rfl,eg (k0 (.inl (by omega)) _ (ax.refl _))⟩
 refine⟨_,_,rfl,rfl,_,rfl,?_⟩
 generalize Yb:decide ((b.length:Int)≤1048576)=b1
 refine dm (fun _=>?_) fun c2=>absurd (by omega) (of_decide_eq_false (Yb.trans c2))
 refine⟨_,rfl,f,b,rfl,hf,DJ,fun hn H1 s1=>k0 (.inr (Wh (by rw[MI.Cs,hn];rfl))) _ s1,fun t ht p ls ll H1 C1 np nls Wz s1=>?_⟩
 obtain⟨cD,Po⟩:=Vs ht
 refine⟨_,rfl,p,ls,ll,b,Rc31.num b 20 4,t,rfl,C1,cD,Po,fun hg H2 s2=>k0 (.inr (Wh (by rw[MI.Cs,ht];show(if _ then _ else _)=_;rw[if_neg hg]))) _ (s1.trans s2),fun hg gr H2 G2 ngr s2=>?_⟩
 have hto:Rc31.toldOf b=some t:=by rw[MI.Cs,ht];show(if _ then _ else _)=_;rw[if_pos hg]
 have tg:TG b t:=ZJ cD Po hg
 have R:=YS hto tg
 have s02:=s1.trans s2
 refine⟨_,rfl,p,ls,ll,b,_,t,rfl,C1.same s2,fun pl q1 q2 q3 H3 oI hq1 hq2 hq3 s3=>?_⟩
 have s03:=s02.trans s3
 obtain⟨do1,do2,do3⟩:=Ry tg
 have acu:∀{d:Rc31.Dir},MX.rb b d→(Rc31.part b d).length≤1048576:=fun{d} h=>by
  rw[GZ h]
  unfold MX.rb at h
  omega
 have l1:=acu do1
 have l2:=acu do2
 have l3:=acu do3
 refine⟨_,rfl,pl,_,_,_,rfl,rfl,bO.of oI,at_of (j:=0) rfl rfl,_,rfl,q1,gr,b,_,t,rfl,hq1,by omega,G2.same s3,tg,fun hn H4 s4=>k0 (.inr (R.noM hn)) _ (s03.trans s4),fun rs hrs ml ra H4 LZ hra hrl Yo s4=>?_⟩
 have s04:=s03.trans s4
 have WD:=s3.trans s4
 obtain⟨dxc,bg,pt,sa,la,as,D1⟩:=id C1
 have D4:=(D1.same s2).same WD
 refine⟨_,rfl,pl,_,_,_,rfl,rfl,bO.of (s4 _ _ oI),at_of (j:=1) rfl rfl,_,rfl,_,rfl,p,_,dxc,_,_,rfl,D4.ob,T.aM,T.bV,il,q2,gr,ll,la,b,_,t,rfl,s4 _ _ hq2,by omega,D4.hl,bc D4.libs (fun x hx y q=>⟨q,D4.Fc x hx⟩),(fun z e=>DJ z (s04.free e)),G2.same WD,tg,fun hn H5 s5=>k0 (.inr (R.noB hn)) _ (s04.trans s5),fun ws hws wl wa bad H5 zI hwa akw nwl s5=>?_⟩
 have s05:=s04.trans s5
 have okM:=R.okM rs hrs
 have okB:=R.okB ws hws
 refine⟨_,rfl,_,rfl,wl,rfl,⟨_,bO.of zI⟩,fun D hD=>?_⟩
 refine zV (K:=g.K) (a:=wl) (xs:=wa.map V.ref) (fun i H6=>∃xa:List Addr,H6 D=some (.lst (xa.map V.ref))∧Paired (fun x (u:Wn)=>pK a H5 x (u.r.p:Int) u.r.n (MX.aD u.r.n u.r.skip)) xa (ws.take i)∧ax H5 H6) ⟨[],af,.nil,ax.upd hD⟩ (fun i H6 _ ⟨_,_,_,s6⟩=>bO.of (s6 _ _ zI)) ?_ ?_
 ·rintro i y H6 hi ⟨xa,hd6,Tz,s6⟩
  obtain⟨y,hy,rfl⟩:=pH hi
  obtain⟨u,hu,⟨Hg,xr,nl,ln,h1,h2,h3,h4,afg⟩⟩:=iw hwa hy
  obtain⟨oQ,_⟩:=List.getElem?_eq_some_iff.mp hu
  refine⟨rfl,Ri ?_⟩
  refine⟨_,rfl,y,_,Hg,_,_,rfl,s6 _ _ h1,T.eP,T.bB,dN,_,hd6,?_,xa++[xr],?_,?_,?_⟩
  ·rw[List.length_map,bu Tz,List.length_take]
   omega
  ·rw[af,List.map_append]
   rfl
  ·rw[gK hu]
   exact gv Tz h2
  ·intro z o e
   rw[aj (ao e hD)]
   exact s6 _ _ e
 rintro H6 ⟨xa,hd6,Tz,s6⟩
 rw[List.length_map,bu hwa,List.take_length]at Tz
 have s46:=s5.trans s6
 have lra:=bu hra
 have lxa:=bu Tz
 refine⟨ml,D,_,_,rfl,rfl,s46 _ _ LZ,hd6,by rw[List.length_map,List.length_map,lra,lxa];omega,fun cl ncl=>?_⟩
 rw[←List.map_append]
 have s7:ax H6 (upd H6 cl (.lst ((ra++xa).map V.ref))):=ax.upd ncl
 have oJ:upd H6 cl (.lst ((ra++xa).map V.ref)) cl=_:=af
 generalize upd H6 cl (.lst ((ra++xa).map V.ref))=H7 at *
 have s57:=s6.trans s7
 have s47:=s46.trans s7
 have s07:=s05.trans s57
 have G7:Cu a H7 gr t:=G2.same (WD.trans s47)
 obtain⟨dg,lsg,kC,sp,sga,lga,pga,GD7⟩:=G7
 have Ml:∀r∈rs++ws.map (fun u=>u.r),xt t r:=fun r hr'=>(List.mem_append.mp hr').elim (okM r) fun q=>by
  obtain⟨u,hu,rfl⟩:=List.mem_map.mp q
  exact(okB u hu).r
 have Uu:=CB tg.tok Ml
 have Zt:=size_le tg.tok
 refine⟨_,rfl,gr,_,dg,_,_,rfl,GD7.ob,T.bH,T.cS,jk,cl,ra++xa,t,rs++ws.map (fun u=>u.r),t.size,rfl,oJ,sW (Paired.ua hra fun _ _ q=>q.same s47) (G8 (Paired.ua Tz fun _ _ q=>q.same s57)),tg.tok,Ml,Uu,by rw[List.length_append,List.length_map];omega,Zt,fun hd H8 s8=>k0 (.inr (R.noD rs ws hrs hws hd)) _ (s07.trans s8),fun hd H8 s8=>?_⟩
 have s08:=s07.trans s8
 have s58:=s57.trans s8
 have s48:=s47.trans s8
 have s38:=s4.trans s48
 have afh:=s8 _ _ GD7.ob
 refine⟨_,rfl,pl,_,_,_,rfl,rfl,bO.of (s38 _ _ oI),at_of (j:=2) rfl rfl,_,rfl,gr,_,dg,_,_,rfl,afh,T.bH,T.cS,jk,q3,t.size,_,rfl,s38 _ _ hq3,by omega,fun hn H9 s9=>k0 (.inr (R.noG hn)) _ (s08.trans s9),fun G gd H9 hG hGn ZT ngd s9=>?_⟩
 obtain⟨gg,hgg,afi⟩:=hG
 have s09:=s08.trans s9
 have s49:=s48.trans s9
 have hdm:Rc31.distant (outs rs)=true:=by
  rw[Bx]at hd
  exact nj hd
 have akD:=MX.Bn hdm fun q hq=>CB tg.tok okM q hq
 refine⟨_,rfl,ml,ra,t,rs,rfl,s49 _ _ LZ,Paired.ua hra (fun _ _ q=>q.same s49),tg.tok,okM,by omega,fun ps H10 hps nps s10=>?_⟩
 have afj:=s09.trans s10
 refine⟨_,rfl,_,rfl,ps,ps,(outs rs).map fun(p:Nat)=>(Sum.inl (p:Int):Key),nv (outs rs),rfl,bO.of (by rw[hps];unfold nv;rw[List.map_map];rfl),bO.of hps,by rw[List.length_map,lg],fun md nmd=>?_⟩
 rw[acs,show kN [] (kp (outs rs))=kp (outs rs) from N0 (outs rs) [] (IL hdm)]
 have s11:ax H10 (upd H10 md (.dK (kp (outs rs)))):=ax.upd nmd
 have hmd:upd H10 md (.dK (kp (outs rs))) md=some (.dK (kp (outs rs))):=af
 generalize upd H10 md (.dK (kp (outs rs)))=H11 at *
 have acv:=afj.trans s11
 have acw:=s10.trans s11
 have aiU:=s9.trans acw
 have acx:=s58.trans aiU
 have afk:=s49.trans acw
 have D11:=D4.same afk
 have G11:Cu a H11 gr t:=G2.same (WD.trans afk)
 obtain⟨dg',afl,afm,Zj,aor,aiW,aos,Tt⟩:=id G11
 refine⟨_,rfl,_,rfl,p,ls,ll,b,_,t,rfl,⟨dxc,bg,pt,sa,la,as,D11⟩,_,rfl,gr,dg',_,rfl,Tt.ob,qI,_,rfl,gr,f,b,t,rfl,G11,tg,acv _ _ hf,fun hl H12 hhl nhl xq=>?_⟩
 have afn:=acv.trans xq
 have afo:=acx.trans xq
 have CD:=xq _ _ Tt.ob
 refine⟨_,rfl,_,rfl,_,rfl,fun x d nx nd nex=>⟨x,d,gr,dg',hl,md,wl,gd,gN (.ref afl) (.ref afm) (.int (t.base:Int)) (.int (t.size:Int)) (.ref Zj),(t.base:Int),_,rfl,af,?_,lD,ao CD nx,fun H13 aiX k13=>⟨rfl,?_⟩⟩⟩
 ·rw[aj (ao CD nx),aj (ao CD nd)]
  exact CD
 have LD:ax H12 H13:=ax.tP nx nd k13
 have aiY:=afn.trans LD
 have Wi:=afo.trans LD
 have nx0:H x=none:=afn.free nx
 have aiZ:H hl=none:=acv.free nhl
 have nx5:H5 x=none:=afo.free nx
 have afp:H5 hl=none:=acx.free nhl
 have acy:=R.yes rs ws gg hrs hws hgg hd
 have acz:((ws.flatMap eW).map fun w=>w.word)=outs (ws.map fun u=>u.r):=zD ws
 refine k1 _ (by omega) acy x H13 ⟨d,gr,dg',hl,md,wl,gd,afm,.ref afl,.ref Zj,aiW.map V.ref,kp (outs rs),wa,ws,G,Rc31.laid b t,?_⟩ nx0 aiY
 have Z4:(Rc31.laid b t).length=t.size:=VR tg
 have Z5:outs rs++((ws.flatMap eW).map fun w=>w.word)=outs (rs++ws.map fun u=>u.r):=by rw[acz,Bx]
 have abU:∀i∈outs rs,i+8≤(Rc31.laid b t).length:=fun i hi=>by rw[Z4];exact CB tg.tok okM i hi
 refine⟨aiX,LD _ _ CD,LD _ _ (xq _ _ Tt.hl),by rw[List.length_map];exact bu Tt.laid,LD _ _ hhl,LD _ _ (xq _ _ hmd),fun z=>Qs z _,by unfold kp;rw[List.length_map],Wi _ _ zI,?_,rfl,okB,by omega,LD _ _ (xq _ _ (acw _ _ ZT)),afi,hGn,MX.V9 hgg,tg.tok,tg.ok.libs,?_,Z4,?_,Zt,RA tg,RA tg,?_,?_,?_⟩
 ·refine Paired.ua hwa fun y u q=>?_
  obtain⟨Hg,xr,nl,ln,h1,⟨dr,h2⟩,h3,h4,_,_,_,_,w1,w2,w3,w4⟩:=q
  exact⟨Hg,xr,dr,nl,ln,Wi _ _ h1,Wi _ _ h2,Wi _ _ h3,Wi _ _ h4,⟨w1,w2,w3,w4⟩,ao h1 nx5,ao h2 nx5,ao h3 afp,ao h4 afp⟩
 ·show Rc31.distant (outs rs++((ws.flatMap eW).map fun w=>w.word))=true
  rw[Z5]
  exact hd
 ·show ∀p∈outs rs++((ws.flatMap eW).map fun w=>w.word),p+8≤t.size
  rw[Z5]
  exact Uu
 ·show Rc31.laid b t=Rc31.mended (Rc31.laid b t) ((Rc31.W64+t.base-t.base)%Rc31.W64) (outs rs)
  rw[MX.NM hdm abU (by rw[Nat.add_sub_cancel,Nat.mod_self];rfl)]
 ·exact⟨DJ x nx0,DJ gr (s1.free ngr),Tt.Fc,DJ hl aiZ,DJ md (afj.free nmd),DJ wl (s04.free nwl),DJ gd (s08.free ngd)⟩
 ·exact⟨ao CD nx,ao Tt.hl nhl,ao (acx _ _ zI) nhl⟩
end
end MI
namespace MI
open PySem L2
theorem tR.agree {a:Ad0} {libs:List (List UInt8)} {N:Addr→Prop} {hl x:Addr} {H H':Hp} {y:Addr} {u:Wn} (h:tR a libs N hl x H y u) (k:∀b,N b→H' b=H b):tR a libs N hl x H' y u:=by
 obtain⟨dx,xr,dr,nl,ln,h1,h2,h3,h4,⟨n1,n2,n3,n4⟩,r⟩:=h
 exact⟨dx,xr,dr,nl,ln,(k _ n1).trans h1,(k _ n2).trans h2,(k _ n3).trans h3,(k _ n4).trans h4,⟨n1,n2,n3,n4⟩,r⟩
theorem tR.set {a:Ad0} {libs:List (List UInt8)} {N N':Addr→Prop} {hl x:Addr} {H:Hp} {y:Addr} {u:Wn} (h:tR a libs N hl x H y u) (k:∀b o,N b→H b=some o→N' b):tR a libs N' hl x H y u:=by
 obtain⟨dx,xr,dr,nl,ln,h1,h2,h3,h4,⟨n1,n2,n3,n4⟩,r⟩:=h
 exact⟨dx,xr,dr,nl,ln,h1,h2,h3,h4,⟨k _ _ n1 h1,k _ _ n2 h2,k _ _ n3 h3,k _ _ n4 h4⟩,r⟩
section
variable {a:Ad0} {H H':Hp} {N:Addr→Prop} {x:Addr} {i:Rc31.Image} {base:Nat} {mem:List UInt8}
theorem wo.agree (h:wo a H N x i base mem) (k:∀b,N b→H' b=H b):wo a H' N x i base mem:=by
 obtain⟨dx,gr,dg,hl,md,wl,gd,kC,NX,NY,lv,aZ,wa,ws,G,m,D⟩:=h
 obtain⟨n1,n2,n3,n4,n5,n6,n7⟩:=D.ns
 exact⟨dx,gr,dg,hl,md,wl,gd,kC,NX,NY,lv,aZ,wa,ws,G,m,{D with ob:=(k _ n1).trans D.ob,YZ:=(k _ n2).trans D.YZ,NZ:=(k _ n3).trans D.NZ,Y0:=(k _ n4).trans D.Y0,Y1:=(k _ n5).trans D.Y1,Z2:=(k _ n6).trans D.Z2,Y2:=(k _ n7).trans D.Y2,pr:=Paired.ua D.pr fun _ _ q=>q.agree k}⟩
theorem wo.set {N':Addr→Prop} (h:wo a H N x i base mem) (k:∀b o,N b→H b=some o→N' b):wo a H N' x i base mem:=by
 obtain⟨dx,gr,dg,hl,md,wl,gd,kC,NX,NY,lv,aZ,wa,ws,G,m,D⟩:=h
 obtain⟨n1,n2,n3,n4,n5,n6,n7⟩:=D.ns
 exact⟨dx,gr,dg,hl,md,wl,gd,kC,NX,NY,lv,aZ,wa,ws,G,m,{D with pr:=Paired.ua D.pr fun _ _ q=>q.set k,ns:=⟨k _ _ n1 D.ob,k _ _ n2 D.YZ,k _ _ n3 D.NZ,k _ _ n4 D.Y0,k _ _ n5 D.Y1,k _ _ n6 D.Z2,k _ _ n7 D.Y2⟩}⟩
end
def qp (a:Ad) (H:Hp) (d:Addr) (S:Addr→Prop) (st:Rc31.Abs):Prop:=(∀b,S b→H b≠none)∧S d∧∃dd v,H d=some (.ins a.fA dd (fH v))∧((st.image=none∧v = .de)∨∃i base mem x,st.image=some (i,base,mem)∧v = .ref x∧x≠d∧wo a.toAd0 H S x i base mem)
theorem qp.keep {a:Ad} {H H':Hp} {d:Addr} {S:Addr→Prop} {st:Rc31.Abs} (h:qp a H d S st) (k:∀b,S b→H' b=H b):qp a H' d S st:=by
 obtain⟨h1,h2,dd,v,h3,h4⟩:=h
 refine⟨fun b hb=>by rw[k b hb];exact h1 b hb,h2,dd,v,(k _ h2).trans h3,h4.imp id ?_⟩
 rintro⟨i,base,mem,x,e1,e2,e3,h5⟩
 exact⟨i,base,mem,x,e1,e2,e3,h5.agree k⟩
def di (a:Ad):DI a where
 DS:=qp a
 keep:=fun h k=>qp.keep h k
 there:=fun h=>h.1
 start:=fun{H d dx} h=>⟨(fun b hb=>by rw[show b=d from hb,h];intro z;cases z),rfl,dx,.de,h,.inl ⟨rfl,rfl⟩⟩
theorem qp.same {a:Ad} {H H':Hp} {d:Addr} {S:Addr→Prop} {st:Rc31.Abs} (h:qp a H d S st) (s:ax H H'):qp a H' d S st:=h.keep fun b hb=>by
 cases e:H b with
 |none=>exact absurd e (h.1 b hb)
 |some o=>exact s b o e
theorem tm {H H':Hp} (s:ax H H'):∀b,H b≠none→H' b≠none:=fun b hb=>by
 cases e:H b with
 |none=>exact absurd e hb
 |some o=>rw[s b o e];intro z;cases z
theorem dU {st:Rc31.Abs} {c:List (List Int)} {x:Rc31.Call} {y:Rc31.Abs×Rc31.Ans} (e:Rc31Neutral.callOf c=some x) (h:Rc31.does st x=y):Rc31Neutral.step st c=(y.1,y.2.value::y.2.numbers.map fun(b:Nat)=>(b:Int)):=by
 unfold Rc31Neutral.step
 rw[e,←h]
theorem rj {l:List Int} {cc:List (List Int)} {t:List Int} {i:Int} {n:Int} (h:MX.lZ l cc t) (hi:(MX.hX cc)[0]?=some i) (hn:MX.NO i=some n):∃xs:List Int,cc=[i::xs]∧(xs.length:Int)+1=n:=by
 cases h with
 |plain p xs t h =>
  obtain rfl:p=i:=Option.some.inj hi
  rw[h]at hn
  exact⟨xs,rfl,Option.some.inj hn⟩
 |row p r t h =>
  obtain rfl:p=i:=Option.some.inj hi
  rcases h with rfl|rfl<;>cases hn
theorem Wj {l:List Int} {cc:List (List Int)} {t:List Int} {i:Int} (h:MX.lZ l cc t) (hi:(MX.hX cc)[0]?=some i) (hn:MX.NO i=none):∃r:List Int,cc=[[i],r]:=by
 cases h with
 |plain p xs t h =>
  obtain rfl:p=i:=Option.some.inj hi
  rw[h]at hn
  cases hn
 |row p r t h =>
  obtain rfl:p=i:=Option.some.inj hi
  exact⟨r,rfl⟩
theorem afq {xs:List Int} (h:(xs.length:Int)+1=2):∃x,xs=[x]:=by
 match xs,h with
 | [x],_=>exact⟨x,rfl⟩
 | [],h=>simp at h
 |_::_::_,h=>simp at h;omega
theorem afr {xs:List Int} (h:(xs.length:Int)+1=3):∃x y,xs=[x,y]:=by
 match xs,h with
 | [x,y],_=>exact⟨x,y,rfl⟩
 | [],h=>simp at h
 | [_],h=>simp at h
 |_::_::_::_,h=>simp at h;omega
theorem len0 {xs:List Int} (h:(xs.length:Int)+1=1):xs=[]:=by
 cases xs with
 |nil=>rfl
 |cons _ _=>simp at h;omega
theorem N3 {r:List Int} (h:r.all (fun(z:Int)=>Rc31Neutral.natural z 8)=true):r.map V.int=bv (Rc31Neutral.bytesOf r):=by
 unfold bv Rc31Neutral.bytesOf
 rw[List.map_map]
 refine List.map_congr_left fun z hz=>?_
 have:=List.all_eq_true.mp h z hz
 unfold Rc31Neutral.natural at this
 simp only[Bool.and_eq_true,decide_eq_true_eq]at this
 show V.int z=V.int ((UInt8.ofNat z.toNat).toNat:Int)
 have e:(UInt8.ofNat z.toNat).toNat=z.toNat:=by
  rw[←Nat.mod_eq_of_lt (show z.toNat<256 by omega),MX.Qe]
 rw[e]
 congr 1
 omega
theorem RB (x y:V) (r:List V):zQ (x::y::r) (some (2:Int)) none=r:=by
 unfold zQ
 have e:HT.Hk (x::y::r).length 0 (some (2:Int))=min 2 (x::y::r).length:=HT.zP _ 0 2
 rw[e,HT.E8,List.length_cons,List.length_cons,Nat.min_eq_left (by omega)]
 show r.take (r.length+1+1-2)=r
 rw[show r.length+1+1-2=r.length by omega,List.take_length]
section
variable {g:Gm} {a:Ad}
def Y4 (a:Ad):Sp:=fun vs H Q E=>∃(d dd:Addr) (v:V),vs=[.ref d]∧H d=some (.ins a.fA dd (fH v))∧((v = .de∧E (.ref a.cn) none H)∨∃x,v = .ref x∧Q (.ref x) H)
theorem gq (T:Tx g.K g.mg a):Pr g 1 a.kT ["self"] (Y4 a):=by
 refine Pr.on T.nZ wK fun cF A outer s H vs Q E hr h=>?_
 obtain⟨d,dd,v,rfl,hd,k⟩:=h
 refine⟨_,ae (dk (Bz (By (ar (pv 0) rfl))) (ag (nH T.B4 rfl rC rfl)) gw)
  (ag (aS (ar (pv 0) rfl))),?_⟩
 refine⟨_,rfl,d,_,dd,_,_,rfl,hd,T.jj,T.dX,AR,_,rfl,?_⟩
 rcases k with⟨rfl,k⟩|⟨x,rfl,k⟩
 ·exact iA k
 ·exact eg ⟨_,rfl,d,_,dd,_,_,rfl,hd,T.jj,T.dX,AR,k⟩
theorem Wl (T:Tx g.K g.mg a):Pr g 1 a.begin ["desk","call"] (WH a (di a) 0):=by
 refine Pr.on T.QU UC fun cF A outer s H vs Q E hr h=>?_
 obtain⟨d,cl,S,st,cc,l,t,rfl,hD,oJ,nS,ah,xu,hi,k,kE⟩:=h
 refine⟨_,ae (aT (pv 0) JV rfl)
  (ag (aS (cv (aa ak ai)))),?_⟩
 obtain⟨xs,rfl,hx⟩:=rj ah hi (n:=1) rfl
 obtain rfl:=len0 hx
 have jf:Rc31Neutral.step st (PyRc31.whole [[((0:Nat):Int)]])=({},[0]):=dU (x:=.init) rfl rfl
 rw[jf]at k
 obtain⟨h1,h2,dd,v,h3,h4⟩:=hD
 refine⟨_,rfl,d,_,dd,_,rfl,h3,T.jj,T.dX,(by rw[FN];decide),?_⟩
 rw[qJ]
 refine⟨(by show 1≤sizeLine;decide),fun tl we=>?_⟩
 have hd1:upd H d (.ins a.fA dd (fH .de)) d=some (.ins a.fA dd (fH .de)):=af
 have xo:Kp S H (upd H d (.ins a.fA dd (fH .de))):=Kp.upd (.inl h2)
 have G9:H tl=none:=fw we
 have nd:d≠tl:=ao hd1 we
 refine k tl _ (At d) af G9 (by have:=MX.kA (PyRc31.whole [[((0:Nat):Int)]]);show(1:Int)≤_;omega) (fun b o e n=>?_) ((di a).start (by rw[aj nd];exact hd1)) (fun z=>nd z.symm) (fun b z=>.inl (by rw[show b=d from z];exact h2))
 have h:=xo b o e n
 rw[aj (ao h we)]
 exact h
theorem LX (T:Tx g.K g.mg a):Pr g 13 a.qy ["desk","call"] (WH a (di a) 1):=by
 have GI:Pr g 12 a.Ag ["file"] (fun vs H Q E=>∃N:Addr→Prop,JR {a with new:=N} vs H Q E):=Pr.ex (ι:=Addr→Prop) (fun _=>True) fun N=>N2 (a:={a with new:=N}) T
 refine Pr.on T.Dk Kf fun cF A outer s H vs Q E hr h=>?_
 obtain⟨d,cl,S,st,cc,l,t,rfl,hD,oJ,nS,ah,xu,hi,k,kE⟩:=h
 refine⟨_,ae (aT (pv 0) (aU GI au hr (by decide) T.FE (aa (jH mX (pv 1) (gV ak) Ez) ai)) rfl)
  (ag (aS (cv (aa ak ai)))),?_⟩
 obtain⟨r,rfl⟩:=Wj ah hi rfl
 have pN:((r.all (fun(z:Int)=>Rc31Neutral.natural z 8)&&Rc31Neutral.long r (r.length:Int) 1 1048576)&&Rc31Neutral.whole32 (r.length:Int))=true:=xu
 simp only[Bool.and_eq_true]at pN
 obtain⟨⟨hby,VU⟩,_⟩:=pN
 have hlen:r.length≤1048576:=by
  unfold Rc31Neutral.long at VU
  have VU:=of_decide_eq_true VU
  split at VU<;>omega
 have ebv:=N3 hby
 have ai2:(Rc31Neutral.bytesOf r).length=r.length:=by unfold Rc31Neutral.bytesOf;rw[List.length_map]
 have hZ:Rc31Neutral.callOf (PyRc31.whole [[((1:Nat):Int)],r])=some (.open_ (Rc31Neutral.bytesOf r) (r.length:Int)):=rfl
 have acA:H cl=some (.lst (V.int 1::V.int (r.length:Int)::r.map V.int)):=oJ
 refine⟨_,rfl,_,rfl,cl,_,rfl,bO.of acA,fun f nf=>?_⟩
 rw[RB,ebv]
 have s1:ax H (upd H f (.lst (bv (Rc31Neutral.bytesOf r)))):=ax.upd nf
 have N4:upd H f (.lst (bv (Rc31Neutral.bytesOf r))) f=_:=af
 generalize upd H f (.lst (bv (Rc31Neutral.bytesOf r)))=H1 at *
 generalize hb:Rc31Neutral.bytesOf r=b at *
 refine⟨fun z=>H1 z=none,f,b,rfl,N4,by omega,fun z e=>e,fun zJ H2 s2=>?_,fun i h1 acy x H2 hI nx s2=>?_⟩
 ·have Wm:Rc31.does st (.open_ b (r.length:Int))=(st,Rc31.refused):=by
   rcases zJ with z|z
   ·simp only[Rc31.does]
    rw[if_pos (.inl (by omega))]
   ·simp only[Rc31.does]
    split
    ·rfl
    ·rw[z]
  have jf:=dU hZ Wm
  have xq:=s1.trans s2
  refine kE a.aE (-1) (.inr ⟨.inl rfl,rfl⟩) (by rw[jf];rfl) H2 S (Kp.same xq) (tm xq) ?_ fun b z=>.inl z
  rw[jf]
  exact qp.same hD xq
 ·have Wm:Rc31.does st (.open_ b (r.length:Int))=({image:=some (i,i.told.base,i.memory)},{value:=0}):=by
   simp only[Rc31.does]
   rw[if_neg (by omega),acy]
  have jf:=dU hZ Wm
  rw[jf]at k
  have xq:=s1.trans s2
  obtain⟨g1,g2,dd,v,g3,g4⟩:=hD
  have WJ:x≠d:=fun z=>by rw[z,s1 _ _ g3]at nx;cases nx
  refine⟨_,rfl,d,_,dd,_,rfl,xq _ _ g3,T.jj,T.dX,(by rw[FN];decide),?_⟩
  rw[qJ]
  refine⟨(by show 1≤sizeLine;decide),fun tl we=>?_⟩
  have hd3:upd H2 d (.ins a.fA dd (fH (.ref x))) d=some (.ins a.fA dd (fH (.ref x))):=af
  have Y5:H2 tl=none:=fw we
  have G9:H tl=none:=xq.free Y5
  have nd:d≠tl:=ao hd3 we
  have ai4:∀z,H1 z=none→H z=none:=fun z e=>s1.free e
  refine k tl _ (fun z=>z=d∨(H z=none∧H2 z≠none)) af G9 (by have:=MX.kA (PyRc31.whole [[((1:Nat):Int)],r]);show(1:Int)≤_;omega) (fun y o e n=>?_) ?_ (fun z=>z.elim (fun q=>nd q.symm) fun q=>q.2 Y5) (fun z q=>q.elim (fun e=>.inl (by rw[e];exact g2)) fun q=>.inr q.1)
  ·have hy:=xq _ _ e
   have n1:y≠d:=fun z=>n (by rw[z];exact g2)
   have hy3:upd H2 d (.ins a.fA dd (fH (.ref x))) y=some o:=by rw[aj n1];exact hy
   rw[aj (ao hy3 we)]
   exact hy3
  ·refine⟨fun y hy=>?_,.inl rfl,dd,.ref x,by rw[aj nd];exact hd3,.inr ⟨i,i.told.base,i.memory,x,rfl,rfl,WJ,?_⟩⟩
   ·rcases hy with e|e
    ·rw[e,aj nd,hd3]
     intro z;cases z
    ·have n1:y≠tl:=fun z=>by rw[z]at e;exact e.2 Y5
     have n2:y≠d:=fun z=>by rw[z,g3]at e;cases e.1
     rw[aj n1,aj n2]
     exact e.2
   ·have hI':wo a.toAd0 H2 (fun z=>H1 z=none) x i i.told.base i.memory:=hI
    have hI2:wo a.toAd0 H2 (fun z=>H z=none∧H2 z≠none) x i i.told.base i.memory:=hI'.set fun y o hn e=>⟨ai4 y hn,by rw[e];intro z;cases z⟩
    refine(hI2.agree fun y hy=>?_).set fun y o hn e=>.inr hn
    have n1:y≠tl:=fun z=>by rw[z]at hy;exact hy.2 Y5
    have n2:y≠d:=fun z=>by rw[z,g3]at hy;cases hy.1
    rw[aj n1,aj n2]
end
end MI
namespace MI
open PySem L2
theorem zG {z:Int} {n:Nat} (h:Rc31Neutral.natural z n=true):0≤z∧z<2^n:=by
 unfold Rc31Neutral.natural at h
 simpa only[Bool.and_eq_true,decide_eq_true_eq] using h
section
variable {g:Gm} {a:Ad} {H:Hp} {d:Addr} {S:Addr→Prop} {st:Rc31.Abs}
theorem rl (h:qp a H d S st):∃dd v,H d=some (.ins a.fA dd (fH v))∧S d∧(∀b,S b→H b≠none)∧((st.image=none∧v = .de)∨∃i base mem x,st.image=some (i,base,mem)∧v = .ref x∧x≠d∧wo a.toAd0 H S x i base mem):=by
 obtain⟨h1,h2,dd,v,h3,h4⟩:=h
 exact⟨dd,v,h3,h2,h1,h4⟩
theorem Y6 {m:List UInt8} {l:List Nat} {old new kB:Nat} (hd:Rc31.distant l=true) (hl:∀i∈l,i+8≤m.length) (h1:old<2^48) (h2:new<2^48) (h3:kB<2^48) :
 Rc31.mended (Rc31.mended m ((Rc31.W64+old-kB)%Rc31.W64) l) ((Rc31.W64+new-old)%Rc31.W64) l=Rc31.mended m ((Rc31.W64+new-kB)%Rc31.W64) l:=by
 refine MX.LJ hd hl ?_
 rw[MX.gU]
 omega
theorem acB (T:Tx g.K g.mg a):Pr g 3 a.lay ["desk","call"] (WH a (di a) 2):=by
 refine Pr.on T.Zy aa4 fun cF A outer s H vs Q E hr h=>?_
 obtain⟨d,cl,S,st,cc,l,t,rfl,hD,oJ,nS,ah,xu,hi,k,kE⟩:=h
 refine⟨_,ae (aR (cK (a6 (pv 0) (gq T) T.jj T.cN au hr (by decide)) (LQ T) T.a9 T.Dn au hr (by decide) (aa (fL cG (pv 1) ak (fun _ _=>rfl)) ai)))
  (ag (aS (cv (aa ak ai)))),?_⟩
 obtain⟨xs,rfl,hx⟩:=rj ah hi (n:=2) rfl
 obtain⟨x0,rfl⟩:=afq hx
 have hn:=zG (show Rc31Neutral.natural x0 64=true from xu)
 obtain⟨b,rfl⟩:∃b:Nat,x0=(b:Int):=⟨x0.toNat,by omega⟩
 have hZ:Rc31Neutral.callOf (PyRc31.whole [[((2:Nat):Int),(b:Int)]])=some (.lay b):=rfl
 obtain⟨dd,v,h3,h2,h1,h4⟩:=rl hD
 refine⟨_,rfl,d,dd,_,rfl,h3,cB,d,dd,v,rfl,h3,?_⟩
 rcases h4 with⟨zJ,rfl⟩|⟨i,base,mem,x,NC,rfl,WJ,hI⟩
 ·refine .inl ⟨rfl,?_⟩
  have jf:=dU hZ (show Rc31.does st (.lay b)=(st,Rc31.noImage) by simp only[Rc31.does,zJ])
  refine kE a.cn (-4) (.inl ⟨rfl,rfl⟩) (by rw[jf];rfl) H S Kp.refl (fun _ h=>h) ?_ fun b z=>.inl z
  rw[jf]
  exact hD
 ·refine .inr ⟨x,rfl,?_⟩
  obtain⟨dx,gr,dg,hl,md,wl,gd,kC,NX,NY,lv,aZ,wa,ws,G,m,D⟩:=hI
  refine⟨x,dx,_,rfl,D.ob,FL,_,rfl,cl,_,_,V.int (b:Int),rfl,rfl,bO.of oJ,at_of (j:=1) rfl rfl,x,dx,_,b,rfl,D.ob,(by rw[Mz];decide),fun afg=>?_,fun Z6=>?_⟩
  ·have jf:=dU hZ (show Rc31.does st (.lay b)=(st,Rc31.refused) by simp only[Rc31.does,NC];rw[if_pos afg])
   refine kE a.dI (-1) (.inr ⟨.inr (.inl rfl),rfl⟩) (by rw[jf];rfl) H S Kp.refl (fun _ h=>h) ?_ fun b z=>.inl z
   rw[jf]
   exact hD
  ·have jf:=dU hZ (show Rc31.does st (.lay b)=({image:=some (i,b,Rc31.mended mem ((Rc31.W64+b-base)%Rc31.W64) i.mends)},{value:=0}) by simp only[Rc31.does,NC];rw[if_neg Z6])
   rw[jf]at k
   rw[B8]
   have afs:b<2^48:=by
    have:¬2^47≤b+Rc31.MOST:=fun z=>Z6 (.inr z)
    rw[show Rc31.MOST=4194304 from rfl]at this
    omega
   obtain⟨n1,n2,n3,n4,n5,n6,n7⟩:=D.ns
   obtain⟨e1,e2,e3⟩:=D.ne
   refine⟨(by show 1≤sizeLine;decide),fun tl we=>?_⟩
   have Yf:upd H x (.ins a.bR dx (cJ (.ref gr) (.int (b:Int)) (.int ((i.told.entry.getD 0:Nat):Int)) (.ref hl) (.ref md) (.ref wl) (.ref gd))) x=_:=af
   have up:∀y,y≠x→upd H x (.ins a.bR dx (cJ (.ref gr) (.int (b:Int)) (.int ((i.told.entry.getD 0:Nat):Int)) (.ref hl) (.ref md) (.ref wl) (.ref gd))) y=H y:=fun y n=>aj n
   generalize upd H x (.ins a.bR dx (cJ (.ref gr) (.int (b:Int)) (.int ((i.told.entry.getD 0:Nat):Int)) (.ref hl) (.ref md) (.ref wl) (.ref gd)))=H1 at *
   have ntx:tl≠x:=(ao Yf we).symm
   have G9:H tl=none:=by rw[←up tl ntx];exact we
   have Qt:∀y,S y→H1 y≠none:=fun y hy=>by
    by_cases q:y=x
    ·rw[q,Yf];intro z;cases z
    ·rw[up y q];exact h1 y hy
   have D1:qp a H1 d S {image:=some (i,b,Rc31.mended mem ((Rc31.W64+b-base)%Rc31.W64) i.mends)}:=by
    refine⟨Qt,h2,dd,.ref x,by rw[up d WJ.symm];exact h3,.inr ⟨i,b,_,x,rfl,rfl,WJ,dx,gr,dg,hl,md,wl,gd,kC,NX,NY,lv,aZ,wa,ws,G,m,?_⟩⟩
    have Qu:∀{y:Addr} {o:HO},H y=some o→(∀C q fs,o≠.ins C q fs)→H1 y=some o:=fun{y o} e n=>by
     rw[up y (fun z=>by rw[z,D.ob]at e;cases e;exact n _ _ _ rfl)]
     exact e
    refine{D with ob:=Yf,YZ:=?_,NZ:=Qu D.NZ (fun _ _ _ z=>by cases z),Y0:=Qu D.Y0 (fun _ _ _ z=>by cases z),Y1:=Qu D.Y1 (fun _ _ _ z=>by cases z),Z2:=Qu D.Z2 (fun _ _ _ z=>by cases z),Y2:=Qu D.Y2 (fun _ _ _ z=>by cases z),pr:=?_,Wg:=afs,Tr:=?_}
    ·rw[up gr e1]
     exact D.YZ
    ·refine Paired.ua D.pr fun y u q=>?_
     obtain⟨Hg,xr,dr,nl,ln,w1,w2,w3,w4,wN,z1,z2,z3,z4⟩:=q
     exact⟨Hg,xr,dr,nl,ln,by rw[up y z1];exact w1,by rw[up xr z2];exact w2,Qu w3 (fun _ _ _ z=>by cases z),Qu w4 (fun _ _ _ z=>by cases z),wN,z1,z2,z3,z4⟩
    ·rw[D.Tr]
     exact Y6 (nj D.dist) (fun p hp=>by rw[D.LW];exact D.Y3 p (List.mem_append_left _ hp)) D.Wg afs D.kB
   have Wo:¬S tl:=fun z=>h1 tl z G9
   refine k tl _ S (by rw[af];rfl) G9 (by have:=MX.kA (PyRc31.whole [[((2:Nat):Int),(b:Int)]]);show(1:Int)≤_;omega) (fun y o e n=>?_) (qp.keep D1 fun y hy=>?_) Wo (fun y z=>.inl z)
   ·have ny:y≠x:=fun z=>n (by rw[z];exact n1)
    rw[aj (ao e G9),up y ny]
    exact e
   ·rw[aj (fun z=>Wo (by rw[←z];exact hy))]
theorem Y7 {m:List UInt8} {p base kB:Nat} (h1:base<2^48) (h2:kB<2^48):NQ m p base kB=(Rc31.num m p 8+(Rc31.W64+base-kB)%Rc31.W64)%Rc31.W64:=by
 unfold NQ
 rw[MX.gU]
 omega
theorem Y8 (T:Tx g.K g.mg a):Pr g 4 a.read ["desk","call"] (WH a (di a) 3):=by
 refine Pr.on T.UE QT fun cF A outer s H vs Q E hr h=>?_
 obtain⟨d,cl,S,st,cc,l,t,rfl,hD,oJ,nS,ah,xu,hi,k,kE⟩:=h
 refine⟨_,ae (aI (i:=2) QT.nd rfl (Or.inl rfl) (cK (a6 (pv 0) (gq T) T.jj T.cN au hr (by decide)) (IG T) T.a9 T.AE au hr (by decide) (aa (fL cG (pv 1) ak (fun _ _=>rfl)) (aa (fL cG (pv 1) ak (fun _ _=>rfl)) ai))))
  (ag (aS (aO BE (cv (aa (aV aJ (by rfl) T.eL PySem.boot_len (aa (pv 2) ai)) ai)) (pv 2)))),?_⟩
 obtain⟨xs,rfl,hx⟩:=rj ah hi (n:=3) rfl
 obtain⟨x0,most,rfl⟩:=afr hx
 have pN:(Rc31Neutral.natural x0 32&&Rc31Neutral.whole32 most)=true:=xu
 simp only[Bool.and_eq_true]at pN
 have hn:=zG pN.1
 obtain⟨at_,rfl⟩:∃b:Nat,x0=(b:Int):=⟨x0.toNat,by omega⟩
 have hZ:Rc31Neutral.callOf (PyRc31.whole [[((3:Nat):Int),(at_:Int),most]])=some (.read at_ most):=rfl
 have aft:Rc31Neutral.tells (PyRc31.whole [[((3:Nat):Int),(at_:Int),most]])=if 1≤most∧most≤4194304 then most else 0:=rfl
 have hsz:sizeLine=16777216:=sizeLine_eq
 obtain⟨dd,v,h3,h2,h1,h4⟩:=rl hD
 refine⟨_,rfl,d,dd,_,rfl,h3,cB,d,dd,v,rfl,h3,?_⟩
 rcases h4 with⟨zJ,rfl⟩|⟨i,base,mem,x,NC,rfl,WJ,hI⟩
 ·refine .inl ⟨rfl,?_⟩
  have jf:=dU hZ (show Rc31.does st (.read at_ most)=(st,Rc31.noImage) by simp only[Rc31.does,zJ])
  refine kE a.cn (-4) (.inl ⟨rfl,rfl⟩) (by rw[jf];rfl) H S Kp.refl (fun _ h=>h) ?_ fun b z=>.inl z
  rw[jf]
  exact hD
 ·refine .inr ⟨x,rfl,?_⟩
  obtain⟨dx,gr,dg,hl,md,wl,gd,kC,NX,NY,lv,aZ,wa,ws,G,m,D⟩:=hI
  have jf:=dU hZ (show Rc31.does st (.read at_ most)=(st,{value:=(((mem.drop at_).take (Rc31.room_ most)).length:Nat),numbers:=Rc31.codes ((mem.drop at_).take (Rc31.room_ most))}) by simp only[Rc31.does,NC])
  rw[jf]at k
  have hdm:=nj D.dist
  have hlm:∀p∈i.mends,p+8≤m.length:=fun p hp=>by rw[D.LW];exact D.Y3 p (List.mem_append_left _ hp)
  have Wq:=D.Z3
  refine⟨x,dx,_,rfl,D.ob,D0,_,rfl,cl,_,_,V.int (at_:Int),rfl,rfl,bO.of oJ,at_of (j:=1) rfl rfl,_,rfl,cl,_,_,V.int most,rfl,rfl,bO.of oJ,at_of (j:=2) rfl rfl,x,dx,hl,md,gr,dg,_,_,aZ,m,i.mends,at_,base,i.told.base,(Rc31.W64+base-i.told.base)%Rc31.W64,most,rfl,D.ob,AQ,AN,vp,D.YZ,lD,vq,sk,D.Y0,D.Y1,D.mdk,hdm,hlm,by rw[D.LW];exact Wq,fun q=>Y7 D.Wg D.kB,by omega,fun fl H1 SE nfl s1=>?_⟩
  rw[←D.Tr]at SE
  generalize hL:(mem.drop at_).take (Rc31.room_ most)=L at *
  have Qv:L.length≤Rc31.room_ most:=by rw[←hL,List.length_take];exact Nat.min_le_left _ _
  have ai5:L.length≤4194304:=by
   have:mem.length=m.length:=by rw[D.Tr];exact(MX.fK i.mends m _ hdm hlm).1
   have h5:L.length≤mem.length:=by rw[←hL,List.length_take,List.length_drop];omega
   rw[this,D.LW]at h5
   omega
  refine⟨_,rfl,fl,_,rfl,.inl (bO.of SE),(by show 1≤sizeLine;decide),fun z1 nz1=>?_⟩
  rw[br]
  have s2:ax H1 (upd H1 z1 (.lst [.int (L.length:Int)])):=ax.upd nz1
  have YV:upd H1 z1 (.lst [.int (L.length:Int)]) z1=_:=af
  generalize upd H1 z1 (.lst [.int (L.length:Int)])=H2 at *
  have xq:=s1.trans s2
  refine⟨_,rfl,z1,fl,_,_,rfl,rfl,YV,s2 _ _ SE,by rw[br];show 1+L.length≤sizeLine;omega,fun tl we=>?_⟩
  have LD:=xq.trans (ax.upd (o:=.lst ([V.int (L.length:Int)]++bv L)) we)
  refine k tl _ S ?_ (xq.free we) ?_ (Kp.same LD) (qp.same hD LD) (fun z=>h1 tl z (xq.free we)) (fun y z=>.inl z)
  ·rw[af,←NR]
   unfold nv
   rw[List.map_cons,List.map_map]
   rfl
  ·rw[aft,List.length_cons,List.length_map]
   unfold Rc31.codes
   rw[List.length_map]
   unfold Rc31.room_ at Qv
   rw[show((Rc31.MOST:Nat):Int)=4194304 from rfl]at Qv
   split at Qv
   ·rename_i q
    rw[if_pos q]
    omega
   ·rename_i q
    rw[if_neg q]
    omega
theorem Y9 (T:Tx g.K g.mg a):Pr g 2 a.find ["desk","call"] (WH a (di a) 4):=by
 refine Pr.on T.UG Xt fun cF A outer s H vs Q E hr h=>?_
 obtain⟨d,cl,S,st,cc,l,t,rfl,hD,oJ,nS,ah,xu,hi,k,kE⟩:=h
 refine⟨_,ag (aS (cv (aa ak (aa (cK (a6 (pv 0) (gq T) T.jj T.cN au hr (by decide)) (wm T) T.a9 T.mK au hr (by decide) (aa (wu xw (by rfl) T.Ko PyProof.Rows.boot_tuple (aa (jH mX (pv 1) (gV ak) Ez) ai)) ai)) ai)))),?_⟩
 obtain⟨r,rfl⟩:=Wj ah hi rfl
 have pN:((r.all (fun(z:Int)=>Rc31Neutral.natural z 8)&&Rc31Neutral.long r (r.length:Int) 1 255)&&Rc31Neutral.whole32 (r.length:Int))=true:=xu
 simp only[Bool.and_eq_true]at pN
 obtain⟨⟨hby,VU⟩,_⟩:=pN
 have hlen:r.length≤255:=by
  unfold Rc31Neutral.long at VU
  have VU:=of_decide_eq_true VU
  split at VU<;>omega
 have ebv:=N3 hby
 have ai2:(Rc31Neutral.bytesOf r).length=r.length:=by unfold Rc31Neutral.bytesOf;rw[List.length_map]
 have hZ:Rc31Neutral.callOf (PyRc31.whole [[((4:Nat):Int)],r])=some (.find (Rc31Neutral.bytesOf r) (r.length:Int)):=rfl
 have acA:H cl=some (.lst (V.int 4::V.int (r.length:Int)::r.map V.int)):=oJ
 generalize hb:Rc31Neutral.bytesOf r=b at *
 obtain⟨dd,v,h3,h2,h1,h4⟩:=rl hD
 refine⟨_,rfl,d,dd,_,rfl,h3,cB,d,dd,v,rfl,h3,?_⟩
 rcases h4 with⟨zJ,rfl⟩|⟨i,base,mem,x,NC,rfl,WJ,hI⟩
 ·refine .inl ⟨rfl,?_⟩
  have jf:=dU hZ (show Rc31.does st (.find b (r.length:Int))=(st,Rc31.noImage) by simp only[Rc31.does,zJ])
  refine kE a.cn (-4) (.inl ⟨rfl,rfl⟩) (by rw[jf];rfl) H S Kp.refl (fun _ h=>h) ?_ fun b z=>.inl z
  rw[jf]
  exact hD
 ·refine .inr ⟨x,rfl,?_⟩
  obtain⟨dx,gr,dg,hl,md,wl,gd,kC,NX,NY,lv,aZ,wa,ws,G,m,D⟩:=hI
  refine⟨x,dx,_,rfl,D.ob,sm,_,rfl,_,rfl,cl,_,rfl,bO.of acA,fun f nf=>?_⟩
  rw[RB,ebv]
  have s1:ax H (upd H f (.lst (bv b))):=ax.upd nf
  have N4:upd H f (.lst (bv b)) f=_:=af
  generalize upd H f (.lst (bv b))=H1 at *
  refine⟨f,_,rfl,.inl ⟨bO.of N4,fun nb nnb=>?_⟩⟩
  have s2:ax H1 (upd H1 nb (.tup (bv b))):=ax.upd nnb
  have hnb:upd H1 nb (.tup (bv b)) nb=_:=af
  generalize upd H1 nb (.tup (bv b))=H2 at *
  have xq:=s1.trans s2
  have Xf:=MX.find_perm (b:=b) D.gp D.gn
  refine⟨x,dx,gd,nb,_,b,G,rfl,xq _ _ D.ob,xV,xq _ _ D.Y2,hnb,fun zJ=>?_,fun z hz=>?_⟩
  ·have jf:=dU hZ (show Rc31.does st (.find b (r.length:Int))=(st,Rc31.refused) by
    simp only[Rc31.does,NC]
    split
    ·rfl
    ·rw[Xf,zJ])
   refine kE a.bI (-1) (.inr ⟨.inr (.inr (.inl rfl)),rfl⟩) (by rw[jf];rfl) H2 S (Kp.same xq) (tm xq) ?_ fun b z=>.inl z
   rw[jf]
   exact qp.same hD xq
  ·have hzG:i.gives.find? (fun x=>x.1==b)=some z:=by rw[Xf];exact hz
   have hzm:z∈i.gives:=List.mem_of_find?_eq_some hzG
   have hz0:z.1=b:=by simpa using List.find?_some hzG
   have Hc:b≠[]:=by rw[←hz0];exact D.g0 z hzm
   have aoC:0<b.length:=List.length_pos_iff.mpr Hc
   have jf:=dU hZ (show Rc31.does st (.find b (r.length:Int))=(st,{value:=0,numbers:=[z.2]}) by
    simp only[Rc31.does,NC]
    rw[if_neg (by omega),hzG])
   rw[jf]at k
   refine⟨(by show 2≤sizeLine;decide),fun tl we=>?_⟩
   have LD:=xq.trans (ax.upd (o:=.lst [.int 0,.int (z.2:Int)]) we)
   exact k tl _ S (by rw[af];rfl) (xq.free we) (by have:=MX.kA (PyRc31.whole [[((4:Nat):Int)],r]);show(2:Int)≤_;omega) (Kp.same LD) (qp.same hD LD) (fun z=>h1 tl z (xq.free we)) (fun y z=>.inl z)
end
end MI
namespace MI
open PySem L2
section
variable {g:Gm} {a:Ad}
theorem acq.wt {H:Hp} {S:Addr→Prop} {x:Addr} {i:Rc31.Image} {base:Nat} {mem:List UInt8} {dx gr dg hl md wl gd kC:Addr} {NX NY:V} {lv:List V} {aZ:List (Key×V)} {wa:List Addr} {ws:List Wn} {G:List (List UInt8×Nat)} {m:List UInt8} (D:acq a.toAd0 H S x i base mem dx gr dg hl md wl gd kC NX NY lv aZ wa ws G m) :
 DG a H x dx wl (cJ (.ref gr) (.int (base:Int)) (.int ((i.told.entry.getD 0:Nat):Int)) (.ref hl) (.ref md) (.ref wl) (.ref gd)) wa ws i.told S hl:=⟨D.ob,FK,D.Z2,D.pr,D.tok,D.wok⟩
theorem JS {i:Rc31.Image} {ws:List Wn} (e:i.wants=ws.flatMap eW) {k:Int} (h:¬(0≤k∧k<((ws.flatMap eW).length:Int))):Rc31.wantAt i k=none:=by
 unfold Rc31.wantAt
 split
 ·rfl
 ·rw[e]
  exact List.getElem?_eq_none (by omega)
theorem Ha {i:Rc31.Image} {ws:List Wn} (e:i.wants=ws.flatMap eW) {k:Int} {w:Rc31.Want} (h0:0≤k) (h:(ws.flatMap eW)[k.toNat]?=some w):Rc31.wantAt i k=some w:=by
 unfold Rc31.wantAt
 rw[if_neg (by omega),e]
 exact h
theorem acC (n:Nat) (l:List Nat):nv (n::l)=((n:Int)::l.map fun(b:Nat)=>(b:Int)).map V.int:=by
 unfold nv
 rw[List.map_cons,List.map_cons,List.map_map]
 rfl
theorem Za (T:Tx g.K g.mg a):Pr g 5 a.want ["desk","call"] (WH a (di a) 5):=by
 refine Pr.on T.UH Xu fun cF A outer s H vs Q E hr h=>?_
 obtain⟨d,cl,S,st,cc,l,t,rfl,hD,oJ,nS,ah,xu,hi,k,kE⟩:=h
 refine⟨_,ag (aS (cK (a6 (pv 0) (gq T) T.jj T.cN au hr (by decide)) (wj T) T.a9 T.mL au hr (by decide) (aa (fL cG (pv 1) ak (fun _ _=>rfl)) ai))),?_⟩
 obtain⟨xs,rfl,hx⟩:=rj ah hi (n:=2) rfl
 obtain⟨kk,rfl⟩:=afq hx
 have hZ:Rc31Neutral.callOf (PyRc31.whole [[((5:Nat):Int),kk]])=some (.want kk):=rfl
 obtain⟨dd,v,h3,h2,h1,h4⟩:=rl hD
 refine⟨_,rfl,d,dd,_,rfl,h3,cB,d,dd,v,rfl,h3,?_⟩
 rcases h4 with⟨zJ,rfl⟩|⟨i,base,mem,x,NC,rfl,WJ,hI⟩
 ·refine .inl ⟨rfl,?_⟩
  have jf:=dU hZ (show Rc31.does st (.want kk)=(st,Rc31.noImage) by simp only[Rc31.does,zJ])
  refine kE a.cn (-4) (.inl ⟨rfl,rfl⟩) (by rw[jf];rfl) H S Kp.refl (fun _ h=>h) ?_ fun b z=>.inl z
  rw[jf]
  exact hD
 ·refine .inr ⟨x,rfl,?_⟩
  obtain⟨dx,gr,dg,hl,md,wl,gd,kC,NX,NY,lv,aZ,wa,ws,G,m,D⟩:=hI
  refine⟨x,dx,_,rfl,D.ob,so,_,rfl,cl,_,_,V.int kk,rfl,rfl,bO.of oJ,at_of (j:=1) rfl rfl,x,dx,wl,_,wa,ws,i.told,S,hl,kk,rfl,D.wt,kf,D.libs,fun zJ H1 s1=>?_,fun w tl H1 h0 hw hwn ZP we s1=>?_⟩
  ·have jf:=dU hZ (show Rc31.does st (.want kk)=(st,Rc31.refused) by simp only[Rc31.does,NC];rw[JS D.wn zJ])
   refine kE a.bL (-1) (.inr ⟨.inr (.inr (.inr rfl)),rfl⟩) (by rw[jf];rfl) H1 S (Kp.same s1) (tm s1) ?_ fun b z=>.inl z
   rw[jf]
   exact qp.same hD s1
  ·have jf:=dU hZ (show Rc31.does st (.want kk)=(st,{value:=(w.name.length:Nat),numbers:=w.word::w.library::w.plus::(Rc31.padded 255 (i.told.libraries.getD (w.library-1) [])++Rc31.padded 255 w.name)}) by simp only[Rc31.does,NC];rw[Ha D.wn h0 hw])
   rw[jf]at k
   have NV:(i.told.libraries.getD (w.library-1) []).length≤255:=by
    rw[List.getD_eq_getElem?_getD]
    cases hg:i.told.libraries[w.library-1]? with
    |none=>exact Nat.zero_le _
    |some l=>exact D.libs l (List.mem_of_getElem? hg)
   refine k tl H1 S ?_ we ?_ (Kp.same s1) (qp.same hD s1) (fun z=>h1 tl z we) (fun y z=>.inl z)
   ·exact ZP.trans (congrArg (fun q=>some (HO.lst q)) (acC _ _))
   ·have:=MX.kA (PyRc31.whole [[((5:Nat):Int),kk]])
    simp only[List.length_cons,List.length_map,List.length_append,oH NV,oH hwn]
    omega
theorem Wr {a b:List Nat} (h:Rc31.distant (a++b)=true) {p:Nat} (hp:p∈b):∀i∈a,p+8≤i∨i+8≤p:=by
 intro i hi
 have:=(List.pairwise_append.mp ((MX.dt _).mp h)).2.2 i hi p hp
 omega
theorem Zb (T:Tx g.K g.mg a):Pr g 5 a.fill ["desk","call"] (WH a (di a) 6):=by
 refine Pr.on T.UI Xv fun cF A outer s H vs Q E hr h=>?_
 obtain⟨d,cl,S,st,cc,l,t,rfl,hD,oJ,nS,ah,xu,hi,k,kE⟩:=h
 refine⟨_,ae (aR (cK (a6 (pv 0) (gq T) T.jj T.cN au hr (by decide)) (IH T) T.a9 T.AF au hr (by decide) (aa (fL cG (pv 1) ak (fun _ _=>rfl)) (aa (fL cG (pv 1) ak (fun _ _=>rfl)) ai))))
  (ag (aS (cv (aa ak ai)))),?_⟩
 obtain⟨xs,rfl,hx⟩:=rj ah hi (n:=3) rfl
 obtain⟨kk,x1,rfl⟩:=afr hx
 have pN:(Rc31Neutral.whole32 kk&&Rc31Neutral.natural x1 64)=true:=xu
 simp only[Bool.and_eq_true]at pN
 have hn:=zG pN.2
 obtain⟨v1,rfl⟩:∃b:Nat,x1=(b:Int):=⟨x1.toNat,by omega⟩
 have hZ:Rc31Neutral.callOf (PyRc31.whole [[((6:Nat):Int),kk,(v1:Int)]])=some (.fill kk v1):=rfl
 obtain⟨dd,v,h3,h2,h1,h4⟩:=rl hD
 refine⟨_,rfl,d,dd,_,rfl,h3,cB,d,dd,v,rfl,h3,?_⟩
 rcases h4 with⟨zJ,rfl⟩|⟨i,base,mem,x,NC,rfl,WJ,hI⟩
 ·refine .inl ⟨rfl,?_⟩
  have jf:=dU hZ (show Rc31.does st (.fill kk v1)=(st,Rc31.noImage) by simp only[Rc31.does,zJ])
  refine kE a.cn (-4) (.inl ⟨rfl,rfl⟩) (by rw[jf];rfl) H S Kp.refl (fun _ h=>h) ?_ fun b z=>.inl z
  rw[jf]
  exact hD
 ·refine .inr ⟨x,rfl,?_⟩
  obtain⟨dx,gr,dg,hl,md,wl,gd,kC,NX,NY,lv,aZ,wa,ws,G,m,D⟩:=hI
  have Wq:=D.Z3
  have QM:∀w∈ws.flatMap eW,w.word+8≤m.length:=fun w hw=>by
   rw[D.LW]
   exact D.Y3 _ (List.mem_append_right _ (by rw[D.wn];exact List.mem_map.mpr ⟨w,hw,rfl⟩))
  refine⟨x,dx,_,rfl,D.ob,DZ,_,rfl,cl,_,_,V.int kk,rfl,rfl,bO.of oJ,at_of (j:=1) rfl rfl,_,rfl,cl,_,_,V.int (v1:Int),rfl,rfl,bO.of oJ,at_of (j:=2) rfl rfl,x,dx,wl,_,wa,ws,i.told,S,hl,kk,v1,m,rfl,D.wt,kf,AQ,D.Y0,by rw[D.LW];exact Wq,QM,fun zJ H1 s1=>?_,fun w H1 h0 hw hH1 k1=>?_⟩
  ·have jf:=dU hZ (show Rc31.does st (.fill kk v1)=(st,Rc31.refused) by simp only[Rc31.does,NC];rw[JS D.wn zJ])
   refine kE a.bL (-1) (.inr ⟨.inr (.inr (.inr rfl)),rfl⟩) (by rw[jf];rfl) H1 S (Kp.same s1) (tm s1) ?_ fun b z=>.inl z
   rw[jf]
   exact qp.same hD s1
  ·have jf:=dU hZ (show Rc31.does st (.fill kk v1)=({image:=some (i,base,Rc31.put mem w.word (Rc31.le 8 ((v1+w.plus)%Rc31.W64)))},{value:=0}) by simp only[Rc31.does,NC];rw[Ha D.wn h0 hw])
   rw[jf]at k
   obtain⟨n1,n2,n3,n4,n5,n6,n7⟩:=D.ns
   obtain⟨e1,e2,e3⟩:=D.ne
   have hwm:w∈ws.flatMap eW:=List.mem_of_getElem? hw
   have hp8:=QM w hwm
   have hwi:w.word∈i.wants.map fun w=>w.word:=by rw[D.wn];exact List.mem_map.mpr ⟨w,hwm,rfl⟩
   refine⟨(by show 1≤sizeLine;decide),fun tl we=>?_⟩
   have Qt:∀y,S y→H1 y≠none:=fun y hy=>by
    by_cases q:y=hl
    ·rw[q,hH1];intro z;cases z
    ·cases e:H y with
     |none=>exact absurd e (h1 y hy)
     |some o=>rw[k1 y o e q];intro z;cases z
   have G9:H tl=none:=by
    cases e:H tl with
    |none=>rfl
    |some o =>
     by_cases q:tl=hl
     ·rw[q,hH1]at we;cases we
     ·rw[k1 tl o e q]at we;cases we
   have Qu:∀{y:Addr} {o:HO},H y=some o→(∀xs,o≠.lst xs)→H1 y=some o:=fun{y o} e n=>k1 y o e fun z=>by
    rw[show y=hl from z,D.Y0]at e
    cases e
    exact n _ rfl
   have D1:qp a H1 d S {image:=some (i,base,Rc31.put mem w.word (Rc31.le 8 ((v1+w.plus)%Rc31.W64)))}:=by
    refine⟨Qt,h2,dd,.ref x,Qu h3 (fun _ z=>by cases z),.inr ⟨i,base,_,x,rfl,rfl,WJ,dx,gr,dg,hl,md,wl,gd,kC,NX,NY,lv,aZ,wa,ws,G,Rc31.put m w.word (Rc31.le 8 ((v1+w.plus)%Rc31.W64)),?_⟩⟩
    have afu:(Rc31.put m w.word (Rc31.le 8 ((v1+w.plus)%Rc31.W64))).length=m.length:=MX.sY (by rw[MX.kz];exact hp8)
    refine{D with ob:=Qu D.ob (fun _ z=>by cases z),YZ:=Qu D.YZ (fun _ z=>by cases z),NZ:=k1 _ _ D.NZ e2,Y0:=hH1,Y1:=Qu D.Y1 (fun _ z=>by cases z),Z2:=k1 _ _ D.Z2 e3,Y2:=Qu D.Y2 (fun _ z=>by cases z),pr:=?_,LW:=by rw[afu];exact D.LW,Tr:=?_}
    ·refine Paired.ua D.pr fun y u q=>?_
     obtain⟨Hg,xr,dr,nl,ln,w1,w2,w3,w4,wN,z1,z2,z3,z4⟩:=q
     exact⟨Hg,xr,dr,nl,ln,Qu w1 (fun _ z=>by cases z),Qu w2 (fun _ z=>by cases z),k1 _ _ w3 z3,k1 _ _ w4 z4,wN,z1,z2,z3,z4⟩
    ·rw[D.Tr]
     exact(MX.Qh (nj D.dist) (fun p hp=>by rw[D.LW];exact D.Y3 p (List.mem_append_left _ hp)) hp8 (Wr D.dist hwi)).symm
   have Wo:¬S tl:=fun z=>h1 tl z G9
   refine k tl _ S (by rw[af];rfl) G9 (by have:=MX.kA (PyRc31.whole [[((6:Nat):Int),kk,(v1:Int)]]);show(1:Int)≤_;omega) (fun y o e n=>?_) (qp.keep D1 fun y hy=>?_) Wo (fun y z=>.inl z)
   ·rw[aj (ao e G9)]
    exact k1 y o e fun z=>n (by rw[show y=hl from z];exact n4)
   ·rw[aj (fun z=>Wo (by rw[←z];exact hy))]
theorem Ws (T:Tx g.K g.mg a):Pr g 2 a.about ["desk","call"] (WH a (di a) 7):=by
 refine Pr.on T.QV UD fun cF A outer s H vs Q E hr h=>?_
 obtain⟨d,cl,S,st,cc,l,t,rfl,hD,oJ,nS,ah,xu,hi,k,kE⟩:=h
 refine⟨_,ag (aS (a6 (a6 (pv 0) (gq T) T.jj T.cN au hr (by decide)) (G5 T) T.a9 T.xQ au hr (by decide))),?_⟩
 obtain⟨xs,rfl,hx⟩:=rj ah hi (n:=1) rfl
 obtain rfl:=len0 hx
 have hZ:Rc31Neutral.callOf (PyRc31.whole [[((7:Nat):Int)]])=some .about:=rfl
 obtain⟨dd,v,h3,h2,h1,h4⟩:=rl hD
 refine⟨_,rfl,d,dd,_,rfl,h3,cB,d,dd,v,rfl,h3,?_⟩
 rcases h4 with⟨zJ,rfl⟩|⟨i,base,mem,x,NC,rfl,WJ,hI⟩
 ·refine .inl ⟨rfl,?_⟩
  have jf:=dU hZ (show Rc31.does st .about=(st,Rc31.noImage) by simp only[Rc31.does,zJ])
  refine kE a.cn (-4) (.inl ⟨rfl,rfl⟩) (by rw[jf];rfl) H S Kp.refl (fun _ h=>h) ?_ fun b z=>.inl z
  rw[jf]
  exact hD
 ·refine .inr ⟨x,rfl,?_⟩
  obtain⟨dx,gr,dg,hl,md,wl,gd,kC,NX,NY,lv,aZ,wa,ws,G,m,D⟩:=hI
  have jf:=dU hZ (show Rc31.does st .about=(st,{value:=(i.told.laid.length:Nat),numbers:=[base,i.told.size,i.told.entry.getD 0,i.mends.length,i.wants.length,i.gives.length]}) by simp only[Rc31.does,NC])
  rw[jf]at k
  have zI:=D.aiM
  refine⟨x,dx,_,rfl,D.ob,B9,x,dx,wl,gr,dg,kC,md,gd,_,_,wa,ws,i.told,S,hl,lv,aZ,G,_,_,_,rfl,D.wt,by omega,vp,AN,AO,vq,xV,D.YZ,xU,jk,D.NZ,D.Y1,D.Y2,fun tl H1 ZP we s1=>?_⟩
  refine k tl H1 S ?_ we (by have:=MX.kA (PyRc31.whole [[((7:Nat):Int)]]);show(7:Int)≤_;omega) (Kp.same s1) (qp.same hD s1) (fun z=>h1 tl z we) (fun y z=>.inl z)
  rw[ZP,D.lvl,D.mdl,←D.wn,←D.gp.length_eq]
  rfl
theorem ok_all (T:Tx g.K g.mg a):Pr g 14 a.answer ["desk","call"] (Bv a (di a)):=by
 refine Tc (n:=13) T (di a) [a.begin,a.qy,a.lay,a.read,a.find,a.want,a.fill,a.about] rfl T.QZ ?_
 intro i
 match i with
 |⟨0,_⟩=>exact(Wl T).mono (by decide)
 |⟨1,_⟩=>exact LX T
 |⟨2,_⟩=>exact(acB T).mono (by decide)
 |⟨3,_⟩=>exact(Y8 T).mono (by decide)
 |⟨4,_⟩=>exact(Y9 T).mono (by decide)
 |⟨5,_⟩=>exact(Za T).mono (by decide)
 |⟨6,_⟩=>exact(Zb T).mono (by decide)
 |⟨7,_⟩=>exact(Ws T).mono (by decide)
end
end MI
open PySem PySem.W PyProof.Rows
set_option maxRecDepth 100000 in
set_option maxHeartbeats 0 in
theorem PySem.Challenge.cw_mendedimage_s01_answers_holds : PySem.Challenge.rw_mendedimage_s01_answers.Holds := by
 w_on;k_headS;(case hw=>exact⟨[.list []],by decide +kernel,by decide +kernel⟩)
 k_fillS
 refine MI.V1 (n:=14) (by decide) rfl rfl ⟨rfl,by decide,by decide⟩ (fun w h Y=>kIn_of Y) ?TX ?D ?OA
 case TX =>
  intro w mg h KX G
  refine' MI.adZ KX G ..
  all_goals try first|k_is|(refine' MI.fnAt ?l ?c ?k;(case l=>k_is);(case c=>k_is);(case k=>k_is))|k_exc|kts_exm|decide
 case D=>exact MI.di
 case OA=>exact fun w mg base a T=>MI.ok_all (g:=⟨_,w,_,mg,base⟩) T
