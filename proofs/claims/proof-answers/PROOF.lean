import PyProof.Rows.All
import Wide.All
import OpenK.AllK
import Wide.FinOn
import PyProof.EqAt
import PyProof.EqKinds
import PyProof.TupleCall
import KE.BitLaws
import PySem.Challenge.RW_mendedimage_s01_answers
import Rc31Spec
import PyProof.Rows.SortShellAny
import PyProof.ListRange
import PyProof.Rows.TupAdd
import PyProof.LongRange
import PyRc31
import KE.OsGo
import Open.SpecLaws
import PyProof.ZipIter
import PyProof.AttrMissHeap
import KE.RegKTryMore
set_option Elab.async false
set_option linter.all false
set_option maxRecDepth 100000
set_option maxHeartbeats 4000000
open Option (map_eq_some_iff bind_some map isSome_map map_some map_eq_none_iff getD_none isSome_some)
open Nat (le_refl zero_le lt_of_le_of_lt lt_of_lt_of_le ne_of_lt le_trans le_of_lt succ_le_succ mod_lt le_of_eq lt_irrefl ne_of_gt lt_trans lt_succ_self not_lt zero_add le_add_right pow_succ min_eq_left mod_eq_of_lt lt_succ_of_lt add_mod succ_mul pow_zero mul_comm le_of_succ_le)
open List (length_map length_append map_append mem_cons map_cons length_cons size_toArray length_take mem_cons_self mem_cons_of_mem replicate append_assoc getElem?_map range length_drop map_map mem_append mem_append_right mem_map ext_getElem? mem_append_left append_nil length mem_of_getElem? mem_singleton getElem?_take drop_of_length_le getElem?_drop take_zero length_nil find?_cons take_length lookup_cons map_nil pairwise_cons take_of_length_le nodup_append getElem?_eq_getElem map_id all_cons replicate_succ mem_range map_congr_left nodup_cons mem_filter take_append_drop isEmpty_iff mem_filterMap any_cons take_succ flatMap_append Perm mem_of_find?_eq_some find?_some drop_eq_getElem_cons getElem?_eq_none length_range flatten_cons flatMap_cons forIn_nil drop_drop foldl length_replicate countP_cons all_eq_true Sublist zip_cons_cons sum_cons dropLast_concat_getLast filterMap_cons eq_nil_of_length_eq_zero of_mem_zip length_zip getElem?_append_left forIn_cons getElem?_append_right range_succ_eq_map filter_append)
open Bool (and_eq_true false_eq_true)
open UInt8 (ofNat toNat toNat_inj)
open Int (neg_mul toNat_natCast mul_add mul_nonneg natCast_add)
open Array (toList)
theorem oBb {α β}{o:Option α}{f:α→Option β}{b}(h:o.bind f=some b):∃a,o=some a∧f a=some b:=Option.bind_eq_some_iff.mp h
theorem oMm {α β}{o:Option α}{f:α→β}{b}(h:o.map f=some b):∃a,o=some a∧f a=b:=Option.map_eq_some_iff.mp h
theorem IN.{u} {c:Prop}{h:Decidable c}(n:¬c){α:Sort u}{t e:α}:ite c t e=e:=if_neg n
theorem iPp.{u} {c:Prop}{h:Decidable c}(n:c){α:Sort u}{t e:α}:ite c t e=t:=if_pos n
namespace L2
open PySem PySem.Spec PyProof.Rows
abbrev Key:=Sum Int Str
def De:Key→Value→Bool
 | .inl k,v=>Value.isInt k v
 | .inr x,v=>Value.isStrOf x v
def agC (w:World):Key→Int
 | .inl k=>hashInt k
 | .inr x=>hashStr w x
theorem fj:∀{k:Key} {v:Value},De k v=true→(∃i t,k=Sum.inl i∧v=Value.int i t)∨(∃x t,k=Sum.inr x∧v=Value.str x t)
 | .inl i,v,h=>by
  obtain⟨t,e⟩:=Value.isInt_shape (k:=i) (v:=v) h
  exact .inl ⟨i,t,rfl,e⟩
 | .inr x,v,h=>by
  obtain⟨t,e⟩:=Value.isStrOf_shape (x:=x) (v:=v) h
  exact .inr ⟨x,t,rfl,e⟩
theorem R5 (i:Int) (t:Tok):De (.inl i) (.int i t)=true:=by simp[De,Value.isInt]
theorem R6 (x:Str) (t:Tok):De (.inr x) (.str x t)=true:=by simp[De,Value.isStrOf]
theorem aag (a b:Int):decide ((Sum.inl a:Key)=Sum.inl b)=(a==b):=by
 by_cases e:a=b
 ·subst e;simp
 ·have h:¬(Sum.inl a:Key)=Sum.inl b:=fun q=>e (Sum.inl.inj q)
  rw[decide_eq_false h]
  exact(beq_eq_false_iff_ne.mpr e).symm
theorem aah (a b:Str):decide ((Sum.inr a:Key)=Sum.inr b)=decide (a=b):=by
 by_cases e:a=b
 ·subst e;simp
 ·have h:¬(Sum.inr a:Key)=Sum.inr b:=fun q=>e (Sum.inr.inj q)
  rw[decide_eq_false h,decide_eq_false e]
theorem aai (a:Int) (b:Str):decide ((Sum.inl a:Key)=Sum.inr b)=false:=decide_eq_false (fun q=>nomatch q)
theorem aaj (a:Str) (b:Int):decide ((Sum.inr a:Key)=Sum.inl b)=false:=decide_eq_false (fun q=>nomatch q)
def cp (prog:Program) (w:World):PySem.KeyKind prog w Key where
 is:=De
 hash:=agC w
 inj:=fun v a b ha hb=>by
  rcases fj ha with⟨i,t,rfl,rfl⟩|⟨x,t,rfl,rfl⟩
  ·rcases fj hb with⟨j,u,rfl,e⟩|⟨y,u,rfl,e⟩
   ·injection e with e1 _;rw[e1]
   ·exact nomatch e
  ·rcases fj hb with⟨j,u,rfl,e⟩|⟨y,u,rfl,e⟩
   ·exact nomatch e
   ·injection e with e1 _;rw[e1]
 byValue:=fun k v h=>by
  rcases fj h with⟨i,t,rfl,rfl⟩|⟨x,t,rfl,rfl⟩<;>rfl
 pyHash:=fun hv h=>by
  rcases fj hv with⟨i,t,rfl,rfl⟩|⟨x,t,rfl,rfl⟩
  ·exact wpAny_pyHash_int h
  ·exact wpAny_pyHash_str h
 eqBool:=fun hu hv h=>by
  rcases fj hu with⟨i,t,rfl,rfl⟩|⟨x,t,rfl,rfl⟩
  ·rcases fj hv with⟨j,u,rfl,rfl⟩|⟨y,u,rfl,rfl⟩
   ·rw[aag]at h;exact wpAny_eqBool_int h
   ·rw[aai]at h;exact SeqAt.EqAt.int_str i t y u _ _ _ _ h
  ·rcases fj hv with⟨j,u,rfl,rfl⟩|⟨y,u,rfl,rfl⟩
   ·rw[aaj]at h;exact SeqAt.EqAt.str_int x t j u _ _ _ _ h
   ·rw[aah]at h;exact wpAny_eqBool_str h
 «strs»:=fun k x t v h=>by
  rcases fj h with⟨i,u,rfl,e⟩|⟨y,u,rfl,e⟩
  ·exact nomatch e
  ·injection e with e1 _
   subst e1
   cases v<;>rfl
theorem Df (prog:Program) (w:World) (i:Int) (t:Tok):(cp prog w).is (.inl i) (.int i t)=true:=R5 i t
theorem Mx (prog:Program) (w:World) (x:Str) (t:Tok):(cp prog w).is (.inr x) (.str x t)=true:=R6 x t
inductive V where
 |dh|bl (b:Bool)|int (i:Int)|str (x:Str)|OK (b:Array UInt8)|flt (b:UInt64)|ref (a:Addr)|ty (n:String)
 deriving DecidableEq
def RelV:V→Value→Prop
 | .dh,u=>u=Value.none
 | .bl b,u=>u=Value.bool b
 | .int i,u=>∃t,u=Value.int i t
 | .str x,u=>∃t,u=Value.str x t
 | .OK b,u=>∃t,u=Value.bytes b t
 | .flt b,u=>∃t,u=Value.float b t
 | .ref a,u=>u=Value.ref a
 | .ty n,u=>u=Value.type n
abbrev Vals:List V→List Value→Prop:=Paired RelV
theorem Vals.length {xs:List V} {us:List Value} (r:Vals xs us):xs.length=us.length:=Paired.length r
theorem Vals.get:∀{xs:List V} {us:List Value} {i:Nat} {x:V},Vals xs us→xs[i]?=some x→∃u,us[i]?=some u∧RelV x u
 |_,_,_,_,.nil,e=>by simp at e
 |_,_,0,_,.cons r _,e=>by simp at e;subst e;exact⟨_,rfl,r⟩
 |_,_,i+1,x,.cons _ t,e=>by
  obtain⟨u,h1,h2⟩:=Vals.get (i:=i) (x:=x) t (by simpa using e)
  exact⟨u,by simpa using h1,h2⟩
theorem Vals.set {x:V} {u:Value} (r:RelV x u):∀{xs:List V} {us:List Value} (i:Nat),Vals xs us→Vals (xs.set i x) (us.set i u)
 |_,_,_,.nil=>.nil
 |_,_,0,.cons _ t=>.cons r t
 |_,_,i+1,.cons q t=>.cons q (Vals.set r i t)
theorem Vals.append:∀{xs ys:List V} {us ws:List Value},Vals xs us→Vals ys ws→Vals (xs++ys) (us++ws)
 |_,_,_,_,.nil,s=>s
 |_,_,_,_,.cons r t,s=>.cons r (Vals.append t s)
theorem Vals.take:∀{xs:List V} {us:List Value} (n:Nat),Vals xs us→Vals (xs.take n) (us.take n)
 |_,_,0,_=>.nil
 |_,_,_+1,.nil=>.nil
 |_,_,n+1,.cons r t=>.cons r (Vals.take n t)
theorem Vals.drop:∀{xs:List V} {us:List Value} (n:Nat),Vals xs us→Vals (xs.drop n) (us.drop n)
 |_,_,0,r=>r
 |_,_,_+1,.nil=>.nil
 |_,_,n+1,.cons _ t=>Vals.drop n t
def uc:Option V→Option Value→Prop
 |some v,some u=>RelV v u
 |none,none=>True
 |_,_=>False
def KV {κ:Type}:List (κ×V)→List (κ×Value)→Prop:=Paired fun(p:κ×V) (q:κ×Value)=>p.1=q.1∧RelV p.2 q.2
def kV:Key→V
 | .inl i=>.int i
 | .inr x=>.str x
inductive HO where
 |lst (xs:List V)
 |tup (xs:List V)
 |dK (aZ:List (Key×V))|dT (aZ:List (List Key×V))
 |set (S:Int→Bool) (n:Nat)
 |ins (C dx:Addr) (fs:List (Str×V))
 |own (x:Addr)
 |xd (fs:List (Str×V))
 |met (f x:Addr)
 |rng (lo hi:Int)
 |T7 (o:Obj) (u:HO)
 |Zi (ps:Array Value)
 |ext (φ:Heap→Prop)
abbrev Hp:=Addr→Option HO
def upd (H:Hp) (a:Addr) (o:HO):Hp:=fun b=>if b=a then some o else H b
theorem af {H:Hp} {a:Addr} {o:HO}:upd H a o a=some o:=by unfold upd;rw[iPp rfl]
theorem aj {H:Hp} {a b:Addr} {o:HO} (h:b≠a):upd H a o b=H b:=by unfold upd;rw[IN h]
theorem bN {H:Hp} {a:Addr} {o u:HO}:upd (upd H a o) a u=upd H a u:=by
 funext b;unfold upd;split<;>rfl
theorem cS {H:Hp} {a b:Addr} {o u:HO} (h:H a=some o) (h':H b=some u) (d:o≠u):a≠b:=by
 intro e;subst e;rw[h]at h';exact d (Option.some.inj h')
theorem aq {H:Hp} {a b:Addr} {o:HO} (h:H a=some o) (h':H b=none):a≠b:=by
 intro e;subst e;rw[h]at h';cases h'
section
variable (P:Program) (w:World)
def eZ (H:Hp) (h:Heap) (a:Addr):HO→Prop
 | .lst xs=>xs.length≤sizeLine∧∃(bu:List Value) (n:Nat),Vals xs bu∧h.get? a=some {cls:=.type "list",data:=.seq bu.toArray n}
 | .tup xs=>xs.length≤sizeLine∧∃bu:List Value,Vals xs bu∧IsTup h a bu.toArray
 | .dK aZ=>aZ.length≤sizeLine∧(a==sysModules)=false∧∃vs,KV aZ vs∧h.DictOf (cp P w) a vs
 | .dT aZ=>aZ.length≤sizeLine∧(a==sysModules)=false∧∃xs:List (List Key×Addr×Value),
  Paired (fun(p:List Key×V) (q:List Key×Addr×Value)=>p.1=q.1∧H q.2.1=some (.tup (p.1.map kV))∧RelV p.2 q.2.2) aZ xs ∧
  ∃o es ep,h.get? a=some o∧o.ExactDict∧o.data = .dict es ep∧es.toList=xs.map (entryOfKey (tupleKind (cp P w)))∧(xs.map (·.1)).Nodup
 | .set S n=>h.SetOf (intKind P w) a S n
 | .ins C dx fs=>H dx=some (.own a)∧fs.length≤1000∧dx≠a∧h.get? a=some (W.instObj C dx) ∧
  ∃mA,h.Ns1 dx mA∧(∀f,uc (fs.lookup f) (mA f))∧Within mA (fs.map (·.1))
 | .own _=>∃o,h.get? a=some o
 | .xd fs=>∃mA,h.Ns1 a mA∧∀f,uc (fs.lookup f) (mA f)
 | .rng lo hi=>∃t u v,h.get? a=some {cls:=.type "range",data:=.fields #[.int lo t,.int hi u,.int 1 v]}
 | .T7 o u=>h.get? a=some o∧eZ H h a u
 | .Zi ps=>h.get? a=some {cls:=.none,data:=.fields ps}
 | .met f x=>h.get? a=some (W.methodObj (.ref f) (.ref x))
 | .ext φ=>φ h∧(∃o,h.get? a=some o)∧∀h1 h2:Heap,φ h1→(∀o,h1.get? a=some o→h2.get? a=some o)→φ h2
def t9 (H:Hp) (h:Heap):Prop:=∀a o,H a=some o→eZ P w H h a o
end
section
variable {P:Program} {w:World} {H H':Hp} {h h':Heap} {a:Addr} {o:HO}
theorem eZ.lt (x:eZ P w H h a o):a<h.objs.size:=by
 cases o with
 |lst xs=>obtain⟨_,_,_,_,e⟩:=x;exact Heap.lt_size e
 |tup xs=>obtain⟨_,_,_,p⟩:=x;exact p.lt
 |dK aZ=>obtain⟨_,_,_,_,o,_,_,e,_⟩:=x;exact Heap.lt_size e
 |dT aZ=>obtain⟨_,_,_,_,o,_,_,e,_⟩:=x;exact Heap.lt_size e
 |set S n=>obtain⟨o,_,_,_,e,_⟩:=x;exact Heap.lt_size e
 |ins C dx fs=>obtain⟨_,_,_,e,_⟩:=x;exact Heap.lt_size e
 |own y=>obtain⟨_,e⟩:=x;exact Heap.lt_size e
 |xd fs=>obtain⟨_,⟨_,_,_,e,_⟩,_⟩:=x;exact Heap.lt_size e
 |rng lo hi=>obtain⟨_,_,_,e⟩:=x;exact Heap.lt_size e
 |T7 ob u=>obtain⟨e,_⟩:=x;exact Heap.lt_size e
 |Zi ps=>exact Heap.lt_size (show h.get? a=some _ from x)
 |met f y=>exact Heap.lt_size (show h.get? a=some _ from x)
 |ext φ=>obtain⟨_,⟨_,e⟩,_⟩:=x;exact Heap.lt_size e
theorem Paired.ud {α β:Type} {F G:α→β→Prop}:∀{l₁:List α} {l₂:List β},Paired F l₁ l₂→(∀a b,F a b→G a b)→Paired G l₁ l₂
 |_,_,.nil,_=>.nil
 |_,_,.cons r t,f=>.cons (f _ _ r) (Paired.ud t f)
theorem eZ.My (x:eZ P w H h a o) (k:∀b u,(b=a∨H b=some (.own a))→h.get? b=some u→h'.get? b=some u)
 (ho:∀b,H b=some (.own a)→H' b=some (.own a)) (ht:∀b xs,H b=some (.tup xs)→H' b=some (.tup xs)):eZ P w H' h' a o:=by
 induction o with
 |lst xs=>obtain⟨z,bu,n,r,e⟩:=x;exact⟨z,bu,n,r,k _ _ (.inl rfl) e⟩
 |tup xs=>obtain⟨z,bu,r,ob,e,c⟩:=x;exact⟨z,bu,r,ob,k _ _ (.inl rfl) e,c⟩
 |dK aZ=>obtain⟨z,y,vs,r,ob,es,ep,e,c⟩:=x;exact⟨z,y,vs,r,ob,es,ep,k _ _ (.inl rfl) e,c⟩
 |dT aZ =>
  obtain⟨z,y,xs,r,ob,es,ep,e,c⟩:=x
  exact⟨z,y,xs,Paired.ud r fun p q z=>⟨z.1,ht _ _ z.2.1,z.2.2⟩,ob,es,ep,k _ _ (.inl rfl) e,c⟩
 |set S n=>obtain⟨ob,es,ep,t,e,c⟩:=x;exact⟨ob,es,ep,t,k _ _ (.inl rfl) e,c⟩
 |ins C dx fs =>
  obtain⟨d,z,ne,e,mA,⟨od,es,ep,e2,c⟩,r⟩:=x
  exact⟨ho _ d,z,ne,k _ _ (.inl rfl) e,mA,⟨od,es,ep,k _ _ (.inr d) e2,c⟩,r⟩
 |own y=>obtain⟨ob,e⟩:=x;exact⟨ob,k _ _ (.inl rfl) e⟩
 |xd fs=>obtain⟨mA,⟨od,es,ep,e,c⟩,r⟩:=x;exact⟨mA,⟨od,es,ep,k _ _ (.inl rfl) e,c⟩,r⟩
 |rng lo hi=>obtain⟨t,u,v,e⟩:=x;exact⟨t,u,v,k _ _ (.inl rfl) e⟩
 |T7 ob u ih=>obtain⟨e,q⟩:=x;exact⟨k _ _ (.inl rfl) e,ih q⟩
 |Zi ps =>
  have e:h.get? a=some {cls:=.none,data:=.fields ps}:=x
  show h'.get? a=some {cls:=.none,data:=.fields ps}
  exact k a _ (.inl rfl) e
 |met f y =>
  have e:h.get? a=some (W.methodObj (.ref f) (.ref y)):=x
  show h'.get? a=some (W.methodObj (.ref f) (.ref y))
  exact k a _ (.inl rfl) e
 |ext φ=>obtain⟨p,⟨o,e⟩,st⟩:=x;exact⟨st _ _ p fun o q=>k _ _ (.inl rfl) q,⟨o,k _ _ (.inl rfl) e⟩,st⟩
theorem t9.lt (x:t9 P w H h) (e:H a=some o):a<h.objs.size:=(x a o e).lt
theorem t9.fresh (x:t9 P w H h) (e:h.objs.size≤a):H a=none:=by
 cases q:H a with
 |none=>rfl
 |some u=>exact absurd (lt_of_lt_of_le (x.lt q) e) (lt_irrefl _)
theorem t9.kept (x:t9 P w H h) (k:∀b u,h.get? b=some u→h'.get? b=some u):t9 P w H h':=fun a o e =>
 (x a o e).My (fun b u _ q=>k b u q) (fun _ q=>q) fun _ _ q=>q
theorem t9.laid (x:t9 P w H h) (k:∀b u,h.get? b=some u→h'.get? b=some u) (hp:h.objs.size≤a) (new:eZ P w (upd H a o) h' a o):t9 P w (upd H a o) h':=fun b u e=>by
 have hn:=x.fresh hp
 by_cases hb:b=a
 ·subst hb;rw[af]at e;cases e;exact new
 ·rw[aj hb]at e
  exact(x b u e).My (fun c v _ q=>k c v q) (fun c q=>by rw[aj (aq q hn)];exact q) fun c xs q=>by rw[aj (aq q hn)];exact q
end
def Rd (H:Hp) (a:Addr) (u:HO):Prop:=H a=some u∨∃o,H a=some (.T7 o u)
theorem Rd.ok {P:Program} {w:World} {H:Hp} {h:Heap} {a:Addr} {u:HO} (r:Rd H a u) (x:t9 P w H h):eZ P w H h a u:=by
 rcases r with r|⟨o,r⟩
 ·exact x a u r
 ·obtain⟨_,q⟩:=x a _ r
  exact q
def Mut:Option HO→Prop
 |some (.lst _)=>True
 |some (.dK _)=>True
 |some (.dT _)=>True
 |some (.set _ _)=>True
 |some (.ins _ _ _)=>True
 |some (.ext _)=>True
 |_=>False
section
variable {P:Program} {w:World} {H:Hp} {h h':Heap} {x e:Addr} {o':HO}
theorem t9.write (ok:t9 P w H h) (mu:Mut (H x)) (he:e=x∨H e=some (.own x)) (k:∀b u,b≠e→h.get? b=some u→h'.get? b=some u) (heo:∃u,h'.get? e=some u)
 (new:eZ P w (upd H x o') h' x o'):t9 P w (upd H x o') h':=fun b u q=>by
 have adb:∀c y,H c=some (.own y)→c≠x:=fun c y r z=>by subst z;rw[r]at mu;exact mu
 have agD:∀c xs,H c=some (.tup xs)→c≠x:=fun c xs r z=>by subst z;rw[r]at mu;exact mu
 by_cases hb:b=x
 ·subst hb;rw[af]at q;cases q;exact new
 ·rw[aj hb]at q
  by_cases hbe:b=e
  ·have q':H b=some (.own x):=by
    rcases he with z|z
    ·exact absurd (hbe.trans z) hb
    ·rw[hbe];exact z
   rw[q]at q';cases q'
   obtain⟨v,hv⟩:=heo
   exact⟨v,by rw[hbe];exact hv⟩
  ·refine(ok b u q).My (fun c v hc r=>k c v ?_ r) (fun c r=>by rw[aj (adb c b r)];exact r) fun c xs r=>by rw[aj (agD c xs r)];exact r
   rcases hc with rfl|hc
   ·exact hbe
   ·rintro rfl
    rcases he with z|z
    ·exact adb c b hc z
    ·rw[hc]at z;cases z;exact hb rfl
end
structure Un (fs ex:List Addr) (H H':Hp) (h h':Heap):Prop where
 keep:∀b o,h.get? b=some o→H b=none→b∉fs→b∉ex→h'.get? b=some o
 slot:∀b o,h.get? b=some o→H b=none→b∈fs→b∉ex→∃sl,h'.get? b=some {o with slots:=sl}
 free:∀b o,h.get? b=some o→H b=none→b∉ex→H' b=none
 there:∀b o,h.get? b=some o→b∉ex→∃o',h'.get? b=some o'
 HV:∀b xs,H b=some (.tup xs)→H' b=some (.tup xs)
 Fh:∀b o u,H b=some (.T7 o u)→H' b=some (.T7 o u)
 HW:∀b ps,H b=some (.Zi ps)→∃more,H' b=some (.Zi (ps++more))
section
variable {fs fs' ex ex':List Addr} {H H1 H2:Hp} {h h1 h2 h':Heap} {a x e:Addr} {o:HO}
theorem Un.any (u:Un fs ex H H1 h h1) {b:Addr} {ob:Obj} (q:h.get? b=some ob) (n:H b=none) (hx:b∉ex):∃sl,h1.get? b=some {ob with slots:=sl}:=by
 by_cases hb:b∈fs
 ·exact u.slot b ob q n hb hx
 ·exact⟨ob.slots,u.keep b ob q n hb hx⟩
theorem Un.kept (k:∀b u,h.get? b=some u→h'.get? b=some u):Un fs ex H H h h' :=
 ⟨fun b ob q _ _ _=>k b ob q,fun b ob q _ _ _=>⟨ob.slots,k b ob q⟩,fun _ _ _ n _=>n,fun b ob q _=>⟨ob,k b ob q⟩,fun _ _ q=>q,fun _ _ _ q=>q,fun _ ps q=>⟨#[],by rw[q];simp⟩⟩
theorem Un.refl:Un fs ex H H h h:=Un.kept fun _ _ q=>q
theorem Un.laid (k:∀b u,h.get? b=some u→h'.get? b=some u) (hp:h.objs.size≤a) (hn:H a=none):Un fs ex H (upd H a o) h h' where
 keep:=fun b u q _ _ _=>k b u q
 slot:=fun b u q _ _ _=>⟨u.slots,k b u q⟩
 free:=fun b u q n _=>by rw[aj (ne_of_lt (lt_of_lt_of_le (Heap.lt_size q) hp))];exact n
 there:=fun b u q _=>⟨u,k b u q⟩
 HV:=fun b xs q=>by rw[aj (aq q hn)];exact q
 Fh:=fun b u xs q=>by rw[aj (aq q hn)];exact q
 HW:=fun b ps q=>⟨#[],by rw[aj (aq q hn),q];simp⟩
theorem Un.write (mu:Mut (H x)) (he:e=x∨H e=some (.own x)) (k:∀b u,b≠e→h.get? b=some u→h'.get? b=some u) (heo:∃u,h'.get? e=some u):Un fs ex H (upd H x o) h h':=by
 have hx:∀b,H b=none→b≠x:=fun b n z=>by subst z;rw[n]at mu;exact mu
 have hb:∀b,H b=none→b≠e:=fun b n z=>by
  subst z
  rcases he with r|r
  ·exact hx b n r
  ·rw[n]at r;cases r
 have hm:∀b u,H b=some u→¬Mut (some u)→b≠x:=fun b u q nm z=>by subst z;rw[q]at mu;exact nm mu
 refine⟨fun b u q n _ _=>k b u (hb b n) q,fun b u q n _ _=>⟨u.slots,k b u (hb b n) q⟩,fun b u q n _=>by rw[aj (hx b n)];exact n,fun b u q _=>?_,
  fun b xs q=>by rw[aj (hm b _ q fun z=>z)];exact q,fun b u xs q=>by rw[aj (hm b _ q fun z=>z)];exact q,fun b ps q=>⟨#[],by rw[aj (hm b _ q fun z=>z),q];simp⟩⟩
 by_cases hbe:b=e
 ·subst hbe;exact heo
 ·exact⟨u,k b u hbe q⟩
end
def trk (h:Heap) (H:Hp):List Addr:=(range h.objs.size).filter fun a=>(H a).isSome
def Ky (h:Heap) (H:Hp):Heap:=W.hideAll h (trk h H)
theorem R7 (h:Heap) (H:Hp):(Ky h H).objs.size=h.objs.size:=W.hideAll_size _ _
theorem T9 {h:Heap} {H:Hp} {b:Addr} {o:Obj} (e:h.get? b=some o) (n:H b=none):(Ky h H).get? b=some o :=
 W.hideAll_get _ e fun hm=>by
  have q:(H b).isSome=true:=(mem_filter.mp hm).2
  rw[n]at q;simp at q
theorem WY {h:Heap} {H:Hp} {b:Addr} {o:Obj} (e:(Ky h H).get? b=some o):h.get? b=some o∧H b=none:=by
 have e':h.get? b=some o:=W.of_hideAll (trk h H) e
 refine⟨e',?_⟩
 cases q:H b with
 |none=>rfl
 |some x =>
  have hm:b∈trk h H:=mem_filter.mpr ⟨mem_range.mpr (Heap.lt_size e'),by simp[q]⟩
  have z:(Ky h H).get? b=none:=W.hideAll_none (trk h H) hm
  rw[z]at e;cases e
structure Mod (K:W.Frag) (mg:Str→Option Value) (base:Heap):Prop where
 R8:K.In base
 glob:base.Ns mainGlobals mg
 blt:∃mb,base.Ns builtinsNs mb∧∀x:Str,x ≠ "__name__"→mb x=bootBuiltins x
 nolimit:base.NoLimit
structure Cx where
 prog:Program
 w:World
 K:W.Frag
 mg:Str→Option Value
 base:Heap
 A:Around
 N:List Str
 s₀:Shared
 H₀:Hp
 env:Env
 outer:List Env
 stack:List Env
 ex:List Addr
 fn:Str→Bool
 calm:Bool
 pn:List (Addr×Obj)
 xe:Value→Shared→Prop
def wz (l:List Env):List Addr:=l.filterMap (·.frame)
abbrev Cx.fs (X:Cx):List Addr:=wz X.outer
def Vis (sc:Scope) (x:Str):Prop:=sc.names.lookup x=some .local∨sc.names.lookup x=some .cell∨sc.names.lookup x=some .free
def Loc (sc:Scope) (x:Str):Prop:=sc.names.lookup x=some .local∨sc.names.lookup x=some .cell
def Look (env:Env) (h:Heap) (m:Str→Option Value) (x:Str) (u:Value):Prop :=
 (env.kindOf x=some .local∧m x=some u)∨((env.kindOf x=some .cell∨env.kindOf x=some .free)∧∃c,env.cells.lookup x=some c∧h.IsCell c (some u))
structure Cx.Ok (X:Cx):Prop where
 mod:Mod X.K X.mg X.base
 kind:X.env.scope.kind = .function
 glob:X.env.globals=mainGlobals
 blt:X.env.builtins=builtinsNs
 above:X.s₀.heap.objs.size≤X.env.locals
 inj:∀x y c,X.env.cells.lookup x=some c→X.env.cells.lookup y=some c→x=y
 has:∀x,(X.env.kindOf x=some .cell∨X.env.kindOf x=some .free)→∃c,X.env.cells.lookup x=some c
 cab:∀x c,X.fn x=true→X.env.cells.lookup x=some c→X.s₀.heap.objs.size≤c
 hd:X.calm=true→X.A.handled=none
 frames:X.A.frames=some X.stack
 stk:X.stack=X.outer∨(X.stack=X.env::X.outer∧X.env.frame=some X.env.locals)
 exf:∀b∈X.ex,b≠X.env.locals∧∀x c,X.env.cells.lookup x=some c→c≠b
 bs:∀b o,X.base.get? b=some o→X.s₀.heap.get? b=some o∧X.H₀ b=none
 WI:X.base.objs.size≤X.s₀.heap.objs.size
 R9:∀b o,X.base.get? b=some o→b∉X.ex
 OL:∀b∈X.ex,b∉X.fs
 yz:X.s₀.heap.FunFrames X.base X.outer
 Zj:∀b∈X.fs,X.H₀ b=none
structure Inv (X:Cx) (pp:List (Addr×Obj)) (σ:List (Option V)) (H:Hp) (s:Shared):Prop where
 ok:X.Ok
 os:s.os=X.s₀.os
 bare:AllBare s.gens
 base:Un X.fs X.ex X.H₀ H X.s₀.heap s.heap
 loc:∃m,s.heap.Ns X.env.locals m∧∀(i:Nat) (x:Str) (v:V),X.N[i]?=some x→σ[i]?=some (some v)→Vis X.env.scope x→∃u,RelV v u∧Look X.env s.heap m x u
 cell:∀x c,X.env.cells.lookup x=some c→∃v,s.heap.IsCell c v
 free:H X.env.locals=none
 oS:∀x c,X.env.cells.lookup x=some c→H c=none
 pin:∀p∈X.pn++pp,s.heap.get? p.1=some p.2∧H p.1=none∧p.1≠X.env.locals∧p.1∉X.fs∧∀v,p.2.data≠.cell v
 cG:t9 X.prog X.w H s.heap
 len:σ.length=X.N.length
section
variable {X:Cx} {pp:List (Addr×Obj)} {σ:List (Option V)} {H H':Hp} {s:Shared} {h':Heap}
theorem Cx.Ok.OM (ok:X.Ok) {b:Addr} {o:Obj} (e:X.base.get? b=some o):b∉X.fs:=fun hb=>by
 have:=(ok.yz.mem hb).1
 rw[e]at this;cases this
theorem Inv.bs (I:Inv X pp σ H s):∀b o,X.base.get? b=some o→s.heap.get? b=some o∧H b=none:=fun b o e =>
 ⟨I.base.keep b o (I.ok.bs b o e).1 (I.ok.bs b o e).2 (I.ok.OM e) (I.ok.R9 b o e),I.base.free b o (I.ok.bs b o e).1 (I.ok.bs b o e).2 (I.ok.R9 b o e)⟩
theorem Inv.bk (I:Inv X pp σ H s):∀b o,X.base.get? b=some o→s.heap.get? b=some o:=fun b o e=>(I.bs b o e).1
theorem Inv.mod (I:Inv X pp σ H s):Mod X.K X.mg X.base:=I.ok.mod
theorem Inv.Fi (I:Inv X pp σ H s):X.K.In s.heap:=I.ok.mod.R8.keeps I.bk
theorem Inv.lt (I:Inv X pp σ H s):X.env.locals<s.heap.objs.size:=let⟨_,hn,_⟩:=I.loc;hn.lt
theorem Inv.sz (I:Inv X pp σ H s):X.s₀.heap.objs.size≤s.heap.objs.size:=le_trans I.ok.above (le_of_lt I.lt)
theorem Inv.aam (I:Inv X pp σ H s) {a:Addr} (h:s.heap.objs.size≤a):a∉X.fs:=fun hb=>by
 obtain⟨_,o,ho,_⟩:=I.ok.yz.mem hb
 exact absurd (lt_of_lt_of_le (Heap.lt_size ho) (le_trans I.sz h)) (lt_irrefl _)
theorem Inv.cne (I:Inv X pp σ H s):∀x c,X.env.cells.lookup x=some c→c≠X.env.locals:=fun x c e z=>by
 obtain⟨v,o,ho,hd⟩:=I.cell x c e
 obtain⟨m,⟨o',es,ep,QR,Ua,_⟩,_⟩:=I.loc
 rw[z,QR]at ho;cases ho;rw[Ua]at hd;cases hd
theorem Inv.yz (I:Inv X pp σ H s):s.heap.FunFrames X.base X.outer:=by
 have all:∀(l:List Env),(∀b∈wz l,b∈X.fs)→X.s₀.heap.FunFrames X.base l→s.heap.FunFrames X.base l:=by
  intro l
  induction l with
  |nil=>intro _ _;trivial
  |cons env r ih =>
   intro hs hl
   obtain⟨hk,⟨L,o,hf,hn,ho,hd⟩,hr⟩:=hl
   have hL:L∈X.fs:=hs L (by unfold wz;rw[filterMap_cons,hf];exact mem_cons_self)
   obtain⟨sl,e⟩:=I.base.slot L o ho (I.ok.Zj L hL) hL fun z=>I.ok.OL L z hL
   exact⟨hk,⟨L,_,hf,hn,e,hd⟩,ih (fun b hb=>hs b (by unfold wz;rw[filterMap_cons,hf];exact mem_cons_of_mem _ hb)) hr⟩
 exact all X.outer (fun _ hb=>hb) I.ok.yz
theorem Inv.stack (I:Inv X pp σ H s):s.heap.FunFrames X.base X.stack:=by
 rcases I.ok.stk with e|⟨e,hf⟩
 ·rw[e];exact I.yz
 ·rw[e]
  obtain⟨m,hn,_⟩:=I.loc
  refine .cons (by rw[I.ok.kind];decide) hf hn ?_ I.yz
  exact Heap.get?_none_of_le (le_trans I.ok.WI I.ok.above)
theorem Inv.rq (I:Inv X pp σ H s):∀b∈wz X.stack,b∈X.env.locals::X.fs:=fun b hb=>by
 rcases I.ok.stk with e|⟨e,hf⟩
 ·rw[e]at hb;exact mem_cons_of_mem _ hb
 ·rw[e]at hb
  unfold wz at hb
  rw[filterMap_cons,hf]at hb
  exact hb
theorem Inv.Kz (I:Inv X pp σ H s):∀b∈wz X.stack,H b=none:=fun b hb=>by
 rcases mem_cons.mp (I.rq b hb) with e|hb
 ·rw[e];exact I.free
 ·obtain⟨_,o,ho,_⟩:=I.ok.yz.mem hb
  exact I.base.free b o ho (I.ok.Zj b hb) fun z=>I.ok.OL b z hb
theorem Inv.step {g':Array GenState} {t':Nat} {d':Drawn} {ch:List Addr} (I:Inv X pp σ H s)
 (WJ:∀b∈ch,(b∈X.ex∨X.s₀.heap.objs.size≤b)∧b≠X.env.locals∧(∀x c,X.env.cells.lookup x=some c→c≠b)∧∀p∈X.pn++pp,p.1≠b)
 (keep:∀b o,b≠X.env.locals→b∉X.fs→b∉ch→s.heap.get? b=some o→H b=none→h'.get? b=some o)
 (slot:∀b o,b≠X.env.locals→b∈X.fs→b∉ch→s.heap.get? b=some o→H b=none→∃sl,h'.get? b=some {o with slots:=sl}) (free:∀b o,b∉ch→s.heap.get? b=some o→H b=none→H' b=none)
 (there:∀b o,b∉ch→s.heap.get? b=some o→∃o',h'.get? b=some o')
 (HV:∀b xs,H b=some (.tup xs)→H' b=some (.tup xs)) (Fh:∀b o u,H b=some (.T7 o u)→H' b=some (.T7 o u)) (HW:∀b ps,H b=some (.Zi ps)→∃more,H' b=some (.Zi (ps++more)))
 (ns:∀m,s.heap.Ns X.env.locals m→h'.Ns X.env.locals m) (cG:t9 X.prog X.w H' h') (hg:AllBare g') :
 Inv X pp σ H' {s with heap:=h',gens:=g',drawn:=d',toks:=t'}:=by
 have neL:∀b o,X.s₀.heap.get? b=some o→b≠X.env.locals:=fun b o e=>ne_of_lt (lt_of_lt_of_le (Heap.lt_size e) I.ok.above)
 have neC:∀b o,X.s₀.heap.get? b=some o→b∉X.ex→b∉ch:=fun b o e hx hb=>by
  rcases(WJ b hb).1 with z|z
  ·exact hx z
  ·exact absurd (lt_of_lt_of_le (Heap.lt_size e) z) (lt_irrefl _)
 have cellK:∀x c,X.env.cells.lookup x=some c→∀v,s.heap.IsCell c v→h'.IsCell c v:=fun x c e v ⟨o,ho,hd⟩=>by
  have nch:c∉ch:=fun z=>(WJ c z).2.2.1 x c e rfl
  by_cases hc:c∈X.fs
  ·obtain⟨sl,q⟩:=slot c o (I.cne x c e) hc nch ho (I.oS x c e)
   exact⟨_,q,hd⟩
  ·exact⟨o,keep c o (I.cne x c e) hc nch ho (I.oS x c e),hd⟩
 refine⟨I.ok,I.os,hg,⟨fun b o e n hb hx=>?_,fun b o e n hb hx=>?_,fun b o e n hx=>?_,fun b o e hx=>?_,fun b xs e=>HV b xs (I.base.HV b xs e),fun b o xs e=>Fh b o xs (I.base.Fh b o xs e),fun b ps e=>?_⟩,?_,fun x c e=>?_,?_,fun x c e=>?_,fun p hp=>?_,cG,I.len⟩
 ·exact keep b o (neL b o e) hb (neC b o e hx) (I.base.keep b o e n hb hx) (I.base.free b o e n hx)
 ·obtain⟨sl,e1⟩:=I.base.slot b o e n hb hx
  obtain⟨sl',e2⟩:=slot b _ (neL b o e) hb (neC b o e hx) e1 (I.base.free b o e n hx)
  exact⟨sl',e2⟩
 ·obtain⟨o',e1⟩:=I.base.there b o e hx
  exact free b o' (neC b o e hx) e1 (I.base.free b o e n hx)
 ·obtain⟨o',e1⟩:=I.base.there b o e hx
  exact there b o' (neC b o e hx) e1
 ·obtain⟨m1,e1⟩:=I.base.HW b ps e
  obtain⟨m2,e2⟩:=HW b _ e1
  exact⟨m1++m2,by rw[e2,Array.append_assoc]⟩
 ·obtain⟨m,hn,hl⟩:=I.loc
  refine⟨m,ns m hn,fun i x v e1 e2 e3=>?_⟩
  obtain⟨u,r,l⟩:=hl i x v e1 e2 e3
  refine⟨u,r,?_⟩
  rcases l with l|⟨k,c,e,z⟩
  ·exact .inl l
  ·exact .inr ⟨k,c,e,cellK x c e _ z⟩
 ·obtain⟨v,z⟩:=I.cell x c e
  exact⟨v,cellK x c e v z⟩
 ·obtain⟨m,⟨o,_,_,ho,_⟩,_⟩:=I.loc
  exact free _ o (fun z=>(WJ _ z).2.1 rfl) ho I.free
 ·obtain⟨v,o,ho,hd⟩:=I.cell x c e
  exact free c o (fun z=>(WJ c z).2.2.1 x c e rfl) ho (I.oS x c e)
 ·obtain⟨e,n,ne,nf,d⟩:=I.pin p hp
  have nch:p.1∉ch:=fun z=>(WJ p.1 z).2.2.2 p hp rfl
  exact⟨keep p.1 p.2 ne nf nch e n,free p.1 p.2 nch e n,ne,nf,d⟩
theorem Inv.un {t':Nat} (I:Inv X pp σ H s) (u:Un X.fs [] H H' s.heap h') (cG:t9 X.prog X.w H' h'):Inv X pp σ H' {s with heap:=h',toks:=t'}:=by
 obtain⟨m,⟨o,es,ep,ho,r⟩,_⟩:=id I.loc
 obtain⟨sl,hL⟩:=u.any ho I.free (by simp)
 exact I.step (g':=s.gens) (d':=s.drawn) (ch:=[]) (fun _ z=>nomatch z) (fun b o _ hb _ e n=>u.keep b o e n hb (by simp)) (fun b o _ hb _ e n=>u.slot b o e n hb (by simp)) (fun b o _ e n=>u.free b o e n (by simp)) (fun b o _ e=>u.there b o e (by simp)) u.HV u.Fh u.HW (fun m' hm=>by
  obtain⟨o',es',ep',QR,r'⟩:=hm
  rw[ho]at QR;cases QR
  exact⟨_,es',ep',hL,r'⟩) cG I.bare
theorem Inv.call {g':Array GenState} {t':Nat} {d':Drawn} {ch:List Addr} (I:Inv X pp σ H s) (u:Un (wz X.stack) ch H H' s.heap h') (cG:t9 X.prog X.w H' h') (hg:AllBare g')
 (WJ:∀b∈ch,(b∈X.ex∨X.s₀.heap.objs.size≤b)∧b≠X.env.locals∧(∀x c,X.env.cells.lookup x=some c→c≠b)∧∀p∈X.pn++pp,p.1≠b) :
 Inv X pp σ H' {s with heap:=h',gens:=g',drawn:=d',toks:=t'}:=by
 obtain⟨m,⟨o,es,ep,ho,r⟩,_⟩:=id I.loc
 obtain⟨sl,hL⟩:=u.any ho I.free fun z=>(WJ _ z).2.1 rfl
 exact I.step (ch:=ch) WJ (fun b o hL hb hc e n=>u.keep b o e n (fun z=>(mem_cons.mp (I.rq b z)).elim hL hb) hc) (fun b o _ _ hc e n=>u.any e n hc) (fun b o hc e n=>u.free b o e n hc) (fun b o hc e=>u.there b o e hc) u.HV u.Fh u.HW (fun m' hm=>by
  obtain⟨o',es',ep',QR,r'⟩:=hm
  rw[ho]at QR;cases QR
  exact⟨_,es',ep',hL,r'⟩) cG hg
theorem Inv.turned {t':Nat} {it:Addr} (I:Inv X pp σ H s) (k:∀b o,b≠it→s.heap.get? b=some o→h'.get? b=some o) (hn:H it=none) (hL:it≠X.env.locals)
 (h1:it∈X.ex∨X.s₀.heap.objs.size≤it) (h2:∀x c,X.env.cells.lookup x=some c→c≠it) (h3:∀p∈X.pn++pp,p.1≠it):Inv X pp σ H {s with heap:=h',toks:=t'}:=by
 have Zk:∀b u,H b=some u→b≠it:=fun b u e z=>by rw[z,hn]at e;cases e
 refine I.step (g':=s.gens) (d':=s.drawn) (ch:=[it]) (fun b hb=>?_) (fun b o _ _ hc e _=>k b o (fun z=>hc (by simp[z])) e) (fun b o _ _ hc e _=>⟨o.slots,k b o (fun z=>hc (by simp[z])) e⟩) (fun _ _ _ _ n=>n)
  (fun b o hc e=>⟨o,k b o (fun z=>hc (by simp[z])) e⟩) (fun _ _ e=>e) (fun _ _ _ e=>e) (fun b ps e=>⟨#[],by rw[e];simp⟩) (fun m hm=>?_) (fun b u e=>?_) I.bare
 ·have e:b=it:=by simpa using hb
  subst e
  exact⟨h1,hL,h2,h3⟩
 ·obtain⟨o,es,ep,ho,r⟩:=hm
  exact⟨o,es,ep,k _ o (Ne.symm hL) ho,r⟩
 ·refine(I.cG b u e).My (fun c v hc q=>k c v ?_ q) (fun _ q=>q) fun _ _ q=>q
  rcases hc with z|z
  ·rw[z];exact Zk b u e
  ·exact Zk c _ z
theorem Inv.tok (I:Inv X pp σ H s) (t:Nat):Inv X pp σ H {s with toks:=t}:=I.un (h':=s.heap) (t':=t) Un.refl I.cG
theorem Inv.kept {t':Nat} (I:Inv X pp σ H s) (k:∀b u,s.heap.get? b=some u→h'.get? b=some u):Inv X pp σ H {s with heap:=h',toks:=t'}:=I.un (Un.kept k) (I.cG.kept k)
theorem Inv.laid {a:Addr} {o:HO} {t':Nat} (I:Inv X pp σ H s) (k:∀b u,s.heap.get? b=some u→h'.get? b=some u) (hp:s.heap.objs.size≤a) (new:eZ X.prog X.w (upd H a o) h' a o) :
 Inv X pp σ (upd H a o) {s with heap:=h',toks:=t'}:=I.un (Un.laid k hp (I.cG.fresh hp)) (I.cG.laid k hp new)
theorem Inv.write {x e:Addr} {o:HO} {t':Nat} (I:Inv X pp σ H s) (mu:Mut (H x)) (he:e=x∨H e=some (.own x)) (k:∀b u,b≠e→s.heap.get? b=some u→h'.get? b=some u) (heo:∃u,h'.get? e=some u)
 (new:eZ X.prog X.w (upd H x o) h' x o):Inv X pp σ (upd H x o) {s with heap:=h',toks:=t'}:=I.un (Un.write mu he k heo) (I.cG.write mu he k heo new)
theorem Inv.weak {σ':List (Option V)} (I:Inv X pp σ H s) (hl:σ'.length=σ.length) (w:∀(i:Nat) v,σ'[i]?=some (some v)→σ[i]?=some (some v)):Inv X pp σ' H s :=
 ⟨I.ok,I.os,I.bare,I.base,let⟨m,hn,hl'⟩:=I.loc;⟨m,hn,fun i x v e1 e2 e3=>hl' i x v e1 (w i v e2) e3⟩,I.cell,I.free,I.oS,I.pin,I.cG,hl.trans I.len⟩
theorem Inv.QS {Fj:List (Addr×Obj)} (I:Inv X pp σ H s) (h:∀p∈Fj,s.heap.get? p.1=some p.2∧H p.1=none∧p.1≠X.env.locals∧p.1∉X.fs∧∀v,p.2.data≠.cell v):Inv X Fj σ H s :=
 ⟨I.ok,I.os,I.bare,I.base,I.loc,I.cell,I.free,I.oS,fun p hp=>(mem_append.mp hp).elim (fun z=>I.pin p (mem_append_left _ z)) (h p),I.cG,I.len⟩
theorem Fl {N:List Str} (hN:N.Nodup) {i j:Nat} {x:Str} (a:N[i]?=some x) (b:N[j]?=some x):i=j:=by
 obtain⟨h1,e1⟩:=List.getElem?_eq_some_iff.mp a
 obtain⟨h2,e2⟩:=List.getElem?_eq_some_iff.mp b
 exact(List.getElem_inj hN).mp (e1.trans e2.symm)
theorem Jx {M:Model} {A:Around} {E:Value→Shared→Prop} {i:Nat} {x:Str} {v:V} {u:Value} {Q:Unit→Shared→Prop} (I:Inv X pp σ H s) (hN:X.N.Nodup) (hi:X.N[i]?=some x) (hx:Loc X.env.scope x) (r:RelV v u)
 (h:∀s',Inv X pp (σ.set i (some v)) H s'→(∃a,Heap.SameBut a s.heap s'.heap∧(a=X.env.locals∨X.env.cells.lookup x=some a))→Q () s') (hf:X.fn x=true∨X.env.scope.names.lookup x=some .local:=by first|exact .inl rfl|exact .inr rfl|assumption):wpAny M A (storeName X.env x u) Q E s:=by
 obtain⟨m,hn,hl⟩:=id I.loc
 have Mz:(X.env.scope.kind == .class ||(X.env.scope.kind == .module&&X.env.locals != X.env.globals))=false:=by rw[I.ok.kind];rfl
 have hiσ:i<σ.length:=by rw[I.len];exact(List.getElem?_eq_some_iff.mp hi).1
 have cne:=I.cne
 have tracked:∀{a:Addr} {h':Heap},(∃o,s.heap.get? a=some o∧H a=none)→Heap.SameBut a s.heap h'→t9 X.prog X.w H h':=fun{a h'} ha hs b ob e=>by
  obtain⟨_,_,Dg⟩:=ha
  refine(I.cG b ob e).My (fun c w' hc q=>(hs.2 c ?_).trans q) (fun _ q=>q) fun _ _ q=>q
  rintro rfl
  rcases hc with rfl|hc
  ·rw[Dg]at e;cases e
  ·rw[Dg]at hc;cases hc
 rcases hx with hk|hk
 ·refine wpAny_storeName_local hk hn (fun h' WZ hs=>?_) Mz
  obtain⟨oL,_,_,hoL,_⟩:=id hn
  refine h _ ⟨I.ok,I.os,I.bare,⟨fun b o e n hb hx=>?_,fun b o e n hb hx=>?_,I.base.free,fun b o e hx=>?_,I.base.HV,I.base.Fh,I.base.HW⟩,⟨_,WZ,fun j y v' e1 e2 e3=>?_⟩,fun y c e=>?_,I.free,I.oS,fun p hp=>?_,tracked ⟨oL,hoL,I.free⟩ hs,by simpa using I.len⟩ ⟨_,hs,.inl rfl⟩
  ·exact(hs.2 b (ne_of_lt (lt_of_lt_of_le (Heap.lt_size e) I.ok.above))).trans (I.base.keep b o e n hb hx)
  ·obtain⟨sl,e1⟩:=I.base.slot b o e n hb hx
   exact⟨sl,(hs.2 b (ne_of_lt (lt_of_lt_of_le (Heap.lt_size e) I.ok.above))).trans e1⟩
  ·obtain⟨o',e1⟩:=I.base.there b o e hx
   exact⟨o',(hs.2 b (ne_of_lt (lt_of_lt_of_le (Heap.lt_size e) I.ok.above))).trans e1⟩
  ·by_cases hj:j=i
   ·subst hj
    rw[hi]at e1;cases e1
    rw[List.getElem?_set_self hiσ]at e2
    cases e2
    exact⟨u,r,.inl ⟨hk,by simp⟩⟩
   ·rw[List.getElem?_set_ne (Ne.symm hj)]at e2
    obtain⟨u',r',q⟩:=hl j y v' e1 e2 e3
    refine⟨u',r',?_⟩
    rcases q with⟨k,e⟩|⟨k,c,e,z⟩
    ·refine .inl ⟨k,?_⟩
     have:y≠x:=fun e=>hj (Fl hN e1 (e ▸ hi))
     simp[this,e]
    ·exact .inr ⟨k,c,e,z.sameBut hs (cne y c e)⟩
  ·obtain⟨w',z⟩:=I.cell y c e
   exact⟨w',z.sameBut hs (cne y c e)⟩
  ·obtain⟨e,n,ne,nf,d⟩:=I.pin p hp
   exact⟨(hs.2 p.1 ne).trans e,n,ne,nf,d⟩
 ·have hfn:X.fn x=true:=by
   rcases hf with z|z
   ·exact z
   ·rw[z]at hk;cases hk
  obtain⟨c,hc⟩:=I.ok.has x (.inl hk)
  obtain⟨w',z⟩:=I.cell x c hc
  refine wpAny_storeName_cell I.ok.kind hk hc z (fun h' hc' hs=>?_)
  obtain⟨oc,hoc,agH⟩:=id z
  refine h {s with heap:=h'} ⟨I.ok,I.os,I.bare,⟨fun b o e n hb hx=>?_,fun b o e n hb hx=>?_,I.base.free,fun b o e hx=>?_,I.base.HV,I.base.Fh,I.base.HW⟩,⟨m,hn.sameBut hs (Ne.symm (cne x c hc)),fun j y v' e1 e2 e3=>?_⟩,fun y c' e=>?_,I.free,I.oS,fun p hp=>?_,tracked ⟨oc,hoc,I.oS x c hc⟩ hs,by simpa using I.len⟩ ⟨c,hs,.inr hc⟩
  ·exact(hs.2 b (ne_of_lt (lt_of_lt_of_le (Heap.lt_size e) (I.ok.cab x c hfn hc)))).trans (I.base.keep b o e n hb hx)
  ·obtain⟨sl,e1⟩:=I.base.slot b o e n hb hx
   exact⟨sl,(hs.2 b (ne_of_lt (lt_of_lt_of_le (Heap.lt_size e) (I.ok.cab x c hfn hc)))).trans e1⟩
  ·obtain⟨o',e1⟩:=I.base.there b o e hx
   exact⟨o',(hs.2 b (ne_of_lt (lt_of_lt_of_le (Heap.lt_size e) (I.ok.cab x c hfn hc)))).trans e1⟩
  ·by_cases hj:j=i
   ·subst hj
    rw[hi]at e1;cases e1
    rw[List.getElem?_set_self hiσ]at e2
    cases e2
    exact⟨u,r,.inr ⟨.inl hk,c,hc,hc'⟩⟩
   ·rw[List.getElem?_set_ne (Ne.symm hj)]at e2
    obtain⟨u',r',q⟩:=hl j y v' e1 e2 e3
    refine⟨u',r',?_⟩
    rcases q with q|⟨k,c',e,z'⟩
    ·exact .inl q
    ·refine .inr ⟨k,c',e,z'.sameBut hs ?_⟩
     rintro rfl
     exact hj (Fl hN e1 (I.ok.inj _ _ _ e hc ▸ hi))
  ·by_cases hcc:c'=c
   ·subst hcc;exact⟨_,hc'⟩
   ·obtain⟨w2,z2⟩:=I.cell y c' e
    exact⟨w2,z2.sameBut hs hcc⟩
  ·obtain⟨e,n,ne,nf,d⟩:=I.pin p hp
   refine⟨(hs.2 p.1 ?_).trans e,n,ne,nf,d⟩
   intro q
   rw[q,hoc]at e
   have q':oc=p.2:=Option.some.inj e
   exact d w' (by rw[←q'];exact agH)
theorem Fm {M:Model} {A:Around} {E:Value→Shared→Prop} {i:Nat} {x:Str} {v:V} {u:Value} {Q:Unit→Shared→Prop} (I:Inv X pp σ H s) (hN:X.N.Nodup) (hi:X.N[i]?=some x) (hx:Loc X.env.scope x) (r:RelV v u)
 (h:∀s',Inv X pp (σ.set i (some v)) H s'→Q () s') (hf:X.fn x=true∨X.env.scope.names.lookup x=some .local:=by first|exact .inl rfl|exact .inr rfl|assumption):wpAny M A (storeName X.env x u) Q E s :=
 Jx I hN hi hx r (fun s' I' _=>h s' I') hf
theorem Inv.Jy {s':Shared} {ch:List Addr} (I:Inv X pp σ H s) (ho:s'.os=s.os) (u:Un (wz X.stack) ch H H' s.heap s'.heap) (cG:t9 X.prog X.w H' s'.heap) (hg:AllBare s'.gens)
 (WJ:∀b∈ch,(b∈X.ex∨X.s₀.heap.objs.size≤b)∧b≠X.env.locals∧(∀x c,X.env.cells.lookup x=some c→c≠b)∧∀p∈X.pn++pp,p.1≠b):Inv X pp σ H' s':=by
 obtain⟨h',g',d',t',o'⟩:=s'
 have e:o'=s.os:=ho
 subst e
 exact I.call (g':=g') (t':=t') (d':=d') u cG hg WJ
end
abbrev XK:=Value→Option Addr→Hp→Prop
abbrev St:=List (Option V)
abbrev VK:=V→Hp→Prop
abbrev TE:=St→Hp→VK→Prop
abbrev TT:=St→Hp→(Bool→Hp→Prop)→Prop
abbrev TA:=St→Hp→(List V→Hp→Prop)→Prop
structure Ends where
 nx:St→Hp→Prop
 rt:VK
 bk:St→Hp→Prop:=fun _ _=>False
 ct:St→Hp→Prop:=fun _ _=>False
abbrev TS:=Ends→St→Hp→Prop
def EP (X:Cx) (pp:List (Addr×Obj)) (σ:St) (Q:VK) (u:Value) (s':Shared):Prop:=∃v H',Inv X pp σ H' s'∧RelV v u∧Q v H'
def TP (X:Cx) (pp:List (Addr×Obj)) (σ:St) (Q:Bool→Hp→Prop) (b:Bool) (s':Shared):Prop:=∃H',Inv X pp σ H' s'∧Q b H'
def AP (X:Cx) (pp:List (Addr×Obj)) (σ:St) (Q:List V→Hp→Prop) (us:List Value) (s':Shared):Prop:=∃vs H',Inv X pp σ H' s'∧Vals vs us∧Q vs H'
def SP (X:Cx) (pp:List (Addr×Obj)) (D:Ends) (f:Flow) (s':Shared):Prop :=
 match f with
 | .next=>∃σ' H',Inv X pp σ' H' s'∧D.nx σ' H'
 | .brk=>∃σ' H',Inv X pp σ' H' s'∧D.bk σ' H'
 | .cont=>∃σ' H',Inv X pp σ' H' s'∧D.ct σ' H'
 | .ret u=>∃v σ' H',Inv X pp σ' H' s'∧RelV v u∧D.rt v H'
def PE (X:Cx) (e:Expr) (t:TE):Prop :=
 ∀(pp:List (Addr×Obj)) (s:Shared) (σ:St) (H:Hp) (Q:VK),Inv X pp σ H s→t σ H Q→wpAny (model X.prog X.w) X.A (eval e X.env) (EP X pp σ Q) X.xe s
def PT (X:Cx) (e:Expr) (t:TT):Prop :=
 ∀(pp:List (Addr×Obj)) (s:Shared) (σ:St) (H:Hp) (Q:Bool→Hp→Prop),Inv X pp σ H s→t σ H Q→wpAny (model X.prog X.w) X.A (isTrue e X.env (eval e X.env)) (TP X pp σ Q) X.xe s
def PW (X:Cx) (e:Expr) (t:TT):Prop :=
 ∀(whole:Sem Value) (pp:List (Addr×Obj)) (s:Shared) (σ:St) (H:Hp) (Q:Bool→Hp→Prop),Inv X pp σ H s→t σ H Q→wpAny (model X.prog X.w) X.A (isTrue e X.env whole) (TP X pp σ Q) X.xe s
theorem PW.pt {X:Cx} {e:Expr} {t:TT} (h:PW X e t):PT X e t:=h _
def PA (X:Cx) (es:List Expr) (t:TA):Prop :=
 ∀(pos:Pos) (pp:List (Addr×Obj)) (s:Shared) (σ:St) (H:Hp) (Q:List V→Hp→Prop),Inv X pp σ H s→t σ H Q→wpAny (model X.prog X.w) X.A (spliced (backTo pos (starEach es X.env))) (AP X pp σ Q) X.xe s
def PS (X:Cx) (st:Stmt) (t:TS):Prop :=
 ∀(pp:List (Addr×Obj)) (s:Shared) (σ:St) (H:Hp) (D:Ends),Inv X pp σ H s→t D σ H→wpAny (model X.prog X.w) X.A (exec st X.env) (SP X pp D) X.xe s
def Sa (X:Cx) (st:List Stmt) (t:TS):Prop :=
 ∀(pp:List (Addr×Obj)) (s:Shared) (σ:St) (H:Hp) (D:Ends),Inv X pp σ H s→t D σ H→wpAny (model X.prog X.w) X.A (execs st X.env) (SP X pp D) X.xe s
theorem dq {α:Type} {t:Sem α} {Q Q':α→Shared→Prop} {M:Model} {A:Around} {E:Value→Shared→Prop} {s:Shared} (h:wpAny M A t Q E s) (hQ:∀a s,Q a s→Q' a s):wpAny M A t Q' E s:=wpAny_mono h hQ fun _ _ x=>x
section
variable {X:Cx}
inductive adh (i:Nat) (σ:St) (H:Hp) (Q:VK):Prop
 |mk (v:V) (e:σ[i]?=some (some v)) (q:Q v H):adh i σ H Q
def zS (i:Nat):TE:=fun σ H Q=>adh i σ H Q
def tC (v:V):TE:=fun _ H Q=>Q v H
theorem aao {i:Nat} {x:Str} {pos:Pos} (hN:X.N[i]?=some x) (hv:Vis X.env.scope x) (hd:(x==("__debug__" : Str))=false:=by decide) (WK:(x==("__classdict__" : Str))=false:=by decide):PE X (.Name x pos) (zS i):=by
 intro pp s σ H Q I h
 obtain⟨v,e,h⟩:=h
 obtain⟨m,hn,hl⟩:=I.loc
 obtain⟨u,r,l⟩:=hl i x v hN e hv
 have fin:EP X pp σ Q u s:=⟨v,H,I,r,h⟩
 rcases l with⟨hk,hm⟩|⟨hk,c,hc,QT⟩
 ·exact wpAny_Name (wpAny_loadName_local I.ok.kind hk hn hm fin) hd
 ·rcases hk with hk|hk
  ·exact wpAny_Name (wpAny_loadName_cell I.ok.kind hk hc QT fin) hd
  ·exact wpAny_Name (wpAny_loadName_free I.ok.kind hk hc QT fin WK) hd
theorem ak {i j pos}:PE X (.Constant (.int i) j pos) (tC (.int i)):=fun _ _ _ H _ I h=>wpAny_Constant_int ⟨.int i,H,I.tok _,⟨_,rfl⟩,h⟩
theorem Fn {b j pos}:PE X (.Constant (.bool b) j pos) (tC (.bl b)):=fun _ _ _ H _ I h=>Constant_bool ⟨.bl b,H,I,rfl,h⟩
theorem KA {j pos}:PE X (.Constant .none j pos) (tC .dh):=fun _ _ _ H _ I h=>Constant_none ⟨.dh,H,I,rfl,h⟩
def Gl (X:Cx) (x:Str):Prop:=X.env.kindOf x=some .globalImplicit
theorem rA {E:Value→Shared→Prop} {pp:List (Addr×Obj)} {s:Shared} {σ:St} {H:Hp} {x:Str} {u:Value} {pos:Pos} {Q:Value→Shared→Prop} (I:Inv X pp σ H s) (hg:Gl X x) (hm:X.mg x=some u) (h:Q u s)
 (hd:(x==("__debug__" : Str))=false:=by decide):wpAny (model X.prog X.w) X.A (eval (.Name x pos) X.env) Q E s :=
 Calls.Name_function_global I.ok.kind hg (Calls.loadGlobal_global (by rw[I.ok.glob];exact I.mod.glob.keeps I.bk) hm h) hd
theorem rB {E:Value→Shared→Prop} {pp:List (Addr×Obj)} {s:Shared} {σ:St} {H:Hp} {x:Str} {u:Value} {pos:Pos} {Q:Value→Shared→Prop} (I:Inv X pp σ H s) (hg:Gl X x) (hm:X.mg x=none) (hv:bootBuiltins x=some u) (h:Q u s)
 (hn:x ≠ "__name__":=by decide) (hd:(x==("__debug__" : Str))=false:=by decide):wpAny (model X.prog X.w) X.A (eval (.Name x pos) X.env) Q E s:=by
 obtain⟨mb,h1,h2⟩:=I.mod.blt
 exact Calls.Name_function_global I.ok.kind hg (Calls.loadGlobal_builtin (by rw[I.ok.glob];exact I.mod.glob.keeps I.bk) hm (by rw[I.ok.blt];exact h1.keeps I.bk) ((h2 x hn).trans hv) h) hd
theorem QU {x:Str} {v:V} {u:Value} {pos:Pos} (hg:Gl X x) (hm:X.mg x=some u) (r:RelV v u) (hd:(x==("__debug__" : Str))=false:=by decide):PE X (.Name x pos) (tC v) :=
 fun _ _ _ H _ I h=>rA I hg hm ⟨v,H,I,r,h⟩ hd
variable {a b:Expr} {ta tb:TE} {pos:Pos}
def PC (X:Cx) (op:CmpOp) (a b:Expr) (t:TE):Prop :=
 ∀(pp:List (Addr×Obj)) (s:Shared) (σ:St) (H:Hp) (Q:VK),Inv X pp σ H s→t σ H Q →
  wpAny (model X.prog X.w) X.A (eval a X.env) (fun v s₁=>wpAny (model X.prog X.w) X.A (eval b X.env) (fun u s₂=>wpAny (model X.prog X.w) X.A (compareOp op v u) (EP X pp σ Q) X.xe s₂) X.xe s₁) X.xe s
theorem MA (b:Expr) {op:CmpOp} (h:op≠.In) (h2:op≠.NotIn):behindInMarks op b=false:=by
 have e1:(op==CmpOp.In)=false:=by cases op<;>first|rfl|exact absurd rfl h
 have e2:(op==CmpOp.NotIn)=false:=by cases op<;>first|rfl|exact absurd rfl h2
 cases b<;>simp[behindInMarks,e1,e2]
def agJ (ta:TE):TE:=fun σ H Q=>ta σ H fun x H1=>Q (.bl (decide (x = .dh))) H1
theorem RelV.Ub {x:V} {v:Value} (r:RelV x v):(v==Value.none)=decide (x = .dh):=by
 cases x with
 |dh=>cases r;rfl
 |bl _=>cases r;rfl
 |int _=>obtain⟨t,rfl⟩:=r;rfl
 |str _=>obtain⟨t,rfl⟩:=r;rfl
 |OK _=>obtain⟨t,rfl⟩:=r;rfl
 |flt _=>obtain⟨t,rfl⟩:=r;rfl
 |ref _=>cases r;rfl
 |ty _=>cases r;rfl
theorem BR {j pos'} (ha:PE X a ta):PC X .Is a (.Constant .none j pos') (agJ ta):=by
 intro pp s σ H Q I h
 refine dq (ha pp s σ H _ I h) fun v s1 ⟨x,H1,I1,r1,q1⟩=>?_
 exact Constant_none (is_none_gen ⟨.bl _,H1,I1,by rw[r1.Ub];rfl,q1⟩)
def tB (t:TE):TT:=fun σ H Q=>t σ H fun x H1=>∃c,x = .bl c∧Q c H1
theorem Fo {op:CmpOp} {t:TE} (h:PC X op a b t) (h1:behindInMarks op b=false:=by first|exact MA _ (by decide) (by decide)|rfl):PE X (.Compare a [op] [b] pos) t:=fun pp s σ H Q I hw=>wpAny_Compare1 (h pp s σ H Q I hw) h1
theorem BS {op:CmpOp} {t:TE} (h:PC X op a b t) (h1:behindInMarks op b=false:=by first|exact MA _ (by decide) (by decide)|rfl):PT X (.Compare a [op] [b] pos) (tB t):=by
 intro pp s σ H Q I hw
 refine wpAny_isTrue_Compare1 (dq (h pp s σ H _ I hw) fun v s1 h1=>dq h1 fun u s2 h2=>dq h2 fun c s3 ⟨x,H1,I1,r1,q1⟩=>?_) h1
 obtain⟨d,rfl,q⟩:=q1
 cases r1
 exact wpAny_truthy_bool ⟨H1,I1,q⟩
variable {tA tB':TT} {rest:List Expr}
def agK (t u:TT):TT:=fun σ H Q=>t σ H fun c H1=>if c=true then u σ H1 Q else Q false H1
def tOr (t u:TT):TT:=fun σ H Q=>t σ H fun c H1=>if c=true then Q true H1 else u σ H1 Q
def agL (t:TT):TT:=fun σ H Q=>t σ H fun c H1=>Q (!c) H1
theorem W3 (ha:PT X a tA):PW X (.BoolOp .And [a] pos) tA:=by
 intro wh pp s σ H Q I h
 refine isTrue_and (dq (ha pp s σ H Q I h) fun c s1 e=>?_)
 cases c with
 |true=>exact isTrue_and_nil e
 |false=>exact e
theorem aap (ha:PT X a tA):PW X (.BoolOp .Or [a] pos) tA:=by
 intro wh pp s σ H Q I h
 refine isTrue_or (dq (ha pp s σ H Q I h) fun c s1 e=>?_)
 cases c with
 |false=>exact isTrue_or_nil e
 |true=>exact e
theorem aaq (ha:PT X a tA) (hb:PW X (.BoolOp .And (b::rest) pos) tB'):PW X (.BoolOp .And (a::b::rest) pos) (agK tA tB'):=by
 intro wh pp s σ H Q I h
 refine isTrue_and (dq (ha pp s σ H _ I h) fun c s1 ⟨H1,I1,q1⟩=>?_)
 cases c with
 |true=>exact hb wh pp s1 σ H1 Q I1 q1
 |false=>exact⟨H1,I1,q1⟩
theorem adi (ha:PT X a tA) (hb:PW X (.BoolOp .Or (b::rest) pos) tB'):PW X (.BoolOp .Or (a::b::rest) pos) (tOr tA tB'):=by
 intro wh pp s σ H Q I h
 refine isTrue_or (dq (ha pp s σ H _ I h) fun c s1 ⟨H1,I1,q1⟩=>?_)
 cases c with
 |true=>exact⟨H1,I1,q1⟩
 |false=>exact hb wh pp s1 σ H1 Q I1 q1
theorem KC (ha:PT X a tA):PT X (.UnaryOp .Not a pos) (agL tA):=by
 intro pp s σ H Q I h
 exact isTrue_not (ha pp s σ H (fun c H1=>Q (!c) H1) I h)
def adj (ta tb:TE):TE:=fun σ H Q=>ta σ H fun x H1=>∃c,x = .bl c∧if c=true then tb σ H1 Q else Q (.bl false) H1
def agM (ta tb:TE):TE:=fun σ H Q=>ta σ H fun x H1=>∃c,x = .bl c∧if c=true then Q (.bl true) H1 else tb σ H1 Q
def adk (ta:TE):TE:=fun σ H Q=>ta σ H fun x H1=>∃c,x = .bl c∧Q (.bl (!c)) H1
theorem ue {op} {t:TE} (h:PE X a t):PE X (.BoolOp op [a] pos) t:=fun pp s σ H Q I hw=>BoolOp_one (h pp s σ H Q I hw)
theorem KD (ha:PE X a ta) (hb:PE X (.BoolOp .And (b::rest) pos) tb):PE X (.BoolOp .And (a::b::rest) pos) (adj ta tb):=by
 intro pp s σ H Q I h
 refine BoolOp_and (dq (ha pp s σ H _ I h) fun v s1 ⟨x,H1,I1,r1,q1⟩=>?_)
 obtain⟨c,rfl,q1⟩:=q1
 cases r1
 refine wpAny_truthy_bool ?_
 cases c with
 |true=>exact hb pp s1 σ H1 Q I1 q1
 |false=>exact⟨.bl false,H1,I1,rfl,q1⟩
theorem QV (ha:PE X a ta) (hb:PE X (.BoolOp .Or (b::rest) pos) tb):PE X (.BoolOp .Or (a::b::rest) pos) (agM ta tb):=by
 intro pp s σ H Q I h
 refine BoolOp_or (dq (ha pp s σ H _ I h) fun v s1 ⟨x,H1,I1,r1,q1⟩=>?_)
 obtain⟨c,rfl,q1⟩:=q1
 cases r1
 refine wpAny_truthy_bool ?_
 cases c with
 |false=>exact hb pp s1 σ H1 Q I1 q1
 |true=>exact⟨.bl true,H1,I1,rfl,q1⟩
theorem Uc (ha:PE X a ta):PE X (.UnaryOp .Not a pos) (adk ta):=by
 intro pp s σ H Q I h
 refine UnaryOp_ (dq (ha pp s σ H _ I h) fun v s1 ⟨x,H1,I1,r1,q1⟩=>?_)
 obtain⟨c,rfl,q1⟩:=q1
 cases r1
 exact not_of (wpAny_truthy_bool ⟨.bl (!c),H1,I1,rfl,q1⟩)
def tIf (t:TT) (ta tb:TE):TE:=fun σ H Q=>t σ H fun c H1=>if c=true then ta σ H1 Q else tb σ H1 Q
theorem Fp {c:Expr} (hc:PT X c tA) (ha:PE X a ta) (hb:PE X b tb):PE X (.IfExp c a b pos) (tIf tA ta tb):=by
 intro pp s σ H Q I h
 refine wpAny_IfExp (dq (hc pp s σ H _ I h) fun d s1 ⟨H1,I1,q1⟩=>?_)
 cases d with
 |true=>exact ha pp s1 σ H1 Q I1 q1
 |false=>exact hb pp s1 σ H1 Q I1 q1
end
def bP (K:W.Frag) (H:Hp) (a:Addr) (xs:List V):Prop :=
 Rd H a (.lst xs) ∨
  ∃(o:Obj) (bu:Array Value) (n:Nat),K.lookup a=some o∧o.cls = .type "list"∧o.dict=none∧o.data = .seq bu n∧bu.size≤sizeLine∧Vals xs bu.toList
def tV (K:W.Frag) (H:Hp) (a:Addr) (xs:List V):Prop :=
 Rd H a (.tup xs) ∨
  ∃(o:Obj) (bu:Array Value) (n:Nat),K.lookup a=some o∧o.cls = .type "tuple"∧o.data = .seq bu n∧bu.size≤sizeLine∧Vals xs bu.toList
def agN:Value→Option V
 | .none=>some .dh
 | .bool b=>some (.bl b)
 | .int i _=>some (.int i)
 | .str x _=>some (.str x)
 | .bytes b _=>some (.OK b)
 | .float b _=>some (.flt b)
 | .ref a=>some (.ref a)
 | .type n=>some (.ty n)
 |_=>none
theorem RelV.abs {x:V} {u:Value} (r:RelV x u):agN u=some x:=by
 cases x with
 |dh=>cases r;rfl
 |bl _=>cases r;rfl
 |int _=>obtain⟨t,rfl⟩:=r;rfl
 |str _=>obtain⟨t,rfl⟩:=r;rfl
 |OK _=>obtain⟨t,rfl⟩:=r;rfl
 |flt _=>obtain⟨t,rfl⟩:=r;rfl
 |ref _=>cases r;rfl
 |ty _=>cases r;rfl
theorem RelV.inj {x y:V} {u:Value} (r:RelV x u) (q:RelV y u):x=y:=Option.some.inj (r.abs.symm.trans q.abs)
theorem Vals.inj:∀{xs ys:List V} {us:List Value},Vals xs us→Vals ys us→xs=ys
 |_,_,_,.nil,.nil=>rfl
 |_,_,_,.cons r t,.cons r' t'=>by rw[r.inj r',Vals.inj t t']
section
variable {X:Cx} {pp:List (Addr×Obj)} {σ:St} {H:Hp} {s:Shared} {a:Addr} {xs ys:List V}
theorem bP.of {K:W.Frag} (h:H a=some (.lst xs)):bP K H a xs:=.inl (.inl h)
theorem tV.of {K:W.Frag} (h:H a=some (.tup xs)):tV K H a xs:=.inl (.inl h)
theorem Inv.list (I:Inv X pp σ H s) (h:bP X.K H a xs):∃bu:List Value,Vals xs bu∧PlainL s.heap a bu.toArray∧xs.length≤sizeLine:=by
 rcases h with h|⟨o,bu,n,hk,hc,hd,hs,hz,r⟩
 ·obtain⟨z,bu,n,r,e⟩:=h.ok I.cG
  exact⟨bu,r,⟨_,n,e,rfl,rfl,rfl⟩,z⟩
 ·refine⟨bu.toList,r,⟨o,n,I.Fi a o hk,hc,hd,by simpa using hs⟩,?_⟩
  have e:=r.length
  simp only[Array.length_toList]at e
  lia
theorem Inv.tuple (I:Inv X pp σ H s) (h:tV X.K H a xs):∃bu:List Value,Vals xs bu∧IsTup s.heap a bu.toArray∧xs.length≤sizeLine:=by
 rcases h with h|⟨o,bu,n,hk,hc,hs,hz,r⟩
 ·obtain⟨z,bu,r,p⟩:=h.ok I.cG
  exact⟨bu,r,p,z⟩
 ·refine⟨bu.toList,r,⟨o,I.Fi a o hk,hc,n,by simpa using hs⟩,?_⟩
  have e:=r.length
  simp only[Array.length_toList]at e
  lia
theorem Inv.zT (I:Inv X pp σ H s) (h:bP X.K H a xs) (h':bP X.K H a ys):xs=ys:=by
 obtain⟨bu,r,⟨o,n,e,_,_,d⟩,_⟩:=I.list h
 obtain⟨its',r',⟨o',n',e',_,_,d'⟩,_⟩:=I.list h'
 rw[e]at e';cases e'
 rw[d]at d'
 injection d' with d1 _
 have:bu=its':=by simpa using congrArg toList d1
 subst this
 exact r.inj r'
theorem Inv.Sb (I:Inv X pp σ H s) (h:tV X.K H a xs) (h':tV X.K H a ys):xs=ys:=by
 obtain⟨bu,r,⟨o,e,_,n,d⟩,_⟩:=I.tuple h
 obtain⟨its',r',⟨o',e',_,n',d'⟩,_⟩:=I.tuple h'
 rw[e]at e';cases e'
 rw[d]at d'
 injection d' with d1 _
 have:bu=its':=by simpa using congrArg toList d1
 subst this
 exact r.inj r'
end
abbrev Cx.Eg (X:Cx) (E:Value→Shared→Prop):Cx:={X with xe:=E}
theorem Cx.Ok.Eg {X:Cx} (ok:X.Ok) (E:Value→Shared→Prop):(X.Eg E).Ok :=
 ⟨ok.mod,ok.kind,ok.glob,ok.blt,ok.above,ok.inj,ok.has,ok.cab,ok.hd,ok.frames,ok.stk,ok.exf,ok.bs,ok.WI,ok.R9,ok.OL,ok.yz,ok.Zj⟩
section
variable {X:Cx} {pp:List (Addr×Obj)} {σ:St} {H:Hp} {s:Shared} {E:Value→Shared→Prop}
theorem Inv.Eg (I:Inv X pp σ H s) (E:Value→Shared→Prop):Inv (X.Eg E) pp σ H s:=⟨I.ok.Eg E,I.os,I.bare,I.base,I.loc,I.cell,I.free,I.oS,I.pin,I.cG,I.len⟩
end
section
variable {X:Cx} {st:Stmt} {rest:List Stmt} {t u:TS} {e:Expr} {te:TE} {pos:Pos}
def adl:TS:=fun D σ H=>D.nx σ H
def adm (t u:TS):TS:=fun D σ H=>t {D with nx:=u D} σ H
theorem gz:Sa X [] adl:=fun _ _ σ H _ I h=>wpAny_execs_nil ⟨σ,H,I,h⟩
theorem ae (h1:PS X st t) (h2:Sa X rest u):Sa X (st::rest) (adm t u):=by
 intro pp s σ H D I h
 refine wpAny_execs_cons (dq (h1 pp s σ H {D with nx:=u D} I h) fun f s1 q=>?_)
 cases f with
 |next =>
  obtain⟨σ',H',I',q⟩:=q
  exact h2 pp s1 σ' H' D I' q
 |ret v=>exact q
 |brk=>exact q
 |cont=>exact q
theorem ag (h1:PS X st t):Sa X [st] t:=by
 intro pp s σ H D I h
 refine wpAny_execs_cons (dq (h1 pp s σ H D I h) fun f s1 q=>?_)
 cases f with
 |next=>exact wpAny_execs_nil q
 |ret v=>exact q
 |brk=>exact q
 |cont=>exact q
theorem Inv.quiet {pp:List (Addr×Obj)} {σ:St} {H:Hp} {s:Shared} (I:Inv X pp σ H s):interactive X.env=false:=by simp[interactive,I.ok.kind]
def Ud (te:TE):TS:=fun D σ H=>te σ H fun _ H1=>D.nx σ H1
theorem aR (he:PE X e te) (hs:swapsWith e none pos.line X.env=pure false:=by rfl):PS X (.Expr e pos) (Ud te):=by
 intro pp s σ H D I h
 exact wpAny_Expr_any (dq (he pp s σ H _ I h) fun v s1 ⟨x,H1,I1,r1,q1⟩=>⟨σ,H1,I1,q1⟩) I.quiet hs
def aar (te:TE):TS:=fun D σ H=>te σ H D.rt
theorem aS (he:PE X e te):PS X (.Return (some e) pos) (aar te):=by
 intro pp s σ H D I h
 exact wpAny_Return_some (dq (he pp s σ H _ I h) fun v s1 ⟨x,H1,I1,r1,q1⟩=>⟨x,σ,H1,I1,r1,q1⟩)
def adn:TS:=fun D _ H=>D.rt .dh H
theorem W5:PS X (.Return none pos) adn:=fun _ _ σ H _ I h=>wpAny_Return_none ⟨.dh,σ,H,I,rfl,h⟩
def agO (c:TT) (t u:TS):TS:=fun D σ H=>c σ H fun b H1=>if b=true then t D σ H1 else u D σ H1
theorem dt {c:Expr} {a b:List Stmt} {tc:TT} (hc:PT X c tc) (ha:Sa X a t) (hb:Sa X b u):PS X (.If c a b pos) (agO tc t u):=by
 intro pp s σ H D I h
 refine wpAny_If (dq (hc pp s σ H _ I h) fun d s1 ⟨H1,I1,q1⟩=>?_)
 cases d with
 |true=>exact ha pp s1 σ H1 D I1 q1
 |false=>exact hb pp s1 σ H1 D I1 q1
end
abbrev TG:=V→St→Hp→(St→Hp→Prop)→Prop
abbrev TGs:=List V→St→Hp→(St→Hp→Prop)→Prop
def PG (X:Cx) (target:Expr) (t:TG):Prop :=
 ∀(pp:List (Addr×Obj)) (s:Shared) (σ:St) (H:Hp) (v:V) (u:Value) (Q:St→Hp→Prop),Inv X pp σ H s→RelV v u→t v σ H Q →
  wpAny (model X.prog X.w) X.A (assign target X.env u) (fun _ s'=>∃σ' H',Inv X pp σ' H' s'∧Q σ' H') X.xe s
def PGs (X:Cx) (ts:List Expr) (t:TGs):Prop :=
 ∀(pp:List (Addr×Obj)) (s:Shared) (σ:St) (H:Hp) (vs:List V) (us:List Value) (Q:St→Hp→Prop),Inv X pp σ H s→Vals vs us→t vs σ H Q →
  wpAny (model X.prog X.w) X.A (assignInOrder ((assignEach ts X.env).map (·.2)) us) (fun _ s'=>∃σ' H',Inv X pp σ' H' s'∧Q σ' H') X.xe s
abbrev aat:=V→V→V→Hp→(Hp→Prop)→Prop
def ado (X:Cx) (t:aat):Prop :=
 ∀(pp:List (Addr×Obj)) (s:Shared) (σ:St) (H:Hp) (o i v:V) (ov iv u:Value) (Q:Hp→Prop),Inv X pp σ H s→RelV o ov→RelV i iv→RelV v u→t o i v H Q →
  wpAny (model X.prog X.w) X.A (setItem ov iv u) (fun _ s'=>∃H',Inv X pp σ H' s'∧Q H') X.xe s
abbrev TIp:=V→V→Hp→VK→Prop
def PIp (X:Cx) (op:Operator) (t:TIp):Prop :=
 ∀(pp:List (Addr×Obj)) (s:Shared) (σ:St) (H:Hp) (x y:V) (v u:Value) (Q:VK),Inv X pp σ H s→RelV x v→RelV y u→t x y H Q →
  wpAny (model X.prog X.w) X.A (inplaceOp op v u) (EP X pp σ Q) X.xe s
section
variable {X:Cx} {pos:Pos}
def Jz (i:Nat):TG:=fun v σ H Q=>Q (σ.set i (some v)) H
theorem dJ {i:Nat} {x:Str} (hN:X.N.Nodup) (hi:X.N[i]?=some x) (hx:Loc X.env.scope x) (hf:X.fn x=true∨X.env.scope.names.lookup x=some .local:=by first|exact .inl rfl|exact .inr rfl|assumption):PG X (.Name x pos) (Jz i):=by
 intro pp s σ H v u Q I r h
 exact wpAny_assign_Name (Fm I hN hi hx r (fun s' I'=>⟨_,H,I',h⟩) hf)
def adp:TGs:=fun vs σ H Q=>vs=[]∧Q σ H
def Ue (t:TG) (u:TGs):TGs:=fun vs σ H Q=>∃v r,vs=v::r∧t v σ H fun σ' H'=>u r σ' H' Q
theorem W6:PGs X [] adp:=by
 intro pp s σ H vs us Q I r h
 obtain⟨e,h⟩:=h
 subst e
 cases r
 exact assignInOrder_nil ⟨σ,H,I,h⟩
theorem MB {e:Expr} {es:List Expr} {t:TG} {u:TGs} (h1:PG X e t) (h2:PGs X es u)
 (hs:(assignEach (e::es) X.env).map (·.2)=assign e X.env::(assignEach es X.env).map (·.2):=by rfl):PGs X (e::es) (Ue t u):=by
 intro pp s σ H vs us Q I r h
 obtain⟨v,vr,e1,h⟩:=h
 subst e1
 cases r with
 |cons r rr =>
  rw[hs]
  refine assignInOrder_cons (dq (h1 pp s σ H _ _ _ I r h) fun _ s1 ⟨σ1,H1,I1,q1⟩=>?_)
  exact h2 pp s1 σ1 H1 _ _ Q I1 rr q1
def adq (K:W.Frag) (n:Nat) (t:TGs):TG:=fun v σ H Q=>∃a xs,v = .ref a∧tV K H a xs∧xs.length=n∧t xs σ H Q
theorem aau {es:List Expr} {k:Nat} {t:TGs} {n:Nat} (hc:X.calm=true) (h:PGs X es t)
 (hn:(assignEach es X.env).length=n:=by rfl) (jj:(assignEach es X.env).findIdx? (·.1)=none:=by rfl):PG X (.Tuple es k pos) (adq X.K n t):=by
 intro pp s σ H v u Q I r hw
 obtain⟨a,xs,e1,hq,hl,hw⟩:=hw
 subst e1
 cases r
 obtain⟨bu,rv,ht,hz⟩:=I.tuple hq
 refine assign_Tuple_tuple (I.ok.hd hc) ht (by simp[hn,←hl,rv.length]) jj fun h' hx=>?_
 have I1:Inv X pp σ H {s with heap:=h'}:=I.kept (t':=s.toks) fun b o e=>hx b o (ne_of_lt (Heap.lt_size e)) e
 exact h pp _ σ H xs _ Q I1 (by simpa using rv) hw
def agQ (to ti:TE) (t:aat):TG:=fun v σ H Q=>to σ H fun o H1=>ti σ H1 fun i H2=>t o i v H2 fun H3=>Q σ H3
theorem Ug {o i:Expr} {to ti:TE} {t:aat} (ho:PE X o to) (hi:PE X i ti) (hs:ado X t)
 (ha:∀v,assign (.Subscript o i pos) X.env v=(do
  let ov ←holding [v] (eval o X.env)
  let iv ←holding [v,ov] (eval i X.env)
  standAt pos
  holding [v,ov,iv] (setItem ov iv v)
  release [v,ov,iv] []):=by intro _;rfl):PG X (.Subscript o i pos) (agQ to ti t):=by
 intro pp s σ H v u Q I r h
 rw[ha]
 refine wpAny_bind (wpAny_holding (dq (ho pp s σ H _ I h) fun ov s1 ⟨x,H1,I1,r1,q1⟩=>?_))
 refine wpAny_bind (wpAny_holding (dq (hi pp s1 σ H1 _ I1 q1) fun iv s2 ⟨y,H2,I2,r2,q2⟩=>?_))
 refine wpAny_bind (wpAny_standAt (wpAny_bind (wpAny_holding (dq (hs pp s2 σ H2 x y v ov iv u _ I2 r1 r2 r q2) fun _ s3 ⟨H3,I3,q3⟩=>?_))))
 exact wpAny_release ⟨σ,H3,I3,q3⟩
def aav (te:TE) (g:TG):TS:=fun D σ H=>te σ H fun x H1=>g x σ H1 D.nx
theorem Uh {tg e:Expr} {te:TE} {g:TG} (he:PE X e te) (hg:PG X tg g) (hs:swapsWithSole [tg] e pos.line X.env=pure false:=by rfl) (hw:swappedStores [tg] e X.env=pure none:=by rfl)
 (h1:(assignEach [tg] X.env).map (·.2)=[assign tg X.env]:=by rfl):PS X (.Assign [tg] e pos) (aav te g):=by
 intro pp s σ H D I h
 refine wpAny_Assign_stores (dq (he pp s σ H _ I h) fun v s1 ⟨x,H1,I1,r1,q1⟩=>?_) hs hw
 rw[h1]
 exact dq (hg pp s1 σ H1 x v _ I1 r1 q1) fun _ s2 q=>q
theorem aI {i:Nat} {x:Str} {e:Expr} {te:TE} {pos':Pos} (hN:X.N.Nodup) (hi:X.N[i]?=some x) (hx:Loc X.env.scope x) (he:PE X e te) (hs:swapsWith e (some (.Name x pos')) pos.line X.env=pure false:=by rfl) (hf:X.fn x=true∨X.env.scope.names.lookup x=some .local:=by first|exact .inl rfl|exact .inr rfl|assumption) :
 PS X (.Assign [.Name x pos'] e pos) (aav te (Jz i)):=by
 intro pp s σ H D I h
 refine wpAny_Assign_Name (dq (he pp s σ H _ I h) fun v s1 ⟨y,H1,I1,r1,q1⟩=>?_) hs
 exact Fm I1 hN hi hx r1 (fun s2 I2=>⟨_,H1,I2,q1⟩) hf
def agR (i:Nat) (te:TE) (ti:TIp):TS:=fun D σ H=>∃x,σ[i]?=some (some x)∧te σ H fun y H1=>ti x y H1 fun z H2=>D.nx (σ.set i (some z)) H2
theorem ON {i:Nat} {x:Str} {e:Expr} {te:TE} {op:Operator} {ti:TIp} {pos':Pos} (hN:X.N.Nodup) (hi:X.N[i]?=some x) (hx:Loc X.env.scope x) (he:PE X e te) (ho:PIp X op ti) (hf:X.fn x=true∨X.env.scope.names.lookup x=some .local:=by first|exact .inl rfl|exact .inr rfl|assumption) :
 PS X (.AugAssign (.Name x pos') op e pos) (agR i te ti):=by
 intro pp s σ H D I h
 obtain⟨v,e1,h⟩:=h
 obtain⟨m,hn,hl⟩:=I.loc
 have vis:Vis X.env.scope x:=by rcases hx with k|k;exact .inl k;exact .inr (.inl k)
 obtain⟨u,r,l⟩:=hl i x v hi e1 vis
 refine wpAny_AugAssign_Name ?_
 have go:wpAny (model X.prog X.w) X.A (eval e X.env) (fun w s₂=>wpAny (model X.prog X.w) X.A (inplaceOp op u w) (fun r s₃=>wpAny (model X.prog X.w) X.A (storeName X.env x r) (fun _=>SP X pp D .next) X.xe s₃) X.xe s₂) X.xe s:=by
  refine dq (he pp s σ H _ I h) fun w s1 ⟨y,H1,I1,r1,q1⟩=>?_
  refine dq (ho pp s1 σ H1 v y u w _ I1 r r1 q1) fun z s2 ⟨zv,H2,I2,r2,q2⟩=>?_
  exact Fm I2 hN hi hx r2 (fun s3 I3=>⟨_,H2,I3,q2⟩) hf
 rcases l with⟨hk,hm⟩|⟨hk,c,hc,QT⟩
 ·exact wpAny_loadName_local I.ok.kind hk hn hm go
 ·rcases hk with hk|hk
  ·exact wpAny_loadName_cell I.ok.kind hk hc QT go
  ·rcases hx with k|k
   ·have:X.env.scope.names.lookup x=some .free:=hk
    rw[k]at this;cases this
   ·have:X.env.scope.names.lookup x=some .free:=hk
    rw[k]at this;cases this
def ipI (f:Int→Int→Int):TIp:=fun x y H Q=>∃i j,x = .int i∧y = .int j∧Q (.int (f i j)) H
theorem aaw:PIp X .Add (ipI fun i j=>i+j):=by
 intro pp s σ H x y v u Q I r1 r2 h
 obtain⟨i,j,e1,e2,q⟩:=h
 subst e1;subst e2
 obtain⟨t,rfl⟩:=r1
 obtain⟨t',rfl⟩:=r2
 exact iadd_int ⟨.int _,H,I.tok _,⟨_,rfl⟩,q⟩
theorem aax:PIp X .Sub (ipI fun i j=>i-j):=by
 intro pp s σ H x y v u Q I r1 r2 h
 obtain⟨i,j,e1,e2,q⟩:=h
 subst e1;subst e2
 obtain⟨t,rfl⟩:=r1
 obtain⟨t',rfl⟩:=r2
 exact isub_int ⟨.int _,H,I.tok _,⟨_,rfl⟩,q⟩
def aay (c:TT) (tb:TS):TS:=fun D σ H=>∃W:Nat→St→Hp→Prop,(∃m,W m σ H)∧∀m σ H,W m σ H →
 c σ H fun b H1=>if b=true then ∃N:St→Hp→Prop,(∀σ' H',N σ' H'→∃m',m'<m∧W m' σ' H')∧tb {D with nx:=N,ct:=N,bk:=D.nx} σ H1 else D.nx σ H1
theorem qw {c:Expr} {body:List Stmt} {tc:TT} {tb:TS} (hp:PassesOwn (model X.prog X.w) X.A X.env X.xe) (hc:PT X c tc) (hb:Sa X body tb):PS X (.While c body [] pos) (aay tc tb):=by
 intro pp s σ H D I h
 obtain⟨W,⟨m0,w0⟩,turn⟩:=h
 refine wpAny_While (codeAny_whileLoop (fun n s'=>∃σ' H',Inv X pp σ' H' s'∧W n σ' H') ?_ m0 ⟨σ,H,I,w0⟩)
 rintro n s1 ⟨σ1,H1,I1,w1⟩
 refine wpAny_passesOwn hp (dq (hc pp s1 σ1 H1 _ I1 (turn n σ1 H1 w1)) fun b s2 ⟨H2,I2,q2⟩=>?_)
 cases b with
 |true =>
  obtain⟨N,hN,q2⟩:=q2
  rw[iPp rfl]
  refine wpAny_passesOwn hp (dq (hb pp s2 σ1 H2 _ I2 q2) fun f s3 q3=>?_)
  cases f with
  |next =>
   obtain⟨σ3,H3,I3,n3⟩:=q3
   obtain⟨m',hm,w3⟩:=hN σ3 H3 n3
   exact⟨m',hm,σ3,H3,I3,w3⟩
  |cont =>
   obtain⟨σ3,H3,I3,n3⟩:=q3
   obtain⟨m',hm,w3⟩:=hN σ3 H3 n3
   exact⟨m',hm,σ3,H3,I3,w3⟩
  |brk=>exact q3
  |ret v=>exact q3
 |false =>
  rw[IN Bool.false_ne_true]
  exact wpAny_execs_nil ⟨σ1,H2,I2,q2⟩
end
structure It where
 go:Nat→Hp→Prop
 W7:Nat→Hp→V→Hp→Prop
 stop:Nat→Hp→Prop
def yB (X:Cx) (pp:List (Addr×Obj)) (H:Hp) (b:Addr):Prop :=
 H b=none∧b≠X.env.locals∧b∉X.fs∧(b∈X.ex∨X.s₀.heap.objs.size≤b)∧(∀x c,X.env.cells.lookup x=some c→c≠b)∧∀p∈X.pn++pp,p.1≠b
theorem Inv.MC {X:Cx} {pp:List (Addr×Obj)} {σ:St} {H H':Hp} {s:Shared} {b:Addr} (I:Inv X pp σ H s) (hb:s.heap.objs.size≤b) (hn:H' b=none):yB X pp H' b:=by
 refine⟨hn,ne_of_gt (lt_of_lt_of_le I.lt hb),I.aam hb,.inr (le_trans I.sz hb),fun x c e z=>?_,fun p hp z=>?_⟩
 ·obtain⟨v,q⟩:=I.cell x c e
  exact absurd (lt_of_lt_of_le q.lt (by rw[z];exact hb)) (lt_irrefl _)
 ·exact absurd (lt_of_lt_of_le (Heap.lt_size (I.pin p hp).1) (by rw[z];exact hb)) (lt_irrefl _)
structure Turn (P:Program) (w:World) (K:W.Frag) (tg:Expr) (J:It) (fp:List Addr) (it:Addr) (tn:Nat→Heap→Prop):Prop where
 mem:it∈fp
 obj:∀i h,tn i h→∀b∈fp,∃o,h.get? b=some o∧∀v,o.data≠.cell v
 keep:∀i h h',tn i h→(∀b∈fp,∀o,h.get? b=some o→h'.get? b=some o)→tn i h'
 item:∀(X:Cx),X.prog=P→X.w=w→X.K=K→X.calm=true→∀(i:Nat) (pp:List (Addr×Obj)) (s:Shared) (σ:St) (H:Hp) (E:Value→Shared→Prop),Inv X pp σ H s→(∀b∈fp,yB X pp H b)→tn i s.heap→J.go i H →
  wpAny (model P w) X.A (pyNext (.ref it)) (fun r s1=>∃u,r=some u ∧
   wpAny (model P w) X.A (letOwnedTupleGo tg (.ref it) u) (fun _ s2=>∃x H',Inv X pp σ H' s2∧RelV x u∧J.W7 i H x H'∧tn (i+1) s2.heap∧∀b∈fp,H' b=none) E s1) E s
 done:∀(X:Cx),X.prog=P→X.w=w→X.K=K→X.calm=true→∀(i:Nat) (pp:List (Addr×Obj)) (s:Shared) (σ:St) (H:Hp) (E:Value→Shared→Prop),Inv X pp σ H s→(∀b∈fp,yB X pp H b)→tn i s.heap→J.stop i H →
  wpAny (model P w) X.A (pyNext (.ref it)) (fun r s1=>r=none∧Inv X pp σ H s1) E s
 self:∀(A:Around) (i:Nat) (s:Shared) (Q:Value→Shared→Prop) (E:Value→Shared→Prop),tn i s.heap→Q (.ref it) s→wpAny (model P w) A (pyIter (.ref it)) Q E s
abbrev TI:=St→Hp→(It→Hp→Prop)→Prop
def PIE (X:Cx) (pp:List (Addr×Obj)) (σ:St) (tg:Expr) (R:It→Hp→Prop) (itv:Value) (s2:Shared):Prop :=
 ∃(it:Addr) (fp:List Addr) (tn:Nat→Heap→Prop) (J:It) (H':Hp),itv = .ref it∧Inv X pp σ H' s2∧Turn X.prog X.w X.K tg J fp it tn∧tn 0 s2.heap∧(∀b∈fp,yB X pp H' b)∧R J H'
def PI (X:Cx) (tg iter:Expr) (wi:TI):Prop :=
 ∀(pp:List (Addr×Obj)) (s:Shared) (σ:St) (H:Hp) (R:It→Hp→Prop),Inv X pp σ H s→wi σ H R →
  wpAny (model X.prog X.w) X.A (eval iter X.env) (fun v s1=>wpAny (model X.prog X.w) X.A (pyIter v) (PIE X pp σ tg R) X.xe s1) X.xe s
theorem QW {M:Model} {A:Around} {E:Value→Shared→Prop} {s:Shared} {tg:Expr} {it:Addr} {u:Value} {o:Obj} {n:String} {vs:Array Value} {Q:Unit→Shared→Prop} (ho:s.heap.get? it=some o) (hc:o.cls = .type n) (hd:o.data = .fields vs)
 (hn:["enumerate","zip","dict_itemiterator","dict_reverseitemiterator","odict_iterator","itertools.zip_longest","itertools.pairwise"].contains n=false) (hQ:Q () s):wpAny M A (letOwnedTupleGo tg (.ref it) u) Q E s:=by
 unfold letOwnedTupleGo
 cases tg<;>first
  |exact wpAny_pure hQ
  |(cases u<;>first
     |exact wpAny_pure hQ
     |(refine wpAny_bind (wpAny_load ho ?_)
       rw[hc,hd]
       show wpAny M A (if (["enumerate","zip","dict_itemiterator","dict_reverseitemiterator","odict_iterator","itertools.zip_longest","itertools.pairwise"].contains n&&vs[0]?==some (rawInt _))=true then _ else _) Q E s
       rw[IN (by intro h;rw[hn,Bool.false_and]at h;cases h)]
       exact wpAny_pure hQ))
def Zl (K:W.Frag) (a:Addr):It :=
 ⟨fun i H=>∃xs x,bP K H a xs∧xs[i]?=some x,fun i H x H'=>H'=H∧∀xs,bP K H a xs→xs[i]?=some x,fun i H=>∃xs,bP K H a xs∧xs.length≤i⟩
def Itt (K:W.Frag) (a:Addr):It :=
 ⟨fun i H=>∃xs x,tV K H a xs∧xs[i]?=some x,fun i H x H'=>H'=H∧∀xs,tV K H a xs→xs[i]?=some x,fun i H=>∃xs,tV K H a xs∧xs.length≤i⟩
def Itr (lo:Int) (n:Nat):It:=⟨fun i _=>i<n,fun i H x H'=>H'=H∧x = .int (lo+i),fun i _=>n≤i⟩
theorem Sd {P:Program} {w:World} {K:W.Frag} {tg:Expr} (a it:Addr):Turn P w K tg (Zl K a) [it] it (fun i h=>h.IsListIter it a i) where
 mem:=by simp
 obj:=fun i h st b hb=>by
  have e:b=it:=by simpa using hb
  subst e
  obtain⟨o,e,c,d⟩:=st
  exact⟨o,e,fun v z=>by rw[d]at z;cases z⟩
 keep:=fun i h h' st k=>st.at fun o e=>k it (by simp) o e
 item:=by
  intro X hP hw hK hc i pp s σ H E I hf st hg
  subst hP hw hK
  obtain⟨xs,x,hq,hx⟩:=hg
  obtain⟨bu,rv,p,hz⟩:=I.list hq
  obtain⟨u,hu,ru⟩:=rv.get hx
  obtain⟨f0,f1,f2,f3,f4,f5⟩:=hf it (by simp)
  refine wpAny_pyNext_list_item st p.isList (x:=u) (by simpa using hu) fun h' KG sb=>?_
  have I1:Inv X pp σ H {s with heap:=h'}:=I.turned (t':=s.toks) (fun b o hb e=>(sb.2 b hb).trans e) f0 f1 f3 f4 f5
  obtain⟨o,e,c,d⟩:=id KG
  exact⟨u,rfl,QW (s:={s with heap:=h'}) e c d (by decide) ⟨x,H,I1,ru,⟨rfl,fun ys hy=>by rw[I.zT hy hq];exact hx⟩,KG,fun b hb=>(hf b hb).1⟩⟩
 done:=by
  intro X hP hw hK hc i pp s σ H E I hf st hg
  subst hP hw hK
  obtain⟨xs,hq,hx⟩:=hg
  obtain⟨bu,rv,p,hz⟩:=I.list hq
  obtain⟨f0,f1,f2,f3,f4,f5⟩:=hf it (by simp)
  have hl:=rv.length
  exact wpAny_pyNext_list_end (I.ok.hd hc) st p.isList (by simp;lia) fun h' eb=>⟨rfl,I.turned (t':=s.toks) (fun b o hb e=>eb b o hb e) f0 f1 f3 f4 f5⟩
 self:=fun _ _ _ _ _ st h=>wpAny_pyIter_listiter st h
theorem OO {P:Program} {w:World} {K:W.Frag} {tg:Expr} (a it:Addr):Turn P w K tg (Itt K a) [it] it (fun i h=>h.IsTupleIter it a i) where
 mem:=by simp
 obj:=fun i h st b hb=>by
  have e:b=it:=by simpa using hb
  subst e
  obtain⟨o,e,c,d⟩:=st
  exact⟨o,e,fun v z=>by rw[d]at z;cases z⟩
 keep:=fun i h h' st k=>st.at fun o e=>k it (by simp) o e
 item:=by
  intro X hP hw hK hc i pp s σ H E I hf st hg
  subst hP hw hK
  obtain⟨xs,x,hq,hx⟩:=hg
  obtain⟨bu,rv,p,hz⟩:=I.tuple hq
  obtain⟨u,hu,ru⟩:=rv.get hx
  obtain⟨f0,f1,f2,f3,f4,f5⟩:=hf it (by simp)
  refine wpAny_pyNext_tuple_item st (show s.heap.IsTuple a bu.toArray from p) (x:=u) (by simpa using hu) fun h' KG sb=>?_
  have I1:Inv X pp σ H {s with heap:=h'}:=I.turned (t':=s.toks) (fun b o hb e=>(sb.2 b hb).trans e) f0 f1 f3 f4 f5
  obtain⟨o,e,c,d⟩:=id KG
  exact⟨u,rfl,QW (s:={s with heap:=h'}) e c d (by decide) ⟨x,H,I1,ru,⟨rfl,fun ys hy=>by rw[I.Sb hy hq];exact hx⟩,KG,fun b hb=>(hf b hb).1⟩⟩
 done:=by
  intro X hP hw hK hc i pp s σ H E I hf st hg
  subst hP hw hK
  obtain⟨xs,hq,hx⟩:=hg
  obtain⟨bu,rv,p,hz⟩:=I.tuple hq
  obtain⟨f0,f1,f2,f3,f4,f5⟩:=hf it (by simp)
  have hl:=rv.length
  exact wpAny_pyNext_tuple_end (I.ok.hd hc) st (show s.heap.IsTuple a bu.toArray from p) (by simp;lia) fun h' eb=>⟨rfl,I.turned (t':=s.toks) (fun b o hb e=>eb b o hb e) f0 f1 f3 f4 f5⟩
 self:=fun _ _ _ _ _ st h=>wpAny_pyIter_tupleiter st h
theorem OP {P:Program} {w:World} {K:PySem.W.Frag} {tg:Expr} (it:Addr) (lo:Int) (n:Nat):Turn P w K tg (Itr lo n) [it] it (fun i h=>IsRangeIter h it (lo+(i:Nat)*1) ((n:Int)-(i:Nat)) 1) where
 mem:=by simp
 obj:=fun i h st b hb=>by
  have e:b=it:=by simpa using hb
  subst e
  exact⟨_,st,fun v z=>by
   have z':Data.fields _=Data.cell v:=z
   cases z'⟩
 keep:=fun i h h' st k=>k it (by simp) _ st
 item:=by
  intro X hP hw hK hc i pp s σ H E I hf st hg
  subst hP hw hK
  obtain⟨f0,f1,f2,f3,f4,f5⟩:=hf it (by simp)
  have W:=Walks.range (prog:=X.prog) (w:=X.w) (I.ok.hd hc) it lo 1 n
  refine W.item i s _ _ hg st fun v h' tk hv KG kk=>?_
  obtain⟨t,rfl⟩:=hv
  have I1:Inv X pp σ H {s with heap:=h',toks:=tk}:=I.turned (fun b o hb e=>kk b o (by simpa using hb) e) f0 f1 f3 f4 f5
  refine⟨_,rfl,QW (s:={s with heap:=h',toks:=tk}) (n := "range_iterator") KG rfl rfl (by decide) ⟨.int (lo+i),H,I1,⟨t,?_⟩,⟨rfl,rfl⟩,KG,fun b hb=>(hf b hb).1⟩⟩
  rw[Int.mul_one]
 done:=by
  intro X hP hw hK hc i pp s σ H E I hf st hg
  subst hP hw hK
  obtain⟨f0,f1,f2,f3,f4,f5⟩:=hf it (by simp)
  exact wpAny_pyNext_range_end (I.ok.hd hc) st (by have:n≤i:=hg;lia) fun h' eb=>⟨rfl,I.turned (t':=s.toks) (fun b o hb e=>eb b o hb e) f0 f1 f3 f4 f5⟩
 self:=fun _ _ _ _ _ st h=>wpAny_pyIter_rangeiter st h
section
variable {X:Cx} {tg:Expr}
def adt (K:W.Frag) (tl:TE):TI:=fun σ H R=>tl σ H fun x H1=>∃a,x = .ref a∧(∃xs,bP K H1 a xs)∧R (Zl K a) H1
def agT (K:W.Frag) (tl:TE):TI:=fun σ H R=>tl σ H fun x H1=>∃a,x = .ref a∧(∃xs,tV K H1 a xs)∧R (Itt K a) H1
theorem lA {l:Expr} {tl:TE} (hl:PE X l tl):PI X tg l (adt X.K tl):=by
 intro pp s σ H R I h
 refine dq (hl pp s σ H _ I h) fun v s1 ⟨x,H1,I1,r1,q1⟩=>?_
 obtain⟨a,e,⟨xs,hq⟩,q⟩:=q1
 subst e
 cases r1
 obtain⟨bu,rv,p,hz⟩:=I1.list hq
 refine wpAny_pyIter_list p.isList ?_
 refine⟨s1.heap.objs.size,[s1.heap.objs.size],_,_,H1,rfl,I1.kept (t':=s1.toks) fun b o e=>Heap.get?_push_of_some _ e,Sd a _,⟨_,Heap.get?_push_size _ rfl,rfl,rfl⟩,fun b hb=>?_,q⟩
 have e:b=s1.heap.objs.size:=by simpa using hb
 subst e
 exact I1.MC (le_refl _) (I1.cG.fresh (le_refl _))
theorem aaA {l:Expr} {tl:TE} (hl:PE X l tl):PI X tg l (agT X.K tl):=by
 intro pp s σ H R I h
 refine dq (hl pp s σ H _ I h) fun v s1 ⟨x,H1,I1,r1,q1⟩=>?_
 obtain⟨a,e,⟨xs,hq⟩,q⟩:=q1
 subst e
 cases r1
 obtain⟨bu,rv,p,hz⟩:=I1.tuple hq
 refine wpAny_pyIter_tuple (show s1.heap.IsTuple a bu.toArray from p) ?_
 refine⟨s1.heap.objs.size,[s1.heap.objs.size],_,_,H1,rfl,I1.kept (t':=s1.toks) fun b o e=>Heap.get?_push_of_some _ e,OO a _,⟨_,Heap.get?_push_size _ rfl,rfl,rfl⟩,fun b hb=>?_,q⟩
 have e:b=s1.heap.objs.size:=by simpa using hb
 subst e
 exact I1.MC (le_refl _) (I1.cG.fresh (le_refl _))
theorem MD {pp:List (Addr×Obj)} {σ:St} {H:Hp} {s:Shared} {R:It→Hp→Prop} {E:Value→Shared→Prop} {lo hi:Int} {t u v:Tok} {tk:Nat} (I:Inv X pp σ H s) (h1:-(2^62)≤lo) (h2:lo<2^62) (h3:-(2^62)≤hi) (h4:hi<2^62)
 (q:R (Itr lo (hi-lo).toNat) H):wpAny (model X.prog X.w) X.A (pyIter (.ref s.heap.objs.size)) (PIE X pp σ tg R) E {s with heap:=s.heap.push {cls:=.type "range",data:=.fields #[.int lo t,.int hi u,.int 1 v]},toks:=tk}:=by
 refine wpAny_pyIter_range (IsRange.new ..) (small_one h1 h2 h3 h4) ?_
 have I1:Inv X pp σ H {s with heap:=s.heap.push {cls:=.type "range",data:=.fields #[.int lo t,.int hi u,.int 1 v]},toks:=tk}:=I.kept fun b o e=>Heap.get?_push_of_some _ e
 refine⟨(s.heap.push {cls:=.type "range",data:=.fields #[.int lo t,.int hi u,.int 1 v]}).objs.size,[(s.heap.push {cls:=.type "range",data:=.fields #[.int lo t,.int hi u,.int 1 v]}).objs.size],_,_,H,rfl,
  I1.kept (t':=tk) fun b o e=>Heap.get?_push_of_some _ e,OP _ lo (hi-lo).toNat,?_,fun b hb=>?_,q⟩
 ·have e1:lo+((0:Nat):Int)*1=lo:=by simp
  have e2:(((hi-lo).toNat:Nat):Int)-((0:Nat):Int)=Builtin.Range.rangeSize lo hi 1:=by rw[rangeSize_one];split<;>lia
  show IsRangeIter _ _ (lo+((0:Nat):Int)*1) ((((hi-lo).toNat:Nat):Int)-((0:Nat):Int)) 1
  rw[e1,e2]
  exact Heap.get?_push_size _ rfl
 ·have e:b=(s.heap.push {cls:=.type "range",data:=.fields #[.int lo t,.int hi u,.int 1 v]}).objs.size:=by simpa using hb
  subst e
  exact I1.MC (le_refl _) (I1.cG.fresh (le_refl _))
def adu (ta:TA):TI:=fun σ H R=>ta σ H fun vs H1=>∃j:Int,vs=[.int j]∧-(2^62)≤j∧j<2^62∧R (Itr 0 j.toNat) H1
def adv (ta:TA):TI:=fun σ H R=>ta σ H fun vs H1=>∃i j:Int,vs=[.int i,.int j]∧(-(2^62)≤i∧i<2^62∧-(2^62)≤j∧j<2^62)∧R (Itr i (j-i).toNat) H1
theorem BU {a:Expr} {ta:TA} {p pos:Pos} (hg:Gl X "range") (hm:X.mg "range" = none) (ha:PA X [a] ta) (hs:starEach [a] X.env=[(false,eval a X.env)]:=by rfl):PI X tg (.Call (.Name "range" p) [a] [] pos) (adu ta):=by
 intro pp s σ H R I h
 refine Call_ (rB I hg hm boot_range (PyProof.Rows.callWith_type1 (dq (ha pos pp s σ H _ I h) fun us s1 ⟨vs,H1,I1,r1,q1⟩=>?_) hs rfl))
 obtain⟨j,e,q1,q2,q⟩:=q1
 subst e
 cases r1 with
 |cons r rr =>
  cases rr
  obtain⟨t,rfl⟩:=r
  exact call_range_1 (MD I1 (by lia) (by lia) q1 q2 (by simpa using q))
theorem JA {a b:Expr} {ta:TA} {p pos:Pos} (hg:Gl X "range") (hm:X.mg "range" = none) (ha:PA X [a,b] ta) (hs:starEach [a,b] X.env=[(false,eval a X.env),(false,eval b X.env)]:=by rfl) (Zm:starEach [b] X.env=[(false,eval b X.env)]:=by rfl) :
 PI X tg (.Call (.Name "range" p) [a,b] [] pos) (adv ta):=by
 intro pp s σ H R I h
 refine Call_ (rB I hg hm boot_range (PyProof.Rows.callWith_type1 (dq (ha pos pp s σ H _ I h) fun us s1 ⟨vs,H1,I1,r1,q1⟩=>?_) (by rw[hs,Zm]) (by rw[Zm];rfl)))
 obtain⟨i,j,e,⟨q1,q2,q3,q4⟩,q⟩:=q1
 subst e
 cases r1 with
 |cons r rr =>
  cases rr with
  |cons r' rr =>
   cases rr
   obtain⟨t,rfl⟩:=r
   obtain⟨t',rfl⟩:=r'
   exact call_range_2 (MD I1 q1 q2 q3 q4 q)
def agU (wi:TI) (g:TG) (tb:TS):TS:=fun D σ H=>wi σ H fun J H1=>∃W:Nat→Nat→St→Hp→Prop,(∃m,W 0 m σ H1)∧∀i m σ H,W i m σ H →
 (J.stop i H∧D.nx σ H)∨(J.go i H∧∃N:St→Hp→Prop,(∀σ' H',N σ' H'→∃m',m'<m∧W (i+1) m' σ' H')∧∀x H',J.W7 i H x H'→g x σ H' fun σ2 H2=>tb {D with nx:=N,ct:=N,bk:=D.nx} σ2 H2)
def BV (fp:List Addr) (h:Heap):List (Addr×Obj):=fp.filterMap fun b=>(h.get? b).map fun o=>(b,o)
theorem rC {fp:List Addr} {h:Heap} {b:Addr} {o:Obj} (hb:b∈fp) (e:h.get? b=some o):(b,o)∈BV fp h:=mem_filterMap.mpr ⟨b,hb,by rw[e];rfl⟩
theorem Se {fp:List Addr} {h:Heap} {p:Addr×Obj} (hp:p∈BV fp h):p.1∈fp∧h.get? p.1=some p.2:=by
 obtain⟨b,hb,e⟩:=mem_filterMap.mp hp
 cases q:h.get? b with
 |none=>rw[q]at e;cases e
 |some o =>
  rw[q]at e
  have e':(b,o)=p:=Option.some.inj e
  subst e'
  exact⟨hb,q⟩
theorem Inv.pinned {pp:List (Addr×Obj)} {σ:St} {H:Hp} {s:Shared} {fp:List Addr} (I:Inv X pp σ H s) (hf:∀b∈fp,yB X pp H b) (ho:∀b∈fp,∃o,s.heap.get? b=some o∧∀v,o.data≠.cell v):Inv X (pp++BV fp s.heap) σ H s :=
 I.QS fun p hp=>(mem_append.mp hp).elim (fun z=>I.pin p (mem_append_right _ z)) fun z=>by
  obtain⟨hb,e⟩:=Se z
  obtain⟨f0,f1,f2,_⟩:=hf p.1 hb
  obtain⟨o,e',d⟩:=ho p.1 hb
  rw[e]at e';cases e'
  exact⟨e,f0,f1,f2,d⟩
theorem Inv.uf {pp pl:List (Addr×Obj)} {σ:St} {H:Hp} {s:Shared} (I:Inv X (pp++pl) σ H s):Inv X pp σ H s:=I.QS fun p hp=>I.pin p (mem_append_right _ (mem_append_left _ hp))
theorem ma {iter:Expr} {body:List Stmt} {wi:TI} {g:TG} {tb:TS} {pos:Pos} (hp:PassesOwn (model X.prog X.w) X.A X.env X.xe) (hc:X.calm=true) (hi:PI X tg iter wi) (hg:PG X tg g) (hb:Sa X body tb)
 (hs:∀x,foldedSetIterable iter X.env x=pure x:=by intro _;rfl):PS X (.For tg iter body [] pos) (agU wi g tb):=by
 intro pp s σ H D I h
 refine wpAny_For (dq (hi pp s σ H _ I h) fun v s1 h1=>dq h1 fun itv s2 h2=>?_) hs
 obtain⟨it,fp,tn,J,H2,e,I2,T,st2,f2,W,⟨m0,w0⟩,turn⟩:=h2
 subst e
 have Fq:∀{H':Hp},(∀b∈fp,H' b=none)→∀b∈fp,yB X pp H' b:=fun hn b hb=>⟨hn b hb,(f2 b hb).2⟩
 refine codeAny_forLoop_any (fun n s'=>∃i σ' H',Inv X pp σ' H' s'∧tn i s'.heap∧(∀b∈fp,H' b=none)∧W i n σ' H') ?_ m0 ⟨0,σ,H2,I2,st2,fun b hb=>(f2 b hb).1,w0⟩
 rintro n s3 ⟨i,σ3,H3,I3,st3,fr3,w3⟩
 rcases turn i n σ3 H3 w3 with⟨stop,qn⟩|⟨go,N,hN,step⟩
 ·refine wpAny_passesOwn hp (dq (T.done X rfl rfl rfl hc i pp s3 σ3 H3 X.xe I3 (Fq fr3) st3 stop) fun r s4 ⟨hr,I4⟩=>?_)
  subst hr
  exact wpAny_execs_nil ⟨σ3,H3,I4,qn⟩
 ·refine wpAny_passesOwn hp (dq (T.item X rfl rfl rfl hc i pp s3 σ3 H3 X.xe I3 (Fq fr3) st3 go) fun r s4 ⟨u,hr,h4⟩=>?_)
  subst hr
  refine wpAny_passesOwn hp (dq h4 fun _ s5 ⟨x,H5,I5,r5,y5,W8,fr5⟩=>?_)
  have I5':=I5.pinned (Fq fr5) (T.obj _ _ W8)
  refine wpAny_passesOwn hp (dq (hg _ s5 σ3 H5 x u _ I5' r5 (step x H5 y5)) fun _ s6 ⟨σ6,H6,I6,q6⟩=>?_)
  refine wpAny_passesOwn hp (dq (hb _ s6 σ6 H6 _ I6 q6) fun f s7 q7=>?_)
  have again:∀{σ7:St} {H7:Hp},Inv X (pp++BV fp s5.heap) σ7 H7 s7→N σ7 H7→∃m,m<n∧∃i σ' H',Inv X pp σ' H' s7∧tn i s7.heap∧(∀b∈fp,H' b=none)∧W i m σ' H':=fun{σ7 H7} I7 n7=>by
   obtain⟨m',hm,w7⟩:=hN σ7 H7 n7
   refine⟨m',hm,i+1,σ7,H7,I7.uf,T.keep _ _ _ W8 fun b hb o e=>(I7.pin (b,o) (mem_append_right _ (mem_append_right _ (rC hb e)))).1,fun b hb=>?_,w7⟩
   obtain⟨o,e,d⟩:=T.obj _ _ W8 b hb
   exact(I7.pin (b,o) (mem_append_right _ (mem_append_right _ (rC hb e)))).2.1
  cases f with
  |next=>obtain⟨σ7,H7,I7,n7⟩:=q7;exact again I7 n7
  |cont=>obtain⟨σ7,H7,I7,n7⟩:=q7;exact again I7 n7
  |brk=>obtain⟨σ7,H7,I7,q7⟩:=q7;exact⟨σ7,H7,I7.uf,q7⟩
  |ret v=>obtain⟨x7,σ7,H7,I7,r7,q7⟩:=q7;exact⟨x7,σ7,H7,I7.uf,r7,q7⟩
end
theorem ug {K:PySem.W.Frag} {a:Addr} {xs:List V} {g:TG} {tb:TS} {D:Ends} {σ:St} {H:Hp} (Pv:Nat→St→Hp→Prop) (h0:Pv 0 σ H) (hl:∀i σ H,i≤xs.length→Pv i σ H→bP K H a xs)
 (hs:∀i x σ H,xs[i]?=some x→Pv i σ H→g x σ H fun σ2 H2=>tb {D with nx:=Pv (i+1),ct:=Pv (i+1),bk:=D.nx} σ2 H2) (hd:∀σ H,Pv xs.length σ H→D.nx σ H) :
 ∃W:Nat→Nat→St→Hp→Prop,(∃m,W 0 m σ H)∧∀i m σ H,W i m σ H →
  ((Zl K a).stop i H∧D.nx σ H)∨((Zl K a).go i H∧∃N:St→Hp→Prop,(∀σ' H',N σ' H'→∃m',m'<m∧W (i+1) m' σ' H')∧∀x H',(Zl K a).W7 i H x H'→g x σ H' fun σ2 H2=>tb {D with nx:=N,ct:=N,bk:=D.nx} σ2 H2):=by
 refine⟨fun i m σ H=>m=xs.length-i∧i≤xs.length∧Pv i σ H,⟨xs.length,by simp,zero_le _,h0⟩,?_⟩
 rintro i m σ H ⟨rfl,hi,p⟩
 have q:=hl i σ H hi p
 by_cases oU:i<xs.length
 ·refine .inr ⟨⟨xs,xs[i],q,by simp[oU]⟩,Pv (i+1),fun σ' H' p'=>⟨xs.length-(i+1),by lia,rfl,oU,p'⟩,fun x H' y=>?_⟩
  obtain⟨e,y⟩:=y
  subst e
  exact hs i x σ _ (y xs q) p
 ·have e:i=xs.length:=by lia
  subst e
  exact .inl ⟨⟨xs,q,le_refl _⟩,hd σ H p⟩
theorem qx {lo:Int} {n:Nat} {g:TG} {tb:TS} {D:Ends} {σ:St} {H:Hp} (Pv:Nat→St→Hp→Prop) (h0:Pv 0 σ H)
 (hs:∀i σ H,i<n→Pv i σ H→g (.int (lo+i)) σ H fun σ2 H2=>tb {D with nx:=Pv (i+1),ct:=Pv (i+1),bk:=D.nx} σ2 H2) (hd:∀σ H,Pv n σ H→D.nx σ H) :
 ∃W:Nat→Nat→St→Hp→Prop,(∃m,W 0 m σ H)∧∀i m σ H,W i m σ H →
  ((Itr lo n).stop i H∧D.nx σ H)∨((Itr lo n).go i H∧∃N:St→Hp→Prop,(∀σ' H',N σ' H'→∃m',m'<m∧W (i+1) m' σ' H')∧∀x H',(Itr lo n).W7 i H x H'→g x σ H' fun σ2 H2=>tb {D with nx:=N,ct:=N,bk:=D.nx} σ2 H2):=by
 refine⟨fun i m σ H=>m=n-i∧i≤n∧Pv i σ H,⟨n,by simp,zero_le _,h0⟩,?_⟩
 rintro i m σ H ⟨rfl,hi,p⟩
 by_cases oU:i<n
 ·refine .inr ⟨oU,Pv (i+1),fun σ' H' p'=>⟨n-(i+1),by lia,rfl,oU,p'⟩,fun x H' y=>?_⟩
  obtain⟨e,y⟩:=y
  subst e y
  exact hs i σ _ oU p
 ·have e:i=n:=by lia
  subst e
  exact .inl ⟨le_refl _,hd σ H p⟩
abbrev R2:=V→V→Hp→VK→Prop
def zP (X:Cx) (f:Value→Value→Sem Value) (r:R2):Prop :=
 ∀(pp:List (Addr×Obj)) (s:Shared) (σ:St) (H:Hp) (x y:V) (v u:Value) (Q:VK),Inv X pp σ H s→RelV x v→RelV y u→r x y H Q →
  wpAny (model X.prog X.w) X.A (f v u) (EP X pp σ Q) X.xe s
def UnR (X:Cx) (f:Value→Sem Value) (r:V→Hp→VK→Prop):Prop :=
 ∀(pp:List (Addr×Obj)) (s:Shared) (σ:St) (H:Hp) (x:V) (v:Value) (Q:VK),Inv X pp σ H s→RelV x v→r x H Q →
  wpAny (model X.prog X.w) X.A (f v) (EP X pp σ Q) X.xe s
def oV (X:Cx) (f:Value) (r:List V→Hp→VK→Prop):Prop :=
 ∀(pp:List (Addr×Obj)) (s:Shared) (σ:St) (H:Hp) (xs:List V) (us:List Value) (Q:VK),Inv X pp σ H s→Vals xs us→r xs H Q →
  wpAny (model X.prog X.w) X.A (call f us) (EP X pp σ Q) X.xe s
def agW (X:Cx) (r:V→Hp→(Bool→Hp→Prop)→Prop):Prop :=
 ∀(pp:List (Addr×Obj)) (s:Shared) (σ:St) (H:Hp) (x:V) (v:Value) (Q:Bool→Hp→Prop),Inv X pp σ H s→RelV x v→r x H Q →
  wpAny (model X.prog X.w) X.A (truthy v) (TP X pp σ Q) X.xe s
def Zn (r:R2) (ta tb:TE):TE:=fun σ H Q=>ta σ H fun x H1=>tb σ H1 fun y H2=>r x y H2 Q
def tUn (r:V→Hp→VK→Prop) (ta:TE):TE:=fun σ H Q=>ta σ H fun x H1=>r x H1 Q
inductive OpP (C:Int→Int→Prop) (g:Int→Int→V) (x y:V) (H:Hp) (Q:VK):Prop
 |mk (i j:Int) (a:x = .int i) (b:y = .int j) (c:C i j) (q:Q (g i j) H):OpP C g x y H Q
def rI (C:Int→Int→Prop) (g:Int→Int→V):R2:=fun x y H Q=>OpP C g x y H Q
inductive adw (g:Int→Int→V) (x y:V) (H:Hp) (Q:VK):Prop
 |mk (i j:Int) (a:x = .int i) (b:y = .int j) (q:Q (g i j) H):adw g x y H Q
def Ui (g:Int→Int→V):R2:=fun x y H Q=>adw g x y H Q
def rU (g:Int→V):V→Hp→VK→Prop:=fun x H Q=>∃i,x = .int i∧Q (g i) H
section
variable {X:Cx} {a b c:Expr} {ta tb tc:TE} {pos:Pos}
theorem aaC (ha:PE X a ta) (hb:PE X b tb) {pp:List (Addr×Obj)} {s:Shared} {σ:St} {H:Hp} {R:V→V→Hp→Prop} (I:Inv X pp σ H s)
 (h:ta σ H fun x H1=>tb σ H1 fun y H2=>R x y H2) {Q:Value→Shared→Prop} {f:Value→Value→Sem Value}
 (hf:∀v u s2 x y H2,Inv X pp σ H2 s2→RelV x v→RelV y u→R x y H2→wpAny (model X.prog X.w) X.A (f v u) Q X.xe s2) :
 wpAny (model X.prog X.w) X.A (eval a X.env) (fun v s₁=>wpAny (model X.prog X.w) X.A (eval b X.env) (fun u s₂=>wpAny (model X.prog X.w) X.A (f v u) Q X.xe s₂) X.xe s₁) X.xe s:=by
 refine dq (ha pp s σ H _ I h) fun v s1 ⟨x,H1,I1,r1,q1⟩=>?_
 refine dq (hb pp s1 σ H1 _ I1 q1) fun u s2 ⟨y,H2,I2,r2,q2⟩=>?_
 exact hf v u s2 x y H2 I2 r1 r2 q2
theorem aO {op:Operator} {r:R2} (ho:zP X (binaryOp op) r) (ha:PE X a ta) (hb:PE X b tb):PE X (.BinOp a op b pos) (Zn r ta tb):=by
 intro pp s σ H Q I h
 exact wpAny_BinOp (aaC ha hb I h fun v u s2 x y H2 I2 rx ry q=>ho pp s2 σ H2 x y v u Q I2 rx ry q)
theorem zU {op:UnaryOp} {r:V→Hp→VK→Prop} (ho:UnR X (unaryOp op) r) (ha:PE X a ta):PE X (.UnaryOp op a pos) (tUn r ta):=by
 intro pp s σ H Q I h
 exact UnaryOp_ (dq (ha pp s σ H _ I h) fun v s1 ⟨x,H1,I1,r1,q1⟩=>ho pp s1 σ H1 x v Q I1 r1 q1)
theorem opI {f:Value→Value→Sem Value} {C:Int→Int→Prop} {g:Int→Int→Int}
 (rule:∀(i j:Int) (t u:Tok) (s:Shared) (Q:Value→Shared→Prop) (E:Value→Shared→Prop),C i j→Q (.int (g i j) s.toks) {s with toks:=s.toks+1}→wpAny (model X.prog X.w) X.A (f (.int i t) (.int j u)) Q E s) :
 zP X f (rI C fun i j=>.int (g i j)):=by
 intro pp s σ H x y v u Q I rx ry h
 obtain⟨i,j,rfl,rfl,hc,q⟩:=h
 obtain⟨t,rfl⟩:=rx
 obtain⟨t',rfl⟩:=ry
 exact rule i j t t' s _ _ hc ⟨.int (g i j),H,I.tok _,⟨_,rfl⟩,q⟩
theorem aaD {f:Value→Value→Sem Value} {g:Int→Int→Int}
 (rule:∀(i j:Int) (t u:Tok) (s:Shared) (Q:Value→Shared→Prop) (E:Value→Shared→Prop),Q (.int (g i j) s.toks) {s with toks:=s.toks+1}→wpAny (model X.prog X.w) X.A (f (.int i t) (.int j u)) Q E s) :
 zP X f (Ui fun i j=>.int (g i j)):=by
 intro pp s σ H x y v u Q I rx ry h
 obtain⟨i,j,rfl,rfl,q⟩:=h
 obtain⟨t,rfl⟩:=rx
 obtain⟨t',rfl⟩:=ry
 exact rule i j t t' s _ _ ⟨.int (g i j),H,I.tok _,⟨_,rfl⟩,q⟩
theorem W9 {f:Value→Value→Sem Value} {g:Int→Int→Bool}
 (rule:∀(i j:Int) (t u:Tok) (s:Shared) (Q:Value→Shared→Prop) (E:Value→Shared→Prop),Q (.bool (g i j)) s→wpAny (model X.prog X.w) X.A (f (.int i t) (.int j u)) Q E s) :
 zP X f (Ui fun i j=>.bl (g i j)):=by
 intro pp s σ H x y v u Q I rx ry h
 obtain⟨i,j,rfl,rfl,q⟩:=h
 obtain⟨t,rfl⟩:=rx
 obtain⟨t',rfl⟩:=ry
 exact rule i j t t' s _ _ ⟨.bl (g i j),H,I,rfl,q⟩
def ady (i j:Int):Prop:=0<j∧j<1073741824
def aaE (i j:Int):Prop:=(-(2^64)<i∧i<2^64)∨(-(2^64)<j∧j<2^64)
theorem aaE.ok {i j:Int} (h:aaE i j):IntMulOk i j:=by
 rcases h with⟨h1,h2⟩|⟨h1,h2⟩
 ·exact .of_left (intBits_le_64 h1 h2)
 ·exact .of_right (intBits_le_64 h1 h2)
theorem cq:zP X (binaryOp .Add) (Ui fun i j=>.int (i+j)):=aaD fun _ _ _ _ _ _ _ q=>add_int q
theorem gA:zP X (binaryOp .Sub) (Ui fun i j=>.int (i-j)):=aaD fun _ _ _ _ _ _ _ q=>sub_int q
theorem yC:zP X (binaryOp .Mult) (rI aaE fun i j=>.int (i*j)):=opI fun _ _ _ _ _ _ _ hc q=>mul_int q hc.ok
theorem KH:zP X (binaryOp .FloorDiv) (rI ady fun i j=>.int (i/j)):=opI fun i j _ _ _ _ _ hc q=>by
 have h1:(0:Int)<j:=hc.1
 have h2:j<1073741824:=hc.2
 exact floordiv_int (by lia) (by rw[Int.fdiv_eq_ediv_of_nonneg i (by lia)];exact q) (.inl (PyProof.noPylong_small (by lia)))
theorem jJ:zP X (binaryOp .Mod) (rI (fun _ j=>0<j) fun i j=>.int (i%j)):=opI fun i j _ _ _ _ _ hc q=>by
 have h1:(0:Int)<j:=hc
 exact mod_int' (by lia) (by rw[Int.fmod_eq_emod_of_nonneg i (by lia)];exact q)
theorem aaF:zP X (binaryOp .BitAnd) (Ui fun i j=>.int (Builtin.bitAnd i j)):=aaD fun _ _ _ _ _ _ _ q=>and_int q
theorem Uj:zP X (inplaceOp .FloorDiv) (rI ady fun i j=>.int (i/j)):=opI fun i j _ _ _ _ _ hc q=>by
 have h1:(0:Int)<j:=hc.1
 have h2:j<1073741824:=hc.2
 exact ifloordiv_int (by lia) (by rw[Int.fdiv_eq_ediv_of_nonneg i (by lia)];exact q) (.inl (PyProof.noPylong_small (by lia)))
theorem unI {f:Value→Sem Value} {g:Int→Int}
 (rule:∀(i:Int) (t:Tok) (s:Shared) (Q:Value→Shared→Prop) (E:Value→Shared→Prop),Q (.int (g i) s.toks) {s with toks:=s.toks+1}→wpAny (model X.prog X.w) X.A (f (.int i t)) Q E s) :
 UnR X f (rU fun i=>.int (g i)):=by
 intro pp s σ H x v Q I rx h
 obtain⟨i,rfl,q⟩:=h
 obtain⟨t,rfl⟩:=rx
 exact rule i t s _ _ ⟨.int (g i),H,I.tok _,⟨_,rfl⟩,q⟩
theorem rD:UnR X (unaryOp .USub) (rU fun i=>.int (-i)):=unI fun _ _ _ _ _ q=>neg_int q
end
def adz:V→V→Bool
 | .dh,.dh=>true | .dh,.int _=>true | .int _,.dh=>true | .dh,.bl _=>true | .bl _,.dh=>true | .dh,.str _=>true | .str _,.dh=>true
 | .int _,.int _=>true | .bl _,.bl _=>true | .str _,.str _=>true | .OK _,.OK _=>true
 | .int _,.str _=>true | .str _,.int _=>true | .bl _,.str _=>true | .str _,.bl _=>true
 |_,_=>false
def rEq:R2:=fun x y H Q=>adz x y=true∧Q (.bl (decide (x=y))) H
def rNe:R2:=fun x y H Q=>adz x y=true∧Q (.bl (!decide (x=y))) H
theorem QX {i j:Int}:decide (V.int i=V.int j)=(i==j):=by
 rw[Bool.eq_iff_iff]
 simp
theorem Uk {i j:Bool}:decide (V.bl i=V.bl j)=(i==j):=by
 rw[Bool.eq_iff_iff]
 simp
theorem QY {i j:Str}:decide (V.str i=V.str j)=(i==j):=by
 rw[Bool.eq_iff_iff]
 simp
theorem QZ {i j:Array UInt8}:decide (V.OK i=V.OK j)=(i.toList==j.toList):=by
 rw[Bool.eq_iff_iff]
 cases i
 cases j
 simp
section
variable {X:Cx} {a b c:Expr} {ta tb tc:TE} {pos:Pos}
theorem cY {pp:List (Addr×Obj)} {σ:St} {H:Hp} {s:Shared} {Q:VK} {k k':Bool} (I:Inv X pp σ H s) (q:Q (.bl k) H) (e:k=k'):EP X pp σ Q (.bool k') s:=by
 subst e
 exact⟨.bl k,H,I,rfl,q⟩
theorem b7:zP X (compareOp .Eq) rEq:=by
 intro pp s σ H x y v u Q I rx ry h
 obtain⟨hs,q⟩:=h
 cases x with
 |dh =>
  cases rx
  cases y with
  |dh=>cases ry;exact PySem.EqNone.eq_none_none (cY I q (by simp))
  |bl j=>cases ry;exact PySem.EqNone.eq_none_bool (cY I q (by simp))
  |int j=>obtain⟨t',rfl⟩:=ry;exact PySem.EqNone.eq_none_int (cY I q (by simp))
  |str j=>obtain⟨t',rfl⟩:=ry;exact PySem.EqNone.eq_none_str (cY I q (by simp))
  |_=>exact absurd (show false=true from hs) Bool.false_ne_true
 |bl i =>
  cases rx
  cases y with
  |dh=>cases ry;exact PySem.EqNone.eq_bool_none (cY I q (by simp))
  |bl j=>cases ry;exact eq_bool (cY I q Uk)
  |str j=>obtain⟨t',rfl⟩:=ry;exact PySem.EqMixed.eq_bool_str (cY I q (by simp))
  |_=>exact absurd (show false=true from hs) Bool.false_ne_true
 |int i =>
  obtain⟨t,rfl⟩:=rx
  cases y with
  |dh=>cases ry;exact PySem.EqNone.eq_int_none (cY I q (by simp))
  |int j=>obtain⟨t',rfl⟩:=ry;exact eq_int (cY I q QX)
  |str j=>obtain⟨t',rfl⟩:=ry;exact PySem.EqMixed.eq_int_str (cY I q (by simp))
  |_=>exact absurd (show false=true from hs) Bool.false_ne_true
 |str i =>
  obtain⟨t,rfl⟩:=rx
  cases y with
  |dh=>cases ry;exact PySem.EqNone.eq_str_none (cY I q (by simp))
  |bl j=>cases ry;exact PySem.EqMixed.eq_str_bool (cY I q (by simp))
  |int j=>obtain⟨t',rfl⟩:=ry;exact PySem.EqMixed.eq_str_int (cY I q (by simp))
  |str j=>obtain⟨t',rfl⟩:=ry;exact eq_str (cY I q QY)
  |_=>exact absurd (show false=true from hs) Bool.false_ne_true
 |OK i =>
  obtain⟨t,rfl⟩:=rx
  cases y with
  |OK j=>obtain⟨t',rfl⟩:=ry;exact W.eq_bytes (cY I q QZ)
  |_=>exact absurd (show false=true from hs) Bool.false_ne_true
 |_=>cases y<;>exact absurd (show false=true from hs) Bool.false_ne_true
theorem Ul:zP X (compareOp .NotEq) rNe:=by
 intro pp s σ H x y v u Q I rx ry h
 obtain⟨hs,q⟩:=h
 cases x with
 |dh =>
  cases rx
  cases y with
  |dh=>cases ry;exact PySem.EqNone.ne_none_none (cY I q (by simp))
  |bl j=>cases ry;exact PySem.EqNone.ne_none_bool (cY I q (by simp))
  |int j=>obtain⟨t',rfl⟩:=ry;exact PySem.EqNone.ne_none_int (cY I q (by simp))
  |str j=>obtain⟨t',rfl⟩:=ry;exact PySem.EqNone.ne_none_str (cY I q (by simp))
  |_=>exact absurd (show false=true from hs) Bool.false_ne_true
 |bl i =>
  cases rx
  cases y with
  |dh=>cases ry;exact PySem.EqNone.ne_bool_none (cY I q (by simp))
  |bl j=>cases ry;exact ne_bool (cY I q (congrArg not Uk))
  |str j=>obtain⟨t',rfl⟩:=ry;exact PySem.EqMixed.ne_bool_str (cY I q (by simp))
  |_=>exact absurd (show false=true from hs) Bool.false_ne_true
 |int i =>
  obtain⟨t,rfl⟩:=rx
  cases y with
  |dh=>cases ry;exact PySem.EqNone.ne_int_none (cY I q (by simp))
  |int j=>obtain⟨t',rfl⟩:=ry;exact ne_int (cY I q (congrArg not QX))
  |str j=>obtain⟨t',rfl⟩:=ry;exact PySem.EqMixed.ne_int_str (cY I q (by simp))
  |_=>exact absurd (show false=true from hs) Bool.false_ne_true
 |str i =>
  obtain⟨t,rfl⟩:=rx
  cases y with
  |dh=>cases ry;exact PySem.EqNone.ne_str_none (cY I q (by simp))
  |bl j=>cases ry;exact PySem.EqMixed.ne_str_bool (cY I q (by simp))
  |int j=>obtain⟨t',rfl⟩:=ry;exact PySem.EqMixed.ne_str_int (cY I q (by simp))
  |str j=>obtain⟨t',rfl⟩:=ry;exact ne_str (cY I q (congrArg not QY))
  |_=>exact absurd (show false=true from hs) Bool.false_ne_true
 |OK i =>
  obtain⟨t,rfl⟩:=rx
  cases y with
  |OK j=>obtain⟨t',rfl⟩:=ry;exact W.ne_bytes (cY I q (congrArg not QZ))
  |_=>exact absurd (show false=true from hs) Bool.false_ne_true
 |_=>cases y<;>exact absurd (show false=true from hs) Bool.false_ne_true
theorem nH:zP X (compareOp .Lt) (Ui fun i j=>.bl (decide (i<j))):=W9 fun _ _ _ _ _ _ _ q=>lt_int q
theorem iO:zP X (compareOp .LtE) (Ui fun i j=>.bl (decide (i≤j))):=W9 fun _ _ _ _ _ _ _ q=>le_int q
theorem JB:zP X (compareOp .Gt) (Ui fun i j=>.bl (decide (j<i))):=W9 fun _ _ _ _ _ _ _ q=>gt_int q
theorem zV:zP X (compareOp .GtE) (Ui fun i j=>.bl (decide (j≤i))):=W9 fun _ _ _ _ _ _ _ q=>ge_int q
theorem aC (b:Expr) {op:CmpOp} (h:op≠.In:=by decide) (h2:op≠.NotIn:=by decide):behindInMarks op b=false:=by
 have e1:(op==CmpOp.In)=false:=by cases op<;>first|rfl|exact absurd rfl h
 have e2:(op==CmpOp.NotIn)=false:=by cases op<;>first|rfl|exact absurd rfl h2
 cases b<;>simp[behindInMarks,e1,e2]
theorem aH {op:CmpOp} {r:R2} (ho:zP X (compareOp op) r) (ha:PE X a ta) (hb:PE X b tb) (hm:behindInMarks op b=false):PE X (.Compare a [op] [b] pos) (Zn r ta tb):=by
 intro pp s σ H Q I h
 exact wpAny_Compare1 (aaC ha hb I h fun v u s2 x y H2 I2 rx ry q=>ho pp s2 σ H2 x y v u Q I2 rx ry q) hm
def Zo (t:TE):TT:=fun σ H Q=>t σ H fun x H'=>∃k,x = .bl k∧Q k H'
theorem bH {op:CmpOp} {r:R2} (ho:zP X (compareOp op) r) (ha:PE X a ta) (hb:PE X b tb) (hm:behindInMarks op b=false):PT X (.Compare a [op] [b] pos) (Zo (Zn r ta tb)):=by
 intro pp s σ H Q I h
 refine wpAny_isTrue_Compare1 (dq (ha pp s σ H _ I h) fun v s1 ⟨x,H1,I1,r1,q1⟩=>dq (hb pp s1 σ H1 _ I1 q1) fun u s2 ⟨y,H2,I2,r2,q2⟩ =>
  dq (ho pp s2 σ H2 x y v u _ I2 r1 r2 q2) fun c s3 ⟨z,H3,I3,r3,k,e,q3⟩=>?_) hm
 subst e
 cases r3
 exact wpAny_truthy_bool ⟨H3,I3,q3⟩
def Um (r r':R2) (ta tb tc:TE):TE:=fun σ H Q=>ta σ H fun x H1=>tb σ H1 fun y H2=>r x y H2 fun z H3=>∃k,z = .bl k ∧
 (if k=true then tc σ H3 fun w' H4=>r' y w' H4 Q else Q (.bl false) H3)
theorem zW {op op':CmpOp} {r r':R2} (ho:zP X (compareOp op) r) (QR:zP X (compareOp op') r') (ha:PE X a ta) (hb:PE X b tb) (hc:PE X c tc)
 (hm:lastMarks [op,op'] [b,c]=false:=by with_unfolding_all rfl):PE X (.Compare a [op,op'] [b,c] pos) (Um r r' ta tb tc):=by
 intro pp s σ H Q I h
 refine Compare_chain (dq (ha pp s σ H _ I h) fun v s1 ⟨x,H1,I1,r1,q1⟩=>chain_link (dq (hb pp s1 σ H1 _ I1 q1) fun u s2 ⟨y,H2,I2,r2,q2⟩ =>
  dq (ho pp s2 σ H2 x y v u _ I2 r1 r2 q2) fun d s3 ⟨z,H3,I3,r3,k,e,q3⟩=>?_)) hm
 subst e
 cases r3
 refine wpAny_truthy_bool ?_
 cases k with
 |false=>exact ite_ff ⟨.bl false,H3,I3,rfl,q3⟩
 |true=>exact ite_tt (chain_last (dq (hc pp s3 σ H3 _ I3 q3) fun w' s4 ⟨z',H4,I4,r4,q4⟩=>QR pp s4 σ H4 y z' u w' Q I4 r2 r4 q4))
theorem Fs {op op':CmpOp} {r r':R2} (ho:zP X (compareOp op) r) (QR:zP X (compareOp op') r') (ha:PE X a ta) (hb:PE X b tb) (hc:PE X c tc)
 (hm:lastMarks [op,op'] [b,c]=false:=by with_unfolding_all rfl):PT X (.Compare a [op,op'] [b,c] pos) (Zo (Um r r' ta tb tc)):=by
 intro pp s σ H Q I h
 refine isTrue_chain (dq (ha pp s σ H _ I h) fun v s1 ⟨x,H1,I1,r1,q1⟩=>test_link (dq (hb pp s1 σ H1 _ I1 q1) fun u s2 ⟨y,H2,I2,r2,q2⟩ =>
  dq (ho pp s2 σ H2 x y v u _ I2 r1 r2 q2) fun d s3 ⟨z,H3,I3,r3,k,e,q3⟩=>?_)) hm
 subst e
 cases r3
 refine wpAny_truthy_bool ?_
 cases k with
 |false =>
  obtain⟨k',e',q'⟩:=q3
  cases e'
  exact ite_ff ⟨H3,I3,q'⟩
 |true =>
  refine ite_tt (test_last (dq (hc pp s3 σ H3 _ I3 q3) fun w' s4 ⟨z',H4,I4,r4,q4⟩=>dq (QR pp s4 σ H4 y z' u w' _ I4 r2 r4 q4) fun d' s5 ⟨z2,H5,I5,r5,k2,e2,q5⟩=>?_))
  subst e2
  cases r5
  exact wpAny_truthy_bool ⟨H5,I5,q5⟩
def Xa (K:W.Frag) (x:V) (H:Hp) (k:Bool):Prop :=
 match x with
 | .dh=>k=false
 | .bl b=>k=b
 | .int i=>k=(i != 0)
 | .str y=>y.length≤sizeLine∧k=((y.length:Int) != 0)
 | .OK y=>y.size≤sizeLine∧k=((y.size:Int) != 0)
 | .ref p=>(∃xs,bP K H p xs∧k = !xs.isEmpty)∨(∃xs,tV K H p xs∧k = !xs.isEmpty)∨∃aZ,H p=some (.dK aZ)∧k = !aZ.isEmpty
 |_=>False
theorem OQ {κ:Type} {aZ:List (κ×V)} {vs:List (κ×Value)} (r:KV aZ vs):(!vs.isEmpty) = !aZ.isEmpty:=by
 cases r<;>rfl
theorem Ft {xs:List V} {bu:List Value} (r:Vals xs bu):(!bu.toArray.isEmpty) = !xs.isEmpty:=by
 cases r<;>simp
theorem Fu:(sizeLine:Nat)<2^63:=by rw[sizeLine_eq];decide
theorem Uo:agW X (fun x H Q=>∃k,Xa X.K x H k∧Q k H):=by
 intro pp s σ H x v Q I rx h
 obtain⟨k,e,q⟩:=h
 have hl:=Fu
 have hs:sizeLine=16777216:=sizeLine_eq
 cases x with
 |dh =>
  cases rx
  have e':k=false:=e
  subst e'
  exact truthy_none ⟨H,I,q⟩
 |bl b =>
  cases rx
  have e':k=b:=e
  subst e'
  exact wpAny_truthy_bool ⟨H,I,q⟩
 |int i =>
  obtain⟨t,rfl⟩:=rx
  have e':k=(i != 0):=e
  subst e'
  exact PySem.P.truthy_int ⟨H,I,q⟩
 |str y =>
  obtain⟨t,rfl⟩:=rx
  obtain⟨hy,e'⟩:y.length≤sizeLine∧k=((y.length:Int) != 0):=e
  subst e'
  exact PySem.P.truthy_str (by lia) ⟨H,I.tok _,q⟩
 |OK y =>
  obtain⟨t,rfl⟩:=rx
  obtain⟨hy,e'⟩:y.size≤sizeLine∧k=((y.size:Int) != 0):=e
  subst e'
  exact W.truthy_bytes (by lia) ⟨H,I.tok _,q⟩
 |ref p =>
  cases rx
  have e':(∃xs,bP X.K H p xs∧k = !xs.isEmpty)∨(∃xs,tV X.K H p xs∧k = !xs.isEmpty)∨∃aZ,H p=some (.dK aZ)∧k = !aZ.isEmpty:=e
  rcases e' with⟨xs,hx,e'⟩|⟨xs,hx,e'⟩|⟨aZ,hx,e'⟩
  ·subst e'
   obtain⟨bu,r,pl,hz⟩:=I.list hx
   have hlen:=r.length
   exact wpAny_truthy_list pl.isList (by simp only[size_toArray];lia) ⟨H,I.tok _,by rw[Ft r];exact q⟩
  ·subst e'
   obtain⟨bu,r,pl,hz⟩:=I.tuple hx
   have hlen:=r.length
   exact truthy_tuple pl (by simp only[size_toArray];lia) ⟨H,I.tok _,by rw[Ft r];exact q⟩
  ·subst e'
   obtain⟨hz,hS,vs,r,m⟩:aZ.length≤sizeLine∧(p==sysModules)=false∧∃vs,KV aZ vs∧s.heap.DictOf (cp X.prog X.w) p vs:=I.cG p _ hx
   have hlen:aZ.length=vs.length:=Paired.length r
   exact wpAny_truthy_dict hS m (by lia) ⟨H,I.tok _,by rw[OQ r];exact q⟩
 |_=>exact(show False from e).elim
theorem jK (ha:PE X a ta) (he:∀whole,isTrue a X.env whole=(do let v ←whole;standAt a.pos;holding [v] (truthy v))) :
 PT X a (fun σ H Q=>ta σ H fun x H'=>∃k,Xa X.K x H' k∧Q k H'):=by
 intro pp s σ H Q I h
 exact isTrue_plain (dq (ha pp s σ H _ I h) fun v s1 ⟨x,H1,I1,r1,q1⟩=>Uo pp s1 σ H1 x v Q I1 r1 q1) (he _)
theorem vals1 {x:V} {us:List Value} (r:Vals [x] us):∃u,us=[u]∧RelV x u:=by
 cases r with
 |cons r1 r2=>cases r2;exact⟨_,rfl,r1⟩
theorem vals2 {x y:V} {us:List Value} (r:Vals [x,y] us):∃u w',us=[u,w']∧RelV x u∧RelV y w':=by
 cases r with
 |cons r1 r2 =>
  cases r2 with
  |cons r3 r4=>cases r4;exact⟨_,_,rfl,r1,r3⟩
theorem ME:oV X (.builtin "abs") (fun xs H Q=>∃i,xs=[.int i]∧Q (.int (if i<0 then -i else i)) H):=by
 intro pp s σ H xs us Q I r h
 obtain⟨i,rfl,q⟩:=h
 obtain⟨u,rfl,t,rfl⟩:=vals1 r
 exact call_abs_int fun u tk=>⟨.int (if i<0 then -i else i),H,I.tok _,⟨_,rfl⟩,q⟩
theorem Sf (hc:X.calm=true):oV X (.builtin "max") (fun xs H Q=>∃i j,xs=[.int i,.int j]∧Q (.int (if j>i then j else i)) H):=by
 intro pp s σ H xs us Q I r h
 obtain⟨i,j,rfl,q⟩:=h
 obtain⟨u,w',rfl,⟨t,rfl⟩,⟨t',rfl⟩⟩:=vals2 r
 refine max_two_ints (I.ok.hd hc) fun h' tk k=>⟨_,H,I.kept k,?_,q⟩
 by_cases hj:j>i
 ·rw[iPp hj,iPp hj];exact⟨_,rfl⟩
 ·rw[IN hj,IN hj];exact⟨_,rfl⟩
theorem JC (hc:X.calm=true):oV X (.builtin "min") (fun xs H Q=>∃i j,xs=[.int i,.int j]∧Q (.int (if j<i then j else i)) H):=by
 intro pp s σ H xs us Q I r h
 obtain⟨i,j,rfl,q⟩:=h
 obtain⟨u,w',rfl,⟨t,rfl⟩,⟨t',rfl⟩⟩:=vals2 r
 refine min_two_ints (I.ok.hd hc) fun h' tk k=>⟨_,H,I.kept k,?_,q⟩
 by_cases hj:j<i
 ·rw[iPp hj,iPp hj];exact⟨_,rfl⟩
 ·rw[IN hj,IN hj];exact⟨_,rfl⟩
end
structure OR (h:Heap) (x dx C:Addr) (mA:Str→Option Value):Prop where
 obj:h.get? x=some (W.instObj C dx)
 ns:h.Ns1 dx mA
 ne:dx≠x
theorem Sg {h:Heap} {dx:Addr} {mA:Str→Option Value} (n:h.Ns1 dx mA):∃od,h.get? dx=some od∧∀name,W.lookIn name od=some (mA name):=by
 obtain⟨o,es,ep,ho,hd,hk,_,hm⟩:=n
 refine⟨o,ho,fun name=>?_⟩
 have e:=hm name
 unfold nsFind findBy at e
 rw[←Array.find?_toList]at e
 unfold W.lookIn
 rw[hd]
 dsimp only
 split
 ·rename_i y q
  rw[q]at e
  exact congrArg some e
 ·rename_i q
  rw[q]at e
  have a:es.toList.any (·.refKey)=false:=by
   rw[List.any_eq_false]
   intro y hy
   obtain⟨z,t,agX⟩:=hk y (Array.mem_toList_iff.mp hy)
   simp[DictEntry.refKey,agX]
  have a':¬es.toList.any (·.refKey)=true:=by rw[a];exact Bool.false_ne_true
  rw[IN a']
  exact congrArg some e
theorem OR.look {h:Heap} {x dx C:Addr} {mA:Str→Option Value} (I:OR h x dx C mA):∃od,W.InstAt h x (W.instObj C dx) C (some od)∧∀name,W.lookIn name od=some (mA name) :=
 let⟨od,ho,hl⟩:=Sg I.ns
 ⟨od,⟨I.obj,rfl,rfl,ho⟩,hl⟩
section
variable {prog:Program} {w:World} {A:Around} {E:Value→Shared→Prop} {s:Shared} {K:W.Frag} {x dx C f:Addr} {mA:Str→Option Value} {name:Str} {v:Value}
theorem get_map {expr:Bool} {Q:Value→Shared→Prop} (X:K.In s.heap) (I:OR s.heap x dx C mA) (hg:W.plainGet K C name=true) (hh:W.hasDictIn K C=true)
 (ha:W.findIn K (.ref C) name=some none) (hv:mA name=some v) (hv':W.handedIn v=true) (h:Q v {s with toks:=s.toks+1}) :
 wpAny (model prog w) A (getAttr (.ref x) name expr) Q E s:=by
 obtain⟨od,J,hl⟩:=I.look
 exact W.get_value X J (W.plainGet_of hg).1 (W.findObj_own hh ha rfl (by rw[hl,hv])) hv' h
theorem Up {pl:Sem Bool} {Q:Value×List Value→Shared→Prop} (X:K.In s.heap) (I:OR s.heap x dx C mA) (hg:W.plainGet K C name=true)
 (hf:W.findIn K (.ref C) name=some (some (.ref f))) (ht:W.isFn K (.ref f)=true) (hv:mA name=none) (h:Q (.ref f,[.ref x]) s) :
 wpAny (model prog w) A (getMethod (.ref x) name pl) Q E s:=by
 obtain⟨od,J,hl⟩:=I.look
 exact W.method_fn X J (W.plainGet_of hg).1 (W.plainGet_of hg).2 hf (beq_iff_eq.mp ht) (by show(W.lookIn name od).map (·.isSome)=some false;rw[hl,hv];rfl) h
theorem Xb {ns:List Str} {Q:Unit→Shared→Prop} (X:K.In s.heap) (I:OR s.heap x dx C mA)
 (hs:W.findIn K (.ref C) "__setattr__" = some (some (.builtin "object.__setattr__"))) (hp:W.plainOver K C=true) (ht:W.takerIn K C name=some none) (hh:W.hasDictIn K C=true)
 (hw:Within mA ns) (hsz:ns.length≤sizeLine)
 (h:∀h',OR h' x dx C (fun y=>if y=name then some v else mA y)→Heap.SameBut dx s.heap h'→Q () {s with heap:=h',toks:=s.toks+2}) :
 wpAny (model prog w) A (setAttr (.ref x) name v) Q E s:=by
 obtain⟨od,J,hl⟩:=I.look
 refine W.set_plain X J hs (W.osa_open (s:={s with toks:=s.toks+1}) (r:=none) X J hp ht fun b=>?_)
 obtain⟨cd,hc,Ua⟩:=W.any_some hh
 have hx:s.heap.get? x=some ⟨.ref C,some dx,.plain,#[]⟩:=I.obj
 refine wpAny_bind (wpAny_pure (wpAny_bind (wpAny_bind (wpAny_loadPart hx (wpAny_bind (W.Looks.here (s:={s with toks:=s.toks+1}) (W.looks_clsIn X hc) ?_))))))
 rw[Ua]
 refine wpAny_pure (a:=some dx) (wpAny_bind (wpAny_pure (wpAny_bind ?_)))
 refine wpAny_nsSet1 (s:={s with toks:=s.toks+1}) I.ns fun h' hn2 Zm=>?_
 obtain⟨oD,esD,epD,hoD,hdD,hcD⟩:=hn2.count (Within.cons name v hw)
 refine wpAny_bind (wpAny_lookBehind hoD (by rw[hdD];exact pastItsLine_dict (le_trans hcD (by rw[length_cons];lia))) ?_)
 exact wpAny_pure (h _ ⟨(Zm.2 _ (Ne.symm I.ne)).trans I.obj,hn2,I.ne⟩ Zm)
theorem Uq {R:Result→Shared→Prop} {vs:List Value} {kw:List (Str×Value)} (X:K.In s.heap) (hm:W.makesIn K C=true)
 (hi:W.findIn K (.ref C) "__init__" = some (some (.ref f))) (hf:W.typeIn K (.ref f)=some (.type "function"))
 (h:codeAny (model prog w) (A.under (.builtin "type.__call__" ⟨.ref C::vs,kw⟩)) (.call (.ref f) ⟨.ref (s.heap.objs.size+1)::vs,kw⟩) (W.InitBack (s.heap.objs.size+1) R)
  {s with heap:=(s.heap.push W.emptyDict).push (W.instObj C s.heap.objs.size)}) :
 codeAny (model prog w) A (.call (.ref C) ⟨vs,kw⟩) R s:=by
 obtain⟨hh,g,d,t,os⟩:=s
 exact W.make_core (W.makes_of X hm) (W.looks_findIn X hi) (fun self=>W.bind_fn X self hf) (.inl rfl) h
end
def aF (f:Str) (v:V):List (Str×V)→List (Str×V)
 | []=>[(f,v)]
 |(g,x)::r=>if g=f then(g,v)::r else(g,x)::aF f v r
theorem lO (f g:Str) (v:V):∀fs:List (Str×V),(aF f v fs).lookup g=if g=f then some v else fs.lookup g
 | []=>by
  show List.lookup g [(f,v)]=_
  by_cases h:g=f
  ·have hb:(g==f)=true:=beq_iff_eq.mpr h
   simp only[List.lookup,hb,iPp h]
  ·have hb:(g==f)=false:=beq_eq_false_iff_ne.mpr h
   simp only[List.lookup,hb,IN h]
 |(k,x)::r=>by
  have ih:=lO f g v r
  rw[show aF f v ((k,x)::r)=(if k=f then(k,v)::r else(k,x)::aF f v r) from rfl]
  by_cases hk:k=f
  ·rw[iPp hk]
   by_cases h:g=k
   ·have hb:(g==k)=true:=beq_iff_eq.mpr h
    simp only[List.lookup,hb,iPp (h.trans hk)]
   ·have hb:(g==k)=false:=beq_eq_false_iff_ne.mpr h
    simp only[List.lookup,hb,IN (fun e:g=f=>h (e.trans hk.symm))]
  ·rw[IN hk]
   by_cases h:g=k
   ·have hb:(g==k)=true:=beq_iff_eq.mpr h
    simp only[List.lookup,hb,IN (fun e:g=f=>hk (h.symm.trans e))]
   ·have hb:(g==k)=false:=beq_eq_false_iff_ne.mpr h
    simp only[List.lookup,hb]
    exact ih
theorem BW (f:Str) (v:V):∀fs:List (Str×V),f∈(aF f v fs).map (·.1)∧∀g,g∈fs.map (·.1)→g∈(aF f v fs).map (·.1)
 | []=>⟨by simp[aF],fun g h=>by simp at h⟩
 |(k,x)::r=>by
  obtain⟨i1,i2⟩:=BW f v r
  rw[show aF f v ((k,x)::r)=(if k=f then(k,v)::r else(k,x)::aF f v r) from rfl]
  by_cases hk:k=f
  ·rw[iPp hk]
   subst hk
   exact⟨by simp,fun g h=>by simpa using h⟩
  ·rw[IN hk]
   refine⟨?_,fun g h=>?_⟩
   ·rw[map_cons]
    exact mem_cons_of_mem _ i1
   ·rw[map_cons]at h ⊢
    rcases mem_cons.mp h with e|e
    ·exact mem_cons.mpr (.inl e)
    ·exact mem_cons_of_mem _ (i2 g e)
theorem bj (f:Str) (v:V):∀fs:List (Str×V),(aF f v fs).length≤fs.length+1
 | []=>by simp[aF]
 |(k,x)::r=>by
  have ih:=bj f v r
  rw[show aF f v ((k,x)::r)=(if k=f then(k,v)::r else(k,x)::aF f v r) from rfl]
  by_cases hk:k=f
  ·rw[iPp hk,length_cons,length_cons];lia
  ·rw[IN hk,length_cons,length_cons];lia
theorem uc.some_of {v:V} {o:Option Value} (r:uc (some v) o):∃u,o=some u∧RelV v u:=by
 cases o with
 |none=>exact(show False from r).elim
 |some u=>exact⟨u,rfl,r⟩
theorem uc.none_of {o:Option Value} (r:uc none o):o=none:=by
 cases o with
 |none=>rfl
 |some u=>exact(show False from r).elim
theorem Sh {v:V} {u:Value} (r:RelV v u):W.handedIn u=true:=by
 cases v with
 |dh=>cases(show u=Value.none from r);rfl
 |bl b=>cases(show u=Value.bool b from r);rfl
 |int i=>obtain⟨t,e⟩:=(show ∃t,u=Value.int i t from r);cases e;rfl
 |str x=>obtain⟨t,e⟩:=(show ∃t,u=Value.str x t from r);cases e;rfl
 |OK b=>obtain⟨t,e⟩:=(show ∃t,u=Value.bytes b t from r);cases e;rfl
 |flt b=>obtain⟨t,e⟩:=(show ∃t,u=Value.float b t from r);cases e;rfl
 |ref a=>cases(show u=Value.ref a from r);rfl
 |ty n=>cases(show u=Value.type n from r);rfl
section
variable {P:Program} {w:World} {H H':Hp} {h h':Heap} {a C dx:Addr} {fs fs':List (Str×V)}
theorem KI (cG:t9 P w H h) (e:H a=some (.ins C dx fs)):∃mA,OR h a dx C mA∧(∀f,uc (fs.lookup f) (mA f))∧Within mA (fs.map (·.1))∧fs.length≤1000∧H dx=some (.own a):=by
 obtain⟨d,z,ne,ob,mA,n,r,q⟩:=(show eZ P w H h a (.ins C dx fs) from cG a _ e)
 exact⟨mA,⟨ob,n,ne⟩,r,q,z,d⟩
end
structure Dh (K:W.Frag) (C:Addr):Prop where
 pg:W.plainGet K C Str.empty=true
 hd:W.hasDictIn K C=true
 po:W.plainOver K C=true
 sa:W.findIn K (.ref C) "__setattr__" = some (some (.builtin "object.__setattr__"))
theorem Dh.get {K:W.Frag} {C:Addr} (c:Dh K C) (f:Str):W.plainGet K C f=true:=c.pg
def aK (K:W.Frag) (C:Addr) (f:Str):Prop:=W.findIn K (.ref C) f=some none
theorem aK.adA {K:W.Frag} {C:Addr} {f:Str} (n:aK K C f):W.takerIn K C f=some none:=by
 unfold W.takerIn
 rw[show W.findIn K (.ref C) f=some none from n]
 rfl
structure Meth (K:W.Frag) (C:Addr) (m:Str) (f:Addr):Prop where
 at_:W.findIn K (.ref C) m=some (some (.ref f))
 fn:W.isFn K (.ref f)=true
 kp:W.keepIn K (.ref f)=true
section
variable {X:Cx} {pp:List (Addr×Obj)} {σ:St} {H:Hp} {s:Shared} {a C dx:Addr} {fs:List (Str×V)} {f:Str} {v:V} {A:Around} {E:Value→Shared→Prop}
theorem Fv {b:Bool} {Q:Value→Shared→Prop} (I:Inv X pp σ H s) (e:H a=some (.ins C dx fs)) (c:Dh X.K C) (n:aK X.K C f) (l:fs.lookup f=some v)
 (h:∀u s',Inv X pp σ H s'→RelV v u→Q u s'):wpAny (model X.prog X.w) A (getAttr (.ref a) f b) Q E s:=by
 obtain⟨mA,O,r,_,_,_⟩:=KI I.cG e
 obtain⟨u,hu,ru⟩:=uc.some_of (v:=v) (o:=mA f) (by rw[←l];exact r f)
 exact get_map I.Fi O (c.get f) c.hd n hu (Sh ru) (h u _ (I.tok _) ru)
theorem Fw {m:Str} {g:Addr} {pl:Sem Bool} {Q:Value×List Value→Shared→Prop} (I:Inv X pp σ H s) (e:H a=some (.ins C dx fs)) (c:Dh X.K C) (k:Meth X.K C m g) (l:fs.lookup m=none)
 (h:Q (.ref g,[.ref a]) s):wpAny (model X.prog X.w) A (getMethod (.ref a) m pl) Q E s:=by
 obtain⟨mA,O,r,_,_,_⟩:=KI I.cG e
 have hn:mA m=none:=uc.none_of (by rw[←l];exact r m)
 exact Up I.Fi O (c.get m) k.at_ k.fn hn h
theorem Fx {y:V} {u:Value} {Q:Unit→Shared→Prop} (I:Inv X pp σ H s) (e:H a=some (.ins C dx fs)) (c:Dh X.K C) (n:aK X.K C f) (hl:fs.length<1000) (ry:RelV y u)
 (h:∀s',Inv X pp σ (upd H a (.ins C dx (aF f y fs))) s'→Q () s'):wpAny (model X.prog X.w) A (setAttr (.ref a) f u) Q E s:=by
 obtain⟨mA,O,r,wi,_,ho⟩:=KI I.cG e
 have hz:(fs.map (·.1)).length≤sizeLine:=by rw[length_map,sizeLine_eq];lia
 refine Xb I.Fi O c.sa c.po n.adA c.hd wi hz fun h' O' sb=>h _ ?_
 have hd:∃o,h'.get? dx=some o:=let⟨o,_,_,e',_⟩:=O'.ns;⟨o,e'⟩
 refine I.write (x:=a) (e:=dx) (by rw[e];exact True.intro) (.inr ho) (fun b q hb z=>(sb.2 b hb).trans z) hd ?_
 refine⟨by rw[aj O.ne];exact ho,?_,O.ne,O'.obj,_,O'.ns,fun g=>?_,fun g hg=>?_⟩
 ·have:=bj f y fs;lia
 ·show uc ((aF f y fs).lookup g) (if g=f then some u else mA g)
  rw[lO]
  by_cases q:g=f
  ·rw[iPp q,iPp q];exact ry
  ·rw[IN q,IN q];exact r g
 ·by_cases q:g=f
  ·rw[q];exact(BW f y fs).1
  ·refine(BW f y fs).2 g (wi g fun z=>hg ?_)
   show(if g=f then some u else mA g)=none
   rw[IN q];exact z
theorem Inv.made (I:Inv X pp σ H s):Inv X pp σ (upd (upd H s.heap.objs.size (.own (s.heap.objs.size+1))) (s.heap.objs.size+1) (.ins C s.heap.objs.size []))
 {s with heap:=(s.heap.push W.emptyDict).push (W.instObj C s.heap.objs.size)}:=by
 have e1:(s.heap.push W.emptyDict).get? s.heap.objs.size=some W.emptyDict:=Heap.get?_push_size s.heap rfl
 have e2:((s.heap.push W.emptyDict).push (W.instObj C s.heap.objs.size)).get? (s.heap.objs.size+1)=some (W.instObj C s.heap.objs.size):=by
  have:=Heap.get?_push_size (s.heap.push W.emptyDict) (o:=W.instObj C s.heap.objs.size) rfl
  rwa [Heap.size_push]at this
 have e3:(s.heap.push W.emptyDict).Ns s.heap.objs.size (fun _=>none):=⟨W.emptyDict,#[],_,e1,rfl,(fun e he=>absurd he (by simp)),fun _=>rfl⟩
 have I1:=I.laid (a:=s.heap.objs.size) (o:=.own (s.heap.objs.size+1)) (h':=s.heap.push W.emptyDict) (t':=s.toks) (fun b u q=>Heap.get?_push_of_some _ q) (le_refl _) ⟨_,e1⟩
 refine I1.laid (a:=s.heap.objs.size+1) (o:=.ins C s.heap.objs.size []) (t':=s.toks) (fun b u q=>Heap.get?_push_of_some _ q) (le_of_eq (Heap.size_push _ _)) ?_
 have ne:s.heap.objs.size≠s.heap.objs.size+1:=ne_of_lt (lt_succ_self _)
 refine⟨by rw[aj ne,af],zero_le _,ne,e2,fun _=>none,(Heap.Ns1.of_empty e3).at fun o q=>Heap.get?_push_of_some _ q,fun _=>True.intro,fun y hy=>absurd rfl hy⟩
theorem Xc {prog:Program} {w:World} {env:Env} {e:Expr} {f:Str} {pos:Pos} {s:Shared} {Q:Value→Shared→Prop} (hb:attributeBase e f env (eval e env)=eval e env)
 (h:wpAny (model prog w) A (eval e env) (fun o s₁=>wpAny (model prog w) A (getAttr o f true) Q E s₁) E s):wpAny (model prog w) A (eval (.Attribute e f pos) env) Q E s :=
 Attribute_any_ h (by rw[arm_eval_Attribute,hb])
end
inductive adB (K:W.Frag) (f:Str) (Q:VK) (x:V) (H:Hp):Prop
 |mk (a C dx:Addr) (fs:List (Str×V)) (v:V) (e:x = .ref a) (h:H a=some (.ins C dx fs)) (c:Dh K C) (n:aK K C f) (l:fs.lookup f=some v) (q:Q v H):adB K f Q x H
def KJ (K:W.Frag) (ta:TE) (f:Str):TE:=fun σ H Q=>ta σ H fun x H1=>adB K f Q x H1
inductive adC (K:W.Frag) (f:Str) (y:V) (N:Hp→Prop) (x:V) (H:Hp):Prop
 |mk (a C dx:Addr) (fs:List (Str×V)) (e:x = .ref a) (h:H a=some (.ins C dx fs)) (c:Dh K C) (n:aK K C f) (l:fs.length<1000) (q:N (upd H a (.ins C dx (aF f y fs)))):adC K f y N x H
def agY (K:W.Frag) (ta tv:TE) (f:Str):TS:=fun D σ H=>tv σ H fun y H1=>ta σ H1 fun x H2=>adC K f y (D.nx σ) x H2
def adD (X:Cx) (op:Operator) (rd:V→V→Hp→VK→Prop):Prop :=
 ∀(pp:List (Addr×Obj)) (s:Shared) (σ:St) (H:Hp) (x y:V) (u v:Value) (Q:VK),Inv X pp σ H s→RelV x u→RelV y v→rd x y H Q→wpAny (model X.prog X.w) X.A (inplaceOp op u v) (EP X pp σ Q) X.xe s
def Xd (K:W.Frag) (ta tv:TE) (rd:V→V→Hp→VK→Prop) (f:Str):TS:=fun D σ H=>ta σ H fun x H1=>∃a C dx fs v,x = .ref a∧H1 a=some (.ins C dx fs)∧Dh K C∧aK K C f∧fs.lookup f=some v ∧
 tv σ H1 fun y H2=>rd v y H2 fun z H3=>∃dx' fs',H3 a=some (.ins C dx' fs')∧fs'.length<1000∧D.nx σ (upd H3 a (.ins C dx' (aF f z fs')))
section
variable {X:Cx} {o e value:Expr} {f:Str} {pos pos' Si:Pos} {ta tv:TE}
theorem ar (he:PE X e ta) (hb:attributeBase e f X.env (eval e X.env)=eval e X.env):PE X (.Attribute e f pos) (KJ X.K ta f):=by
 intro pp s σ H Q I h
 refine Xc hb (dq (he pp s σ H _ I h) fun u s1 ⟨x,H1,I1,rx,a,C,dx,fs,v,ex,ea,c,n,l,q⟩=>?_)
 subst ex
 obtain rfl:u=Value.ref a:=rx
 exact Fv I1 ea c n l fun u' s2 I2 ru=>⟨v,H1,I2,ru,q⟩
theorem aT (ha:PE X o ta) (hv:PE X value tv) (hs:swapsWith value (some (.Attribute o f pos')) pos.line X.env=pure false):PS X (.Assign [.Attribute o f pos'] value pos) (agY X.K ta tv f):=by
 intro pp s σ H D I h
 refine plainObj_wpAny_Assign_Attribute (dq (hv pp s σ H _ I h) fun u s1 ⟨y,H1,I1,ry,q⟩=>dq (ha pp s1 σ H1 _ I1 q) fun ov s2 ⟨x,H2,I2,rx,a,C,dx,fs,ex,ea,c,n,l,q2⟩=>?_) hs
 subst ex
 obtain rfl:ov=Value.ref a:=rx
 exact Fx I2 ea c n l ry fun s3 I3=>⟨σ,_,I3,q2⟩
theorem JD {op:Operator} {rd:V→V→Hp→VK→Prop} (ha:PE X o ta) (hv:PE X value tv) (hop:adD X op rd):PS X (.AugAssign (.Attribute o f Si) op value pos) (Xd X.K ta tv rd f):=by
 intro pp s σ H D I h
 refine wpAny_AugAssign_AttributeAny (dq (ha pp s σ H _ I h) fun ov s1 ⟨x,H1,I1,rx,a,C,dx,fs,v,ex,ea,c,n,l,q⟩=>?_)
 subst ex
 obtain rfl:ov=Value.ref a:=rx
 refine Fv I1 ea c n l fun u s2 I2 ru=>dq (hv pp s2 σ H1 _ I2 q) fun w3 s3 ⟨y,H2,I3,ry,q3⟩=>dq (hop pp s3 σ H2 v y u w3 _ I3 ru ry q3) fun w4 s4 ⟨z,H3,I4,rz,dx',fs',ea',l',q4⟩=>?_
 exact Fx I4 ea' c n l' rz fun s5 I5=>⟨σ,_,I5,q4⟩
def ag1:V→V→Hp→VK→Prop:=fun x y H Q=>∃i j,x = .int i∧y = .int j∧Q (.int (i+j)) H
theorem Ur:adD X .Add ag1:=by
 rintro pp s σ H x y u v Q I rx ry ⟨i,j,rfl,rfl,q⟩
 obtain⟨t,rfl⟩:=(show ∃t,u=Value.int i t from rx)
 obtain⟨t',rfl⟩:=(show ∃t',v=Value.int j t' from ry)
 exact PyProof.Rows.iadd_int ⟨.int (i+j),H,I.tok _,⟨_,rfl⟩,q⟩
end
structure ig (k:Nat) (A:Around):Prop where
 hd:A.handled=none
 dp:A.depth+3*k+5<recursionLimit
 un:A.units+16*k+200<cLine
theorem ig.mono {j k:Nat} {A:Around} (r:ig k A) (h:j≤k):ig j A:=⟨r.hd,by have:=r.dp;lia,by have:=r.un;lia⟩
theorem ig.deeper {k:Nat} {A:Around} (r:ig (k+1) A) (env:Env):ig k (A.deeper env) :=
 ⟨r.hd,by have:=r.dp;show A.depth+1+3*k+5<_;lia,by have:=r.un;show A.units+3+16*k+200<_;lia⟩
theorem OS {A:Around} {C:Addr} {us:List Value} {kw:List (Str×Value)}:(A.under (.builtin "type.__call__" ⟨.ref C::us,kw⟩)).depth=A.depth+1:=by
 first|rfl|simp[Around.under,Code.weight,Code.isCreation,Code.isGuard,Code.isCaller,Code.frames,Code.isFrame,guardIds]
theorem OT {A:Around} {C:Addr} {us:List Value} {kw:List (Str×Value)}:(A.under (.builtin "type.__call__" ⟨.ref C::us,kw⟩)).units=A.units+1:=by
 first|rfl|simp[Around.under,Code.cUnits,Code.frames,Code.isFrame]
theorem ig.make {k:Nat} {A:Around} (r:ig (k+1) A) (C:Addr) (us:List Value) (kw:List (Str×Value)):ig k (A.under (.builtin "type.__call__" ⟨.ref C::us,kw⟩)) :=
 ⟨r.hd,by have:=r.dp;rw[OS];lia,by have:=r.un;rw[OT];lia⟩
theorem ig.depth {k:Nat} {A:Around} (r:ig k A):A.depth<recursionLimit:=by have:=r.dp;lia
theorem ig.units {k:Nat} {A:Around} (r:ig k A):A.units+64<cLine:=by have:=r.un;lia
def HX:TA:=fun _ H Q=>Q [] H
def Di (ta:TE) (tr:TA):TA:=fun σ H Q=>ta σ H fun x H1=>tr σ H1 fun xs H2=>Q (x::xs) H2
section
variable {X:Cx} {e:Expr} {es:List Expr} {te:TE} {t:TA} {pos:Pos}
theorem ai:PA X [] HX:=fun _ _ _ _ H Q I h=>Calls.spliced_nil ⟨[],H,I,.nil,h⟩
theorem aa (ha:PE X e te) (hr:PA X es t) (hs:starEach (e::es) X.env=(false,eval e X.env)::starEach es X.env:=by rfl):PA X (e::es) (Di te t):=by
 intro pos pp s σ H Q I h
 rw[hs]
 show wpAny _ _ (spliced ((false,eval e X.env)::backTo pos (starEach es X.env))) _ _ s
 refine Calls.spliced_cons (dq (ha pp s σ H _ I h) fun u s1 ⟨x,H1,I1,r1,q1⟩=>?_)
 exact dq (hr pos pp s1 σ H1 _ I1 q1) fun us s2 ⟨xs,H2,I2,r2,q2⟩=>⟨x::xs,H2,I2,.cons r1 r2,q2⟩
def ag2 (t:TA):TE:=fun σ H Q=>t σ H fun xs H1=>xs.length≤sizeLine∧∀p,H1 p=none→Q (.ref p) (upd H1 p (.tup xs))
def ag3 (t:TA):TE:=fun σ H Q=>t σ H fun xs H1=>xs.length≤sizeLine∧∀p,H1 p=none→Q (.ref p) (upd H1 p (.lst xs))
theorem OU {x1} (h:PA X es t):PE X (.Tuple es x1 pos) (ag2 t):=by
 intro pp s σ H Q I hq
 refine wpAny_Tuple_spliced (dq (h pos pp s σ H _ I hq) fun us s1 ⟨xs,H1,I1,r,z,q⟩=>⟨by rw[←r.length];exact z,?_⟩)
 have hf:H1 s1.heap.objs.size=none:=I1.cG.fresh (le_refl _)
 refine⟨.ref s1.heap.objs.size,upd H1 s1.heap.objs.size (.tup xs),I1.laid (t':=s1.toks) (fun b u e=>Heap.get?_push_of_some _ e) (le_refl _) ?_,rfl,q _ hf⟩
 exact⟨z,us,r,⟨_,Heap.get?_push_size _ rfl,rfl,_,rfl⟩⟩
theorem cy (h:PA X es t):PE X (.List es pos) (ag3 t):=by
 intro pp s σ H Q I hq
 refine wpAny_List_spliced (dq (h pos pp s σ H _ I hq) fun us s1 ⟨xs,H1,I1,r,z,q⟩=>⟨by rw[←r.length];exact z,?_⟩)
 have hf:H1 s1.heap.objs.size=none:=I1.cG.fresh (le_refl _)
 refine⟨.ref s1.heap.objs.size,upd H1 s1.heap.objs.size (.lst xs),I1.laid (t':=s1.toks) (fun b u e=>Heap.get?_push_of_some _ e) (le_refl _) ?_,rfl,q _ hf⟩
 exact⟨z,us,0,r,Heap.get?_push_size _ rfl⟩
end
abbrev Sp:=List V→Hp→VK→XK→Prop
abbrev Sj:=List Env→Hp→Shared→XK→Value→Shared→Prop
structure OV (P:Program) (w:World) (K:W.Frag) (mg:Str→Option Value) (base:Heap) (A:Around) (outer:List Env) (s:Shared) (H:Hp):Prop where
 frames:A.frames=some outer
 mod:Mod K mg base
 bs:∀b o,base.get? b=some o→s.heap.get? b=some o∧H b=none
 WI:base.objs.size≤s.heap.objs.size
 yz:s.heap.FunFrames base outer
 Zj:∀b∈wz outer,H b=none
 cG:t9 P w H s.heap
 bare:AllBare s.gens
def CE (outer:List Env) (P:Program) (w:World) (H:Hp) (s:Shared) (Q:VK) (u:Value) (s':Shared):Prop :=
 ∃v H',s'.os=s.os∧AllBare s'.gens∧Un (wz outer) [] H H' s.heap s'.heap∧t9 P w H' s'.heap∧RelV v u∧Q v H'
def CR (CX:Sj) (outer:List Env) (P:Program) (w:World) (H:Hp) (s:Shared) (Q:VK) (E:XK) (r:Result) (s':Shared):Prop :=
 match r with
 | .ok (.ret u)=>CE outer P w H s Q u s'
 | .ok _=>False
 | .error e=>CX outer H s E e s'
structure tW (P:Program) (w:World) (K:W.Frag) (mg:Str→Option Value) (base:Heap) (CX:Sj) (k:Nat) (f:Addr) (fd:FuncData) (ps:List Str) (sp:Sp):Prop where
 len:∀vs H Q E,sp vs H Q E→vs.length=ps.length
 run:∀(A:Around) (outer:List Env) (s:Shared) (H:Hp) (args:Args) (us:List Value) (vs:List V) (Q:VK) (E:XK),ig k A→OV P w K mg base A outer s H→BindsTo s fd args (ps.zip us)→Vals vs us→sp vs H Q E →
  codeAny (model P w) A (.call (.ref f) args) (CR CX outer P w H s Q E) s
theorem tW.mono {P:Program} {w:World} {K:PySem.W.Frag} {mg:Str→Option Value} {base:Heap} {CX:Sj} {j k:Nat} {f:Addr} {fd:FuncData} {ps:List Str} {sp:Sp} (F:tW P w K mg base CX j f fd ps sp) (h:j≤k) :
 tW P w K mg base CX k f fd ps sp:=⟨F.len,fun A outer s H args us vs Q E hr=>F.run A outer s H args us vs Q E (hr.mono h)⟩
theorem tW.imp {P:Program} {w:World} {K:PySem.W.Frag} {mg:Str→Option Value} {base:Heap} {CX:Sj} {k:Nat} {f:Addr} {fd:FuncData} {ps:List Str} {sp Zp:Sp} (F:tW P w K mg base CX k f fd ps sp)
 (h:∀vs H Q E,Zp vs H Q E→sp vs H Q E):tW P w K mg base CX k f fd ps Zp :=
 ⟨fun vs H Q E q=>F.len vs H Q E (h _ _ _ _ q),fun A outer s H args us vs Q E hr he hb hv hs=>F.run A outer s H args us vs Q E hr he hb hv (h _ _ _ _ hs)⟩
theorem OV.make {P:Program} {w:World} {K:W.Frag} {mg:Str→Option Value} {base:Heap} {A:Around} {outer:List Env} {s:Shared} {H:Hp} (e:OV P w K mg base A outer s H) (C:Addr) (us:List Value) (kw:List (Str×Value)) :
 OV P w K mg base (A.under (.builtin "type.__call__" ⟨.ref C::us,kw⟩)) outer s H:=⟨by first|exact e.frames|(simpa [Around.under,Code.envs,Code.isFrame,pushEnvs] using e.frames),e.mod,e.bs,e.WI,e.yz,e.Zj,e.cG,e.bare⟩
section
variable {X:Cx} {pp:List (Addr×Obj)} {σ:St} {H:Hp} {s s':Shared}
theorem Inv.adE (I:Inv X pp σ H s):OV X.prog X.w X.K X.mg X.base X.A X.stack s H :=
 ⟨I.ok.frames,I.ok.mod,I.bs,le_trans I.ok.WI I.sz,I.stack,I.Kz,I.cG,I.bare⟩
theorem Inv.after {Q:VK} {u:Value} (I:Inv X pp σ H s) (h:CE X.stack X.prog X.w H s Q u s'):EP X pp σ Q u s':=by
 obtain⟨v,H',os,bare,un,cG,r,q⟩:=h
 obtain⟨hh,g,d,t,os'⟩:=s'
 obtain rfl:os'=s.os:=os
 exact⟨v,H',I.call (h':=hh) (g':=g) (d':=d) (t':=t) (ch:=[]) un cG bare (fun b z=>absurd z (by simp)),r,q⟩
end
def Fy (sp:Sp) (Fz:List V) (E:XK) (t:TA):TE:=fun σ H Q=>t σ H fun vs H1=>sp (vs++Fz) H1 Q E
inductive MethP (C:Addr) (m:Str) (N:Hp→Prop) (x:V) (H:Hp):Prop
 |mk (a dx:Addr) (fs:List (Str×V)) (e:x = .ref a) (h:H a=some (.ins C dx fs)) (l:fs.lookup m=none) (q:N H):MethP C m N x H
def Q0 (C:Addr) (m:Str) (sp:Sp) (Fz:List V) (E:XK) (ta:TE) (t:TA):TE:=fun σ H Q=>ta σ H fun x H1=>MethP C m (fun H1=>t σ H1 fun vs H2=>sp (x::(vs++Fz)) H2 Q E) x H1
def Q1 (C:Addr) (sp:Sp) (Fz:List V) (E:XK) (t:TA):TE:=fun σ H Q=>t σ H fun vs H1=>∀x dx,H1 x=none→H1 dx=none→dx≠x →
 sp (.ref x::(vs++Fz)) (upd (upd H1 dx (.own x)) x (.ins C dx [])) (fun v H2=>v = .dh∧Q (.ref x) H2) E
def Binds (K:W.Frag) (fd:FuncData) (ps:List Str) (ds:List Value):Prop :=
 ∀(s:Shared) (us:List Value),K.In s.heap→(us++ds).length=ps.length→BindsTo s fd ⟨us,[]⟩ (ps.zip (us++ds))
theorem Binds.all {K:W.Frag} {fd:FuncData} {ps:List Str} (h:∀us:List Value,us.length=ps.length→bindArgs fd ⟨us,[]⟩=pure (ps.zip us)):Binds K fd ps []:=fun s us _ hl=>by
 rw[append_nil]at hl ⊢
 exact .of_eq (h us hl)
def Passes (CX:Sj) (X:Cx) (E:XK):Prop:=∀(pp:List (Addr×Obj)) (σ:St) (H:Hp) (s:Shared) (e:Value) (s':Shared),Inv X pp σ H s→CX X.stack H s E e s'→X.xe e s'
section
variable {X:Cx} {CX:Sj} {k:Nat} {f C:Addr} {fd:FuncData} {ps:List Str} {sp:Sp} {Fz:List V} {ds:List Value} {E:XK} {x m:Str} {p pos apos:Pos} {e o:Expr} {es:List Expr} {ta:TE} {t:TA}
theorem FC {pp:List (Addr×Obj)} {σ:St} {H:Hp} {s:Shared} {Q:VK} {us:List Value} {vs:List V} (F:tW X.prog X.w X.K X.mg X.base CX k f fd ps sp) (hr:ig k X.A) (hb:Binds X.K fd ps ds) (hd:Vals Fz ds) (hx:Passes CX X E)
 (I:Inv X pp σ H s) (r:Vals vs us) (h:sp (vs++Fz) H Q E):wpAny (model X.prog X.w) X.A (call (.ref f) us) (EP X pp σ Q) X.xe s:=by
 have r2:Vals (vs++Fz) (us++ds):=r.append hd
 have hl:(us++ds).length=ps.length:=by rw[←r2.length];exact F.len _ _ _ _ h
 refine wpAny_call (codeAny_mono (F.run X.A X.stack s H ⟨us,[]⟩ (us++ds) (vs++Fz) Q E hr I.adE (hb s us I.Fi hl) r2 h) fun r s' hq=>?_)
 cases r with
 |error e=>exact hx pp σ H s e s' I hq
 |ok fl =>
  cases fl with
  |ret u=>exact I.after hq
  |next=>exact False.elim hq
  |brk=>exact False.elim hq
  |cont=>exact False.elim hq
theorem Xe (F:tW X.prog X.w X.K X.mg X.base CX k f fd ps sp) (hr:ig k X.A) (hg:Gl X x) (hm:X.mg x=some (.ref f)) (hk:PySem.W.keepIn X.K (.ref f)=true) (hb:Binds X.K fd ps ds) (hd:Vals Fz ds) (hx:Passes CX X E)
 (ha:PA X (e::es) t) (KL:(x==("__debug__" : Str))=false:=by decide) (he:starEach (e::es) X.env=(false,eval e X.env)::starEach es X.env:=by rfl) (oM:(backTo pos (starEach es X.env)).any (·.1)=false:=by rfl) :
 PE X (.Call (.Name x p) (e::es) [] pos) (Fy sp Fz E t):=by
 intro pp s σ H Q I h
 refine wpAny_Call_Name_kw (rA I hg hm ?_ KL)
 refine PySem.W.callWith_K (h₀:=X.base) I.ok.mod.R8 hk (dq (ha pos pp s σ H _ I h) fun us s1 ⟨vs,H1,I1,r,q⟩=>⟨I1.Fi,?_⟩) he oM
 exact FC F hr hb hd hx I1 r q
theorem Xf {pl:Sem Bool} (he:PE X o ta) (c:Dh X.K C) (hm:Meth X.K C m f) (F:tW X.prog X.w X.K X.mg X.base CX k f fd ps sp) (hr:ig k X.A) (hb:Binds X.K fd ps ds) (hd:Vals Fz ds) (hx:Passes CX X E) (ha:PA X (e::es) t)
 (jj:starEach (e::es) X.env=(false,eval e X.env)::starEach es X.env:=by rfl) (oM:(backTo pos (starEach es X.env)).any (·.1)=false:=by rfl)
 (ht:eval (.Call (.Attribute o m apos) (e::es) [] pos) X.env=(do
  let ov ←eval o X.env
  standAt apos.atName
  let(f,first) ←holding [ov] (getMethod ov m pl)
  callWith pos f first (backTo pos (starEach (e::es) X.env)) (backToKw pos (keywordEach [] X.env))):=by rfl) :
 PE X (.Call (.Attribute o m apos) (e::es) [] pos) (Q0 C m sp Fz E ta t):=by
 intro pp s σ H Q I h
 refine PySem.W.methodCall_KW (pl:=pl) (dq (he pp s σ H _ I h) fun u s1 ⟨x,H1,I1,rx,a,dx,fs,ex,ea,l,q⟩=>?_) ht
 subst ex
 obtain rfl:u=Value.ref a:=rx
 refine Fw I1 ea c hm l ?_
 refine PySem.W.callWith_K (first:=[.ref a]) (h₀:=X.base) I.ok.mod.R8 hm.kp (dq (ha pos pp s1 σ H1 _ I1 q) fun us s2 ⟨vs,H2,I2,r,q2⟩=>⟨I2.Fi,?_⟩) jj oM
 exact FC (us:=.ref a::us) (vs:=.ref a::vs) F hr hb hd hx I2 (.cons rfl r) q2
theorem Us {pl:Sem Bool} (he:PE X o ta) (c:Dh X.K C) (hm:Meth X.K C m f) (F:tW X.prog X.w X.K X.mg X.base CX k f fd ps sp) (hr:ig k X.A) (hb:Binds X.K fd ps ds) (hd:Vals Fz ds) (hx:Passes CX X E)
 (ht:eval (.Call (.Attribute o m apos) [] [] pos) X.env=(do
  let ov ←eval o X.env
  standAt apos.atName
  let(f,first) ←holding [ov] (getMethod ov m pl)
  callWith pos f first (backTo pos (starEach [] X.env)) (backToKw pos (keywordEach [] X.env))):=by rfl) :
 PE X (.Call (.Attribute o m apos) [] [] pos) (Q0 C m sp Fz E ta HX):=by
 intro pp s σ H Q I h
 refine PySem.W.methodCall_KW (pl:=pl) (dq (he pp s σ H _ I h) fun u s1 ⟨x,H1,I1,rx,a,dx,fs,ex,ea,l,q⟩=>?_) ht
 subst ex
 obtain rfl:u=Value.ref a:=rx
 refine Fw I1 ea c hm l ?_
 exact PySem.W.callWith_K0 (first:=[.ref a]) I1.Fi hm.kp (FC (us:=[.ref a]) (vs:=[.ref a]) F hr hb hd hx I1 (.cons rfl .nil) q)
structure Mk (K:W.Frag) (C f:Addr):Prop where
 makes:W.makesIn K C=true
 init:W.findIn K (.ref C) "__init__" = some (some (.ref f))
 fn:W.isFn K (.ref f)=true
 kp:W.keepIn K (.ref C)=true
theorem MF {pp:List (Addr×Obj)} {σ:St} {H:Hp} {s:Shared} {Q:VK} {us:List Value} {vs:List V} (M:Mk X.K C f) (F:tW X.prog X.w X.K X.mg X.base CX k f fd ps sp) (hr:ig (k+1) X.A) (hb:Binds X.K fd ps ds) (hd:Vals Fz ds)
 (hx:Passes CX X E) (I:Inv X pp σ H s) (r:Vals vs us)
 (h:∀x dx,H x=none→H dx=none→dx≠x→sp (.ref x::(vs++Fz)) (upd (upd H dx (.own x)) x (.ins C dx [])) (fun v H2=>v = .dh∧Q (.ref x) H2) E) :
 wpAny (model X.prog X.w) X.A (call (.ref C) us) (EP X pp σ Q) X.xe s:=by
 have hq:=h (s.heap.objs.size+1) s.heap.objs.size (I.cG.fresh (Nat.le_succ _)) (I.cG.fresh (le_refl _)) (ne_of_lt (lt_succ_self _))
 have I2:=Inv.made (C:=C) I
 have r2:Vals (V.ref (s.heap.objs.size+1)::(vs++Fz)) (Value.ref (s.heap.objs.size+1)::(us++ds)):=.cons rfl (r.append hd)
 have hl:(Value.ref (s.heap.objs.size+1)::us++ds).length=ps.length:=by
  have e:=r2.length
  rw[F.len _ _ _ _ hq]at e
  exact e.symm
 refine wpAny_call (Uq (f:=f) I.Fi M.makes M.init (beq_iff_eq.mp M.fn) (codeAny_mono (F.run _ X.stack _ _ ⟨Value.ref (s.heap.objs.size+1)::us,[]⟩ (Value.ref (s.heap.objs.size+1)::(us++ds)) _ _ E (hr.make C us [])
  (I2.adE.make C us []) (hb _ (Value.ref (s.heap.objs.size+1)::us) I2.Fi hl) r2 hq) fun r s' hq'=>?_))
 cases r with
 |error e=>exact hx pp σ _ _ e s' I2 hq'
 |ok fl =>
  cases fl with
  |ret u =>
   obtain⟨v,H',I3,rv,ev,q3⟩:=I2.after hq'
   subst ev
   exact⟨rv,⟨V.ref (s.heap.objs.size+1),H',I3,rfl,q3⟩⟩
  |next=>exact False.elim hq'
  |brk=>exact False.elim hq'
  |cont=>exact False.elim hq'
theorem Xg (M:Mk X.K C f) (F:tW X.prog X.w X.K X.mg X.base CX k f fd ps sp) (hr:ig (k+1) X.A) (hg:Gl X x) (hm:X.mg x=some (.ref C)) (hb:Binds X.K fd ps ds) (hd:Vals Fz ds) (hx:Passes CX X E)
 (ha:PA X (e::es) t) (KL:(x==("__debug__" : Str))=false:=by decide) (he:starEach (e::es) X.env=(false,eval e X.env)::starEach es X.env:=by rfl) (oM:(backTo pos (starEach es X.env)).any (·.1)=false:=by rfl) :
 PE X (.Call (.Name x p) (e::es) [] pos) (Q1 C sp Fz E t):=by
 intro pp s σ H Q I h
 refine wpAny_Call_Name_kw (rA I hg hm ?_ KL)
 refine PySem.W.callWith_K (h₀:=X.base) I.ok.mod.R8 M.kp (dq (ha pos pp s σ H _ I h) fun us s1 ⟨vs,H1,I1,r,q⟩=>⟨I1.Fi,?_⟩) he oM
 exact MF M F hr hb hd hx I1 r q
theorem Ut (M:Mk X.K C f) (F:tW X.prog X.w X.K X.mg X.base CX k f fd ps sp) (hr:ig (k+1) X.A) (hg:Gl X x) (hm:X.mg x=some (.ref C)) (hb:Binds X.K fd ps ds) (hd:Vals Fz ds) (hx:Passes CX X E)
 (KL:(x==("__debug__" : Str))=false:=by decide):PE X (.Call (.Name x p) [] [] pos) (Q1 C sp Fz E HX):=by
 intro pp s σ H Q I h
 refine wpAny_Call_Name_kw (rA I hg hm ?_ KL)
 exact PySem.W.callWith_K0 I.Fi M.kp (MF (us:=[]) M F hr hb hd hx I .nil h)
end
structure ay (N P:List Str) (sc:Scope):Prop where
 kind:sc.kind = .function
 co:sc.isCoroutine=false
 gen:sc.isGenerator=false
 nd:N.Nodup
 pre:N.take P.length=P
 par:∀x∈P,sc.names.lookup x=some .local∨sc.names.lookup x=some .cell
 aaH:∀y∈sc.names,y.2≠.free
theorem JE {kindOf:Str→Option NameKind} {x:Str}:∀{binds:List (Str×Value)} {m:Str→Option Value},(∀v,(x,v)∉binds)→bindL kindOf binds m x=m x
 | [],_,_=>rfl
 |(n,v)::r,m,h=>by
  unfold bindL
  rw[JE fun w hw=>h w (mem_cons_of_mem _ hw)]
  split
  ·have:x≠n:=by rintro rfl;exact h v mem_cons_self
   simp[this]
  ·rfl
theorem JF {kindOf:Str→Option NameKind} {x:Str}:∀{binds:List (Str×Value)} {m:Str→Option Value},(∀v,(x,v)∉binds)→bindC kindOf binds m x=m x
 | [],_,_=>rfl
 |(n,v)::r,m,h=>by
  unfold bindC
  rw[JF fun w hw=>h w (mem_cons_of_mem _ hw)]
  split
  ·rfl
  ·have:x≠n:=by rintro rfl;exact h v mem_cons_self
   simp[this]
theorem JG {kindOf:Str→Option NameKind} {x:Str} {v:Value}:∀{P:List Str} {vs:List Value} {i:Nat} {m:Str→Option Value},P.Nodup→P[i]?=some x→vs[i]?=some v→kindOf x=some .local →
 bindL kindOf (P.zip vs) m x=some v
 | [],_,_,_,_,h,_,_=>by simp at h
 |_::_,[],_,_,_,_,h,_=>by simp at h
 |p::P,w::vs,0,m,nd,h1,h2,hk=>by
  simp at h1 h2;subst h1;subst h2
  show bindL kindOf ((p,w)::P.zip vs) m p=_
  unfold bindL
  rw[JE fun v hv=>(nodup_cons.mp nd).1 (of_mem_zip hv).1,iPp hk]
  simp
 |p::P,w::vs,i+1,m,nd,h1,h2,hk=>by
  show bindL kindOf ((p,w)::P.zip vs) m x=_
  unfold bindL
  exact JG (i:=i) (nodup_cons.mp nd).2 (by simpa using h1) (by simpa using h2) hk
theorem JH {kindOf:Str→Option NameKind} {x:Str} {v:Value}:∀{P:List Str} {vs:List Value} {i:Nat} {m:Str→Option Value},P.Nodup→P[i]?=some x→vs[i]?=some v→kindOf x≠some .local →
 bindC kindOf (P.zip vs) m x=some v
 | [],_,_,_,_,h,_,_=>by simp at h
 |_::_,[],_,_,_,_,h,_=>by simp at h
 |p::P,w::vs,0,m,nd,h1,h2,hk=>by
  simp at h1 h2;subst h1;subst h2
  show bindC kindOf ((p,w)::P.zip vs) m p=_
  unfold bindC
  rw[JF fun v hv=>(nodup_cons.mp nd).1 (of_mem_zip hv).1,IN hk]
  simp
 |p::P,w::vs,i+1,m,nd,h1,h2,hk=>by
  show bindC kindOf ((p,w)::P.zip vs) m x=_
  unfold bindC
  exact JH (i:=i) (nodup_cons.mp nd).2 (by simpa using h1) (by simpa using h2) hk
def start (N:List Str) (vs:List V):St:=vs.map some++replicate (N.length-vs.length) none
def nI (CX:Sj) (P:Program) (w:World) (K:W.Frag) (mg:Str→Option Value) (base:Heap) (N:List Str) (qual:Str) (scope:Scope) (f:Addr) (cd:Value) (A:Around) (outer:List Env) (s:Shared) (H:Hp) (E:XK):Cx where
 prog:=P
 w:=w
 K:=K
 mg:=mg
 base:=base
 A:=A.deeper (envOfC qual scope s.heap.objs.size f cd)
 N:=N
 s₀:=s
 H₀:=H
 env:=envOfC qual scope s.heap.objs.size f cd
 outer:=outer
 stack:=envOfC qual scope s.heap.objs.size f cd::outer
 ex:=[]
 calm:=true
 fn:=fun _=>true
 pn:=[]
 xe:=fun e s'=>wpAny (model P w) (A.deeper (envOfC qual scope s.heap.objs.size f cd)) (leaving (envOfC qual scope s.heap.objs.size f cd) e) (fun _ Xh=>CX outer H s E e Xh) (fun e' Xh=>CX outer H s E e' Xh) s'
theorem MG {sc:Scope} {n:Nat} {x:Str} (h:sc.names.lookup x=some .cell):∃c,(cellsFrom n sc.names []).lookup x=some c:=by
 have q:=W.cellsFrom_some sc.names n [] (.inl h)
 exact Option.isSome_iff_exists.mp q
theorem Sk {CX:Sj} {P:Program} {w:World} {K:W.Frag} {mg:Str→Option Value} {base:Heap} {N ps:List Str} {qual:Str} {scope:Scope} {f:Addr} {cd:Value} {A:Around} {outer:List Env} {s s1:Shared} {H:Hp} {E:XK} {us:List Value} {vs:List V}
 (S:ay N ps scope) (hd:A.handled=none) (e0:OV P w K mg base A outer s H) (hl:vs.length=ps.length) (r:Vals vs us)
 (x:InCallC s s.heap.objs.size (bindL (envOfC qual scope s.heap.objs.size f cd).kindOf (ps.zip us) fun _=>none) (cellsFrom (s.heap.objs.size+1) scope.names []) (bindC (envOfC qual scope s.heap.objs.size f cd).kindOf (ps.zip us) fun _=>none) s1) :
 Inv (nI CX P w K mg base N qual scope f cd A outer s H E) [] (start N vs) H s1:=by
 have oM:ps.length≤N.length:=by have:=congrArg length S.pre;rw[length_take]at this;lia
 obtain⟨h1,tk,rfl,hk⟩:=x.done
 have noA:∀b:Addr,b∉(nI CX P w K mg base N qual scope f cd A outer s H E).ex:=fun b z=>absurd (show b∈([]:List Addr) from z) (by simp)
 refine⟨⟨e0.mod,S.kind,rfl,rfl,le_refl _,fun y z c h1 h2=>?_,fun y hy=>?_,fun y c _ h=>?_,fun _=>hd,Around.frames_deeper e0.frames,.inr ⟨rfl,rfl⟩,fun b z=>absurd z (noA b),e0.bs,e0.WI,fun b _ _=>noA b,fun b z=>absurd z (noA b),e0.yz,e0.Zj⟩,
  rfl,e0.bare,Un.kept hk,⟨_,x.toInCall.ns,fun i y v h1 h2 h3=>?_⟩,fun y c h=>⟨_,x.cell y c h⟩,e0.cG.fresh (le_refl _),fun y c h=>?_,fun p hp=>absurd (show p∈([]:List (Addr×Obj)) from hp) (by simp),e0.cG.kept hk,?_⟩
 ·exact name_of_addr x.apart (mem_of_lookup h1) (mem_of_lookup h2)
 ·have hy:scope.names.lookup y=some .cell∨scope.names.lookup y=some .free:=hy
  rcases hy with hy|hy
  ·exact MG hy
  ·exact absurd rfl (S.aaH _ (mem_of_lookup hy))
 ·exact le_of_lt (x.above y c (mem_of_lookup h))
 ·have hi:i<vs.length:=by
   unfold start at h2
   by_cases hi:i<vs.length
   ·exact hi
   ·rw[getElem?_append_right (by simpa using hi)]at h2
    rw[List.getElem?_replicate]at h2
    split at h2<;>cases h2
  have ha:vs[i]?=some v:=by
   unfold start at h2
   rw[getElem?_append_left (by simpa using hi),getElem?_map]at h2
   cases e:vs[i]? with
   |none=>rw[e]at h2;cases h2
   |some a=>rw[e]at h2;cases h2;rfl
  obtain⟨u,hu,rv⟩:=r.get ha
  have hp:ps[i]?=some y:=by
   rw[←S.pre,List.getElem?_take_of_lt (by lia)];exact h1
  have ndP:ps.Nodup:=by rw[←S.pre];exact S.nd.sublist (List.take_sublist _ _)
  refine⟨u,rv,?_⟩
  rcases S.par y (mem_of_getElem? hp) with k|k
  ·exact .inl ⟨k,JG ndP hp hu k⟩
  ·obtain⟨c,e⟩:=MG (n:=s.heap.objs.size+1) k
   refine .inr ⟨.inl k,c,e,?_⟩
   have q:=x.cell y c e
   rw[JH ndP hp hu (by show scope.names.lookup y≠_;rw[k];decide)]at q
   exact q
 ·exact e0.cG.fresh (le_of_lt (x.above y c (mem_of_lookup h)))
 ·unfold start
  show _=N.length
  rw[length_append,length_map,length_replicate]
  lia
theorem adI {CX:Sj} {P:Program} {w:World} {K:W.Frag} {mg:Str→Option Value} {base:Heap} {k:Nat} {f:Addr} {name qual:Str} {params:Arguments} {body:List Stmt} {scope:Scope} {dV kV doc pm b6 ct oc:Value} {an od:Option Addr}
 {JI:Array (Option Value)} {N ps:List Str} {sp:Sp} (lk:K.lookup f=some ⟨oc,od,.func (W.fnOf name qual params body scope dV kV doc pm an b6 ct),JI⟩) (WK:W.codeIn K b6 qual=true) (S:ay N ps scope)
 (len:∀vs H Q E,sp vs H Q E→vs.length=ps.length)
 (MH:∀(A:Around) (outer:List Env) (s:Shared) (H:Hp) (vs:List V) (Q:VK) (E:XK),ig k (A.deeper (envOfC qual scope s.heap.objs.size f b6))→sp vs H Q E →
  ∃t,Sa (nI CX P w K mg base N qual scope f b6 A outer s H E) body t∧t {nx:=fun _ H'=>Q .dh H',rt:=Q} (start N vs) H) :
 tW P w K mg base CX (k+1) f (W.fnOf name qual params body scope dV kV doc pm an b6 ct) ps sp:=by
 refine⟨len,fun A outer s H args us vs Q E hr e0 hb r Q2=>?_⟩
 have hl:=len _ _ _ _ Q2
 have KX:K.In s.heap:=e0.mod.R8.keeps fun b o e=>(e0.bs b o e).1
 have lim:s.heap.NoLimit:=e0.mod.nolimit.keeps fun b o e=>(e0.bs b o e).1
 have adJ:∀y∈ps.zip us,scope.names.lookup y.1=some .local∨(scope.names.lookup y.1=some .cell∧((cellsFrom (s.heap.objs.size+1) scope.names []).lookup y.1).isSome=true):=fun⟨n,v⟩ hy=>by
  rcases S.par n (of_mem_zip hy).1 with q|q
  ·exact .inl q
  ·exact .inr ⟨q,W.cellsFrom_some _ _ _ (.inl q)⟩
 refine codeAny_call_function hr.depth (KX _ _ lk) rfl S.co S.gen rfl (W.codeRec_of KX WK) (hb _ _ _ _ ?_)
 refine wpAny_newFunctionEnv_cells S.kind adJ fun env he s1 x=>?_
 subst he
 refine⟨lim.keeps x.toInCall.keep,codeAny_func ?_⟩
 obtain⟨t,ht,hq⟩:=MH A outer s H vs Q E (hr.deeper _) Q2
 have I:Inv (nI CX P w K mg base N qual scope f b6 A outer s H E) [] (start N vs) H s1:=Sk S hr.hd e0 hl r x
 refine wpAny_mono (ht [] s1 (start N vs) H _ I hq) (fun fl s' hs=>?_) fun e s' hs=>hs
 have fin:∀{σ':St} {H':Hp} {v:V} {u:Value},Inv (nI CX P w K mg base N qual scope f b6 A outer s H E) [] σ' H' s'→RelV v u→Q v H'→CE outer P w H s Q u s' :=
  fun{σ' H' v u} J rv q=>⟨v,H',J.os,J.bare,J.base,J.cG,rv,q⟩
 cases fl with
 |ret u =>
  obtain⟨v,σ',H',J,rv,q⟩:=hs
  exact fin J rv q
 |next =>
  obtain⟨σ',H',J,q⟩:=hs
  exact fin (v:=V.dh) (u:=Value.none) J rfl q
 |brk =>
  obtain⟨_,_,_,q⟩:=hs
  exact False.elim q
 |cont =>
  obtain⟨_,_,_,q⟩:=hs
  exact False.elim q
section
variable {X:Cx} {x:Str} {p pos:Pos} {e:Expr} {es:List Expr} {t:TA} {id T:String} {r:List V→Hp→VK→Prop}
def tCB (r:List V→Hp→VK→Prop) (t:TA):TE:=fun σ H Q=>t σ H fun vs H1=>r vs H1 Q
theorem aV (hc:oV X (.builtin id) r) (hg:Gl X x) (hm:X.mg x=none) (hv:bootBuiltins x=some (.builtin id)) (ha:PA X (e::es) t) (hn:x ≠ "__name__":=by decide) (KL:(x==("__debug__" : Str))=false:=by decide)
 (he:starEach (e::es) X.env=(false,eval e X.env)::starEach es X.env:=by rfl) (oM:(backTo pos (starEach es X.env)).any (·.1)=false:=by rfl):PE X (.Call (.Name x p) (e::es) [] pos) (tCB r t):=by
 intro pp s σ H Q I h
 refine wpAny_Call_Name_kw (rB I hg hm hv ?_ hn KL)
 exact PyProof.Rows.callWith_builtin1 (dq (ha pos pp s σ H _ I h) fun us s1 ⟨vs,H1,I1,r1,q1⟩=>hc pp s1 σ H1 vs us Q I1 r1 q1) he oM
theorem wA (hc:oV X (.type T) r) (hg:Gl X x) (hm:X.mg x=none) (hv:bootBuiltins x=some (.type T)) (ha:PA X (e::es) t) (hn:x ≠ "__name__":=by decide) (KL:(x==("__debug__" : Str))=false:=by decide)
 (he:starEach (e::es) X.env=(false,eval e X.env)::starEach es X.env:=by rfl) (oM:(backTo pos (starEach es X.env)).any (·.1)=false:=by rfl):PE X (.Call (.Name x p) (e::es) [] pos) (tCB r t):=by
 intro pp s σ H Q I h
 refine wpAny_Call_Name_kw (rB I hg hm hv ?_ hn KL)
 exact PyProof.Rows.callWith_type1 (dq (ha pos pp s σ H _ I h) fun us s1 ⟨vs,H1,I1,r1,q1⟩=>hc pp s1 σ H1 vs us Q I1 r1 q1) he oM
end
end L2
namespace HT
open PySem PyProof.Rows
section
variable {prog:Program} {w:World} {A:Around} {E:Value→Shared→Prop} {s:Shared}
theorem Xi {t b:Addr} {vs ws:List Value} {Q:Value→Shared→Prop} (ht:IsTup s.heap t vs.toArray) (hb:IsTup s.heap b ws.toArray) (hv:vs≠[])
 (h1:ws=[]→Q (.ref t) s) (h2:ws≠[]→Q (.ref s.heap.objs.size) {s with heap:=s.heap.push {cls:=.type "tuple",data:=.seq (vs++ws).toArray}})
 (hsz:vs.length+ws.length≤sizeLine):wpAny (model prog w) A (binaryOp .Add (.ref t) (.ref b)) Q E s:=by
 obtain⟨⟨cls,dd,data,sl⟩,ho,hc,n,hd⟩:=id ht
 obtain⟨⟨ag5,dd2,data2,sl2⟩,ho2,Mv,n2,hd2⟩:=id hb
 simp only at hc hd Mv hd2
 subst hc hd Mv hd2
 have e:vs.toArray++ws.toArray=(vs++ws).toArray:=by simp
 by_cases hw:ws=[]
 ·exact concat_meets ⟨_,ho,rfl⟩ ⟨_,ho2,rfl⟩ noFill_tuple_add seq_tuple_add PySem.F.slot_tuple_add PySem.F.entry_tuple_add (PySem.F.args_tuple_add_2 _ _)
   (tuple_addW1 t b vs.toArray ws.toArray n n2 dd dd2 sl sl2 (by simpa using hv) (by simp[hw])) ⟨ho,ho2,h1 hw⟩
 ·refine concat_meets ⟨_,ho,rfl⟩ ⟨_,ho2,rfl⟩ noFill_tuple_add seq_tuple_add PySem.F.slot_tuple_add PySem.F.entry_tuple_add (PySem.F.args_tuple_add_2 _ _)
   (tuple_addW2 t b vs.toArray ws.toArray n n2 dd dd2 sl sl2 (by simpa using hv) (by simpa using hw) (by rw[size_toArray,size_toArray];exact hsz)) ⟨ho,ho2,?_⟩
  rw[e]
  exact h2 hw
def HY (n d:Nat):Option Int→Nat
 |none=>d
 |some v=>if v<0 then(v+(n:Int)).toNat else min v.toNat n
theorem FD (n d:Nat):HY n d none=d:=rfl
theorem zX (n d k:Nat):HY n d (some (k:Int))=min k n:=by
 show(if (k:Int)<0 then((k:Int)+(n:Int)).toNat else min (k:Int).toNat n)=min k n
 rw[IN (by lia),toNat_natCast]
end
end HT
namespace L2
open PySem PySem.Spec PyProof.Rows
abbrev TO:=St→Hp→(Option Int→Hp→Prop)→Prop
def PO (X:Cx) (e:Option Expr) (t:TO):Prop :=
 ∀(pp:List (Addr×Obj)) (s:Shared) (σ:St) (H:Hp) (Q:Option Int→Hp→Prop),Inv X pp σ H s→t σ H Q →
  wpAny (model X.prog X.w) X.A (evalPart e X.env) (fun u s'=>∃o H',Inv X pp σ H' s'∧IsPart u o∧Q o H') X.xe s
def Xj:TO:=fun _ H Q=>Q none H
def adK (t:TE):TO:=fun σ H Q=>t σ H fun x H1=>∃i,x = .int i∧Q (some i) H1
section
variable {X:Cx} {e:Expr} {te:TE} {lo hi:Option Expr} {tl th:TO} {pos p2:Pos}
theorem E0:PO X none Xj:=by
 intro pp s σ H Q I h
 rw[evalPart_none]
 exact wpAny_pure ⟨none,H,I,.none,h⟩
theorem gY (h:PE X e te):PO X (some e) (adK te):=by
 intro pp s σ H Q I hw
 rw[evalPart_some]
 refine dq (h pp s σ H _ I hw) fun u s1 ⟨x,H1,I1,r1,q1⟩=>?_
 obtain⟨i,rfl,q⟩:=q1
 obtain⟨t,rfl⟩:=r1
 exact⟨some i,H1,I1,.int i t,q⟩
def SlR (X:Cx) (r:V→Option Int→Option Int→Hp→VK→Prop):Prop :=
 ∀(pp:List (Addr×Obj)) (s:Shared) (σ:St) (H:Hp) (x:V) (v vl vu:Value) (lo hi:Option Int) (sl:Addr) (Q:VK),Inv X pp σ H s→RelV x v→s.heap.IsSliceOf sl vl vu .none→IsPart vl lo→IsPart vu hi→r x lo hi H Q →
  ∃T id,typeLookup (.type T) "__getitem__" = pure (some (.builtin id))∧s.TypeIs v T∧wpAny (model X.prog X.w) X.A (getItem v (.ref sl)) (EP X pp σ Q) X.xe s
def tSl (r:V→Option Int→Option Int→Hp→VK→Prop) (te:TE) (tl th:TO):TE:=fun σ H Q=>te σ H fun x H1=>tl σ H1 fun l H2=>th σ H2 fun u H3=>r x l u H3 Q
theorem jL {r:V→Option Int→Option Int→Hp→VK→Prop} (hr:SlR X r) (he:PE X e te) (hl:PO X lo tl) (hu:PO X hi th):PE X (.Subscript e (.Slice lo hi none p2) pos) (tSl r te tl th):=by
 intro pp s σ H Q I h
 refine Subscript_ (dq (he pp s σ H _ I h) fun v s1 ⟨x,H1,I1,r1,q1⟩=>?_)
 refine wpAny_Slice (dq (hl pp s1 σ H1 _ I1 q1) fun vl s2 ⟨l,H2,I2,pl,q2⟩=>dq (hu pp s2 σ H2 _ I2 q2) fun vu s3 ⟨u,H3,I3,pu,q3⟩=>?_)
 rw[evalPart_none]
 refine wpAny_pure ?_
 have I4:Inv X pp σ H3 {s3 with heap:=s3.heap.push {cls:=.type "slice",data:=.fields #[vl,vu,.none]}}:=I3.kept (t':=s3.toks) fun b ob q=>Heap.get?_push_of_some _ q
 obtain⟨T,id,hT,ht,hg⟩:=hr pp {s3 with heap:=s3.heap.push {cls:=.type "slice",data:=.fields #[vl,vu,.none]}} σ H3 x v vl vu l u s3.heap.objs.size Q I4 r1 (Heap.IsSliceOf.new ..) pl pu q3
 show wpAny (model X.prog X.w) X.A (subscriptTail e (.Slice lo hi none p2) v (.ref s3.heap.objs.size)) (EP X pp σ Q) X.xe {s3 with heap:=s3.heap.push {cls:=.type "slice",data:=.fields #[vl,vu,.none]}}
 exact tail_any (ops:=[.ref s3.heap.objs.size,v]) ht hT hg (by with_unfolding_all rfl)
def zY (xs:List V) (lo hi:Option Int):List V:=(xs.drop (HT.HY xs.length 0 lo)).take (HT.HY xs.length xs.length hi-HT.HY xs.length 0 lo)
theorem MJ (xs:List V) (lo hi:Option Int):(zY xs lo hi).length≤xs.length:=by
 unfold zY
 rw[length_take,length_drop]
 lia
def adL (K:W.Frag):R2:=fun x y H Q=>∃a b xs ys,x = .ref a∧y = .ref b∧tV K H a xs∧tV K H b ys∧xs≠[]∧xs.length+ys.length≤sizeLine ∧
 (ys=[]→Q (.ref a) H)∧(ys≠[]→∀p,H p=none→Q (.ref p) (upd H p (.tup (xs++ys))))
theorem Vals.E1 {xs:List V} {us:List Value} (r:Vals xs us):us=[]↔xs=[]:=by
 cases r with
 |nil=>simp
 |cons _ _=>simp
theorem Xk:zP X (binaryOp .Add) (adL X.K):=by
 intro pp s σ H x y v u Q I rx ry h
 obtain⟨a,b,xs,ys,rfl,rfl,ha,hb,hx,hz,q1,q2⟩:=h
 cases rx
 cases ry
 obtain⟨bu,r1,p1,_⟩:=I.tuple ha
 obtain⟨rE,r2,p2,_⟩:=I.tuple hb
 refine HT.Xi p1 p2 (fun z=>hx (r1.E1.mp z)) (fun z=>⟨.ref a,H,I,rfl,q1 (r2.E1.mp z)⟩) (fun z=>?_) (by rw[←r1.length,←r2.length];exact hz)
 refine⟨.ref s.heap.objs.size,_,I.laid (t':=s.toks) (o:=.tup (xs++ys)) (fun b ob q=>Heap.get?_push_of_some _ q) (le_refl _) ?_,rfl,q2 (fun w=>z (r2.E1.mpr w)) _ (I.cG.fresh (le_refl _))⟩
 exact⟨by rw[length_append];exact hz,_,r1.append r2,IsTup.new _ _⟩
end
def Uu (n:Nat) (i:Int):Option Nat:=if 0≤i then(if i<n then some i.toNat else none) else if -(n:Int)≤i then some (i+n).toNat else none
def WL {α:Type} (xs:List α) (i:Int):Option α:=(Uu xs.length i).bind fun j=>xs[j]?
theorem Q3 {n:Nat} {i:Int} {j:Nat} (h:Uu n i=some j):seqIndex? i n=some j∧j<n∧-(n:Int)≤i∧i<n:=by
 unfold Uu at h
 by_cases h0:0≤i
 ·rw[iPp h0]at h
  by_cases h1:i<n
  ·rw[iPp h1]at h
   have e:i.toNat=j:=Option.some.inj h
   exact⟨by rw[seqIndex_of h0 h1,e],by lia,by lia,h1⟩
  ·rw[IN h1]at h;cases h
 ·rw[IN h0]at h
  by_cases h1:-(n:Int)≤i
  ·rw[iPp h1]at h
   have e:(i+n).toNat=j:=Option.some.inj h
   exact⟨by rw[seqIndex_neg (by lia) h1,e],by lia,h1,by lia⟩
  ·rw[IN h1]at h;cases h
theorem Q4 {α:Type} {xs:List α} {i:Int} {v:α} (h:WL xs i=some v):∃j,seqIndex? i xs.length=some j∧xs[j]?=some v∧j<xs.length∧-(xs.length:Int)≤i∧i<xs.length:=by
 unfold WL at h
 cases e:Uu xs.length i with
 |none=>rw[e]at h;cases h
 |some j =>
  rw[e]at h
  obtain⟨h1,h2,h3,h4⟩:=Q3 e
  exact⟨j,h1,h,h2,h3,h4⟩
theorem Q5 {α:Type} {xs:List α} {j:Nat} {v:α} (h:xs[j]?=some v):WL xs (j:Int)=some v:=by
 have hj:j<xs.length:=(List.getElem?_eq_some_iff.mp h).1
 have e:Uu xs.length (j:Int)=some j:=by
  unfold Uu
  rw[iPp (by lia),iPp (by lia)];simp
 unfold WL;rw[e];exact h
theorem MK {α:Type} (xs:List α) (v:α):WL (xs++[v]) (-1)=some v:=by
 have hl:(xs++[v]).length=xs.length+1:=by simp
 have e:Uu (xs++[v]).length (-1)=some xs.length:=by
  unfold Uu
  rw[hl,IN (by decide),iPp (by lia)]
  congr 1
  lia
 unfold WL
 rw[e]
 show(xs++[v])[xs.length]?=some v
 simp
def Xl (b:Expr):Prop:=∀o i,subscripted b false o i=operate [o,i] (getItem o i)
def IxR (X:Cx) (r:R2):Prop :=
 ∀(value slice:Expr) (pp:List (Addr×Obj)) (s:Shared) (σ:St) (H:Hp) (x y:V) (v u:Value) (Q:VK),Inv X pp σ H s→RelV x v→RelV y u→r x y H Q →
  subscripted slice false v u=operate [v,u] (getItem v u)→wpAny (model X.prog X.w) X.A (subscriptTail value slice v u) (EP X pp σ Q) X.xe s
def MtR (X:Cx) (id:String) (r:V→List V→Hp→VK→Prop):Prop :=
 ∀(pp:List (Addr×Obj)) (s:Shared) (σ:St) (H:Hp) (x:V) (xs:List V) (v:Value) (us:List Value) (Q:VK),Inv X pp σ H s→RelV x v→Vals xs us→r x xs H Q →
  wpAny (model X.prog X.w) X.A (call (.builtin id) (v::us)) (EP X pp σ Q) X.xe s
section
variable {X:Cx} {a b:Expr} {ta tb:TE} {pos:Pos}
theorem fN {r:R2} (hr:IxR X r) (ha:PE X a ta) (hb:PE X b tb) (hs:Xl b):PE X (.Subscript a b pos) (Zn r ta tb):=by
 intro pp s σ H Q I h
 exact Subscript_ (aaC ha hb I h fun v u s2 x y H2 I2 rx ry q=>hr a b pp s2 σ H2 x y v u Q I2 rx ry q (hs _ _))
def adM (K:W.Frag):R2:=fun x y H Q=>∃p xs i v,x = .ref p∧y = .int i∧bP K H p xs∧WL xs i=some v∧Q v H
def adN (K:W.Frag):R2:=fun x y H Q=>∃p xs i v,x = .ref p∧y = .int i∧tV K H p xs∧WL xs i=some v∧Q v H
theorem cJ:IxR X (adM X.K):=by
 intro value slice pp s σ H x y v u Q I rx ry h hs
 obtain⟨p,xs,i,z,rfl,rfl,hq,he,q⟩:=h
 cases rx
 obtain⟨t,rfl⟩:=ry
 obtain⟨bu,r,pl,hz⟩:=I.list hq
 obtain⟨j,h1,h2,h3,h4,h5⟩:=Q4 he
 obtain⟨w,ew,Uv⟩:=r.get h2
 have hl:=r.length
 have hn:=Fu
 have fin:EP X pp σ Q w s:=⟨z,H,I,Uv,q⟩
 by_cases h0:0≤i
 ·have hj:i.toNat=j:=by
   rw[seqIndex_of h0 h5]at h1
   exact Option.some.inj h1
  exact item_listR pl.isList h0 (by lia) (by rw[hj];simpa using ew) fin hs
 ·have hj:(i+(bu.toArray.size:Int)).toNat=j:=by
   rw[seqIndex_neg (by lia) h4]at h1
   rw[size_toArray,←hl]
   exact Option.some.inj h1
  exact subscriptTail_builtinR (x:=w) pl.isList.typeIs slot_list_getitem.lookup
   (wpAny_getItem_list_neg (Q:=fun r s'=>r=w∧EP X pp σ Q r s') pl.isList (by lia) (by rw[size_toArray]<;>lia) (by lia) (by rw[hj];simpa using ew) ⟨rfl,fin⟩) hs
theorem OW:IxR X (adN X.K):=by
 intro value slice pp s σ H x y v u Q I rx ry h hs
 obtain⟨p,xs,i,z,rfl,rfl,hq,he,q⟩:=h
 cases rx
 obtain⟨t,rfl⟩:=ry
 obtain⟨bu,r,pl,hz⟩:=I.tuple hq
 obtain⟨j,h1,h2,h3,h4,h5⟩:=Q4 he
 obtain⟨w,ew,Uv⟩:=r.get h2
 have hl:=r.length
 have hn:=Fu
 have fin:EP X pp σ Q w s:=⟨z,H,I,Uv,q⟩
 exact subscriptTail_builtinR (x:=w) pl.typeIs slot_tuple_getitem.lookup
  (getItem_tuple (j:=j) (Q:=fun r s'=>r=w∧EP X pp σ Q r s') pl (by lia) (by lia) (by rw[size_toArray,←hl];exact h1) (by simpa using ew) ⟨rfl,fin⟩) hs
theorem OX (bu:List Value) (n j:Nat) (u:Value):Obj.mapSeq (·.setIfInBounds j u) {cls:=.type "list",data:=.seq bu.toArray n} = {cls:=.type "list",data:=.seq (bu.set j u).toArray n}:=by
 simp[Obj.mapSeq]
theorem Inv.lst {pp:List (Addr×Obj)} {σ:St} {H:Hp} {s:Shared} {p:Addr} {xs:List V} (I:Inv X pp σ H s) (h:H p=some (.lst xs)) :
 ∃(bu:List Value) (n:Nat),Vals xs bu∧s.heap.get? p=some {cls:=.type "list",data:=.seq bu.toArray n}∧xs.length≤sizeLine:=by
 obtain⟨z,bu,n,r,e⟩:=I.cG p _ h
 exact⟨bu,n,r,e,z⟩
theorem Inv.aaJ {pp:List (Addr×Obj)} {σ:St} {H:Hp} {s:Shared} {p:Addr} {xs ys:List V} {bu its':List Value} {n n':Nat} {f:Obj→Obj} (I:Inv X pp σ H s) (h:H p=some (.lst xs))
 (ho:s.heap.get? p=some {cls:=.type "list",data:=.seq bu.toArray n}) (hf:f {cls:=.type "list",data:=.seq bu.toArray n} = {cls:=.type "list",data:=.seq its'.toArray n'}) (r:Vals ys its') (hz:ys.length≤sizeLine) (t:Nat) :
 Inv X pp σ (upd H p (.lst ys)) {s with heap:=s.heap.update p f,toks:=t}:=by
 have e:(s.heap.update p f).get? p=some {cls:=.type "list",data:=.seq its'.toArray n'}:=by
  rw[Heap.get?_update_self f ho (by rw[hf]<;>rfl),hf]
 refine I.write (x:=p) (e:=p) (by rw[h];trivial) (.inl rfl) (fun b u hb q=>(Heap.get?_update_other _ _ (Ne.symm hb)).trans q) ⟨_,e⟩ ?_
 exact⟨hz,its',n',r,e⟩
def adO:V→V→V→Hp→(Hp→Prop)→Prop:=fun o i v H Q=>∃p xs k j,o = .ref p∧i = .int k∧H p=some (.lst xs)∧Uu xs.length k=some j∧Q (upd H p (.lst (xs.set j v)))
theorem set_list:ado X adO:=by
 intro pp s σ H o i v ov iv u Q I ro ri rv h
 obtain⟨p,xs,k,j,rfl,rfl,hp,hj,q⟩:=h
 cases ro
 obtain⟨t,rfl⟩:=ri
 obtain⟨bu,n,r,ho,hz⟩:=I.lst hp
 obtain⟨h1,h2,h3,h4⟩:=Q3 hj
 have hl:=r.length
 have hn:=Fu
 have I':Inv X pp σ (upd H p (.lst (xs.set j v))) {s with heap:=s.heap.update p (Obj.mapSeq (·.setIfInBounds j u))} :=
  I.aaJ hp ho (OX bu n j u) (r.set rv j) (by rw[List.length_set];exact hz) s.toks
 by_cases h0:0≤k
 ·have hk:k.toNat=j:=by
   rw[seqIndex_of h0 h4]at h1
   exact Option.some.inj h1
  exact W.ki_setAt ho h0 (by lia) (by rw[size_toArray,←hl];exact h4) (by rw[hk];exact⟨_,I',q⟩)
 ·have hk:(k+(bu.toArray.size:Int)).toNat=j:=by
   rw[seqIndex_neg (by lia) h3]at h1
   rw[size_toArray,←hl]
   exact Option.some.inj h1
  exact W.ki_setBack ho (by lia) (by rw[size_toArray,←hl];exact h3) (by lia) (by rw[hk];exact⟨_,I',q⟩)
theorem KN (lo hi:Option Int) (n:Nat):(sliceBounds lo hi none n).1=((HT.HY n 0 lo:Nat):Int)∧(sliceBounds lo hi none n).2.1=((HT.HY n n hi:Nat):Int)∧(sliceBounds lo hi none n).2.2=1:=by
 refine⟨?_,?_,rfl⟩
 ·cases lo with
  |none=>simp[sliceBounds,HT.HY]
  |some i =>
   simp only[sliceBounds,HT.HY,getD_none,show(1:Int)>0 by decide,if_true]
   by_cases h:i<0
   ·simp only[h,if_true]<;>lia
   ·simp only[h,if_false]<;>lia
 ·cases hi with
  |none=>simp[sliceBounds,HT.HY]
  |some i =>
   simp only[sliceBounds,HT.HY,getD_none,show(1:Int)>0 by decide,if_true]
   by_cases h:i<0
   ·simp only[h,if_true]<;>lia
   ·simp only[h,if_false]<;>lia
theorem HZ (bu:List Value) (lo hi:Option Int):slicePick bu.toArray lo hi none=((bu.drop (HT.HY bu.length 0 lo)).take (HT.HY bu.length bu.length hi-HT.HY bu.length 0 lo)).toArray:=by
 obtain⟨h1,h2,h3⟩:=KN lo hi bu.toArray.size
 unfold slicePick
 rw[h1,h2,h3]
 simp only[sliceRange_one,pick_run,size_toArray]<;>rfl
def ag7 (K:W.Frag):V→Option Int→Option Int→Hp→VK→Prop:=fun x lo hi H Q=>∃a xs,x = .ref a∧bP K H a xs∧∀p,H p=none→Q (.ref p) (upd H p (.lst (zY xs lo hi)))
theorem m4:SlR X (ag7 X.K):=by
 intro pp s σ H x v vl vu lo hi sl Q I rx hs pl pu h
 obtain⟨a,xs,rfl,hx,q⟩:=h
 cases rx
 obtain⟨bu,r,ht,hz⟩:=I.list hx
 have hlen:=r.length
 refine⟨"list",_,slot_list_getitem.lookup,ht.isList.typeIs,?_⟩
 refine wpAny_getItem_list_slice ht.isList hs pl pu .none (by simp) ?_ (by rw[size_toArray]<;>lia)
 rw[HZ,←hlen]
 refine⟨.ref s.heap.objs.size,_,I.laid (t':=s.toks) (o:=.lst (zY xs lo hi)) (fun b ob q=>Heap.get?_push_of_some _ q) (le_refl _) ?_,rfl,q _ (I.cG.fresh (le_refl _))⟩
 exact⟨le_trans (MJ xs lo hi) hz,_,0,(r.drop (HT.HY xs.length 0 lo)).take (HT.HY xs.length xs.length hi-HT.HY xs.length 0 lo),Heap.get?_push_size _ rfl⟩
def Dj:V→Bool
 | .dh=>true
 | .bl _=>true
 | .int _=>true
 | .str _=>true
 |_=>false
def Uw:V→V→Bool
 | .dh,.dh=>true
 | .bl a,.bl b=>a==b
 | .bl a,.int b=>(if a then 1 else 0)==b
 | .int a,.bl b=>a==(if b then 1 else 0)
 | .int a,.int b=>a==b
 | .str a,.str b=>a==b
 |_,_=>false
theorem aaK {A:Around} {s:Shared} {y x:V} {u v:Value} (ry:RelV y u) (rx:RelV x v) (fy:Dj y=true) (fx:Dj x=true):SeqAt.EqAt A s u v (Uw y x):=by
 cases y with
 |dh =>
  cases ry
  cases x with
  |dh=>cases rx;exact SeqAt.EqAt.same _
  |bl b=>cases rx;exact SeqAt.EqAt.none_bool b
  |int b=>obtain⟨t,rfl⟩:=rx;exact SeqAt.EqAt.none_int b t
  |str b=>obtain⟨t,rfl⟩:=rx;exact SeqAt.EqAt.none_str b t
  |_=>exact absurd (show false=true from fx) Bool.false_ne_true
 |bl a =>
  cases ry
  cases x with
  |dh=>cases rx;exact SeqAt.EqAt.bool_none a
  |bl b=>cases rx;exact SeqAt.EqAt.bool_bool a b
  |int b=>obtain⟨t,rfl⟩:=rx;exact SeqAt.EqAt.bool_int a b t
  |str b=>obtain⟨t,rfl⟩:=rx;exact SeqAt.EqAt.bool_str a b t
  |_=>exact absurd (show false=true from fx) Bool.false_ne_true
 |int a =>
  obtain⟨t',rfl⟩:=ry
  cases x with
  |dh=>cases rx;exact SeqAt.EqAt.int_none a t'
  |bl b=>cases rx;exact SeqAt.EqAt.int_bool a t' b
  |int b=>obtain⟨t,rfl⟩:=rx;exact SeqAt.EqAt.int_int a t' b t
  |str b=>obtain⟨t,rfl⟩:=rx;exact SeqAt.EqAt.int_str a t' b t
  |_=>exact absurd (show false=true from fx) Bool.false_ne_true
 |str a =>
  obtain⟨t',rfl⟩:=ry
  cases x with
  |dh=>cases rx;exact SeqAt.EqAt.str_none a t'
  |bl b=>cases rx;exact SeqAt.EqAt.str_bool a t' b
  |int b=>obtain⟨t,rfl⟩:=rx;exact SeqAt.EqAt.str_int a t' b t
  |str b=>obtain⟨t,rfl⟩:=rx;exact SeqAt.EqAt.str_str a t' b t
  |_=>exact absurd (show false=true from fx) Bool.false_ne_true
 |_=>exact absurd (show false=true from fy) Bool.false_ne_true
def Xm (x:V) (u:Value):Bool:=match u with
 | .none=>Uw .dh x
 | .bool b=>Uw (.bl b) x
 | .int i _=>Uw (.int i) x
 | .str z _=>Uw (.str z) x
 |_=>false
theorem Ux {x y:V} {u:Value} (r:RelV y u) (f:Dj y=true):Xm x u=Uw y x:=by
 cases y with
 |dh=>cases r;rfl
 |bl b=>cases r;rfl
 |int i=>obtain⟨t,rfl⟩:=r;rfl
 |str z=>obtain⟨t,rfl⟩:=r;rfl
 |_=>exact absurd (show false=true from f) Bool.false_ne_true
theorem KO {x:V}:∀{xs:List V} {us:List Value},Vals xs us→xs.all Dj=true→us.any (Xm x)=xs.any fun y=>Uw y x
 |_,_,.nil,_=>rfl
 |y::xs,u::us,.cons r t,f=>by
  rw[all_cons,and_eq_true]at f
  rw[any_cons,any_cons,Ux r f.1,KO t f.2]
theorem FE {A:Around} {s:Shared} {x:V} {v:Value} (rx:RelV x v) (fx:Dj x=true):∀{xs:List V} {us:List Value},Vals xs us→xs.all Dj=true→∀u∈us,SeqAt.EqAt A s u v (Xm x u)
 |_,_,.nil,_=>fun u hu=>by cases hu
 |y::xs,u::us,.cons r t,f=>fun u' hu=>by
  rw[all_cons,and_eq_true]at f
  rcases mem_cons.mp hu with rfl|hu
  ·rw[Ux r f.1];exact aaK r rx f.1 fx
  ·exact FE rx fx t f.2 u' hu
def Uy (x:V) (xs:List V):Bool:=xs.any fun y=>Uw y x
def rIn (K:W.Frag) (neg:Bool):R2:=fun x y H Q=>∃p xs,y = .ref p∧(bP K H p xs∨tV K H p xs)∧Dj x=true∧xs.all Dj=true∧Q (.bl (if neg then !Uy x xs else Uy x xs)) H
theorem BX:zP X (compareOp .In) (rIn X.K false):=by
 intro pp s σ H x y v u Q I rx ry h
 obtain⟨p,xs,rfl,hq,fx,fs,q⟩:=h
 cases ry
 rcases hq with hq|hq
 ·obtain⟨bu,r,pl,hz⟩:=I.list hq
  refine SeqAt.in_listAt (Xm x) pl.isList (fun w hw=>FE rx fx r fs w (by simpa using hw)) ⟨.bl _,H,I,rfl,?_⟩
  rw[show bu.toArray.any (Xm x)=bu.any (Xm x) by simp,KO r fs]
  exact q
 ·obtain⟨bu,r,pl,hz⟩:=I.tuple hq
  refine SeqAt.in_tupleAt (Xm x) pl (fun w hw=>FE rx fx r fs w (by simpa using hw)) ⟨.bl _,H,I,rfl,?_⟩
  rw[show bu.toArray.any (Xm x)=bu.any (Xm x) by simp,KO r fs]
  exact q
theorem aJ:oV X (.builtin "len") (fun xs H Q=>∃p ys,xs=[.ref p]∧(bP X.K H p ys∨tV X.K H p ys)∧Q (.int ys.length) H):=by
 intro pp s σ H xs us Q I r h
 obtain⟨p,ys,rfl,hq,q⟩:=h
 obtain⟨u,rfl,rx⟩:=vals1 r
 cases rx
 have hn:=Fu
 rcases hq with hq|hq
 ·obtain⟨bu,r',pl,hz⟩:=I.list hq
  have hlen:=r'.length
  exact Calls.call_len_list pl.isList (by simp only[size_toArray]<;>lia) ⟨.int ys.length,H,I.tok _,⟨s.toks+1,by rw[size_toArray,hlen]⟩,q⟩
 ·obtain⟨bu,r',pl,hz⟩:=I.tuple hq
  have hlen:=r'.length
  exact len_tuple pl (by simp only[size_toArray]<;>lia) ⟨.int ys.length,H,I.tok _,⟨s.toks+1,by rw[size_toArray,hlen]⟩,q⟩
theorem KP:oV X (.type "list") (fun xs H Q=>∃p ys,xs=[.ref p]∧(bP X.K H p ys∨tV X.K H p ys)∧∀l,H l=none→Q (.ref l) (upd H l (.lst ys))):=by
 intro pp s σ H xs us Q I r h
 obtain⟨p,ys,rfl,hq,q⟩:=h
 obtain⟨u,rfl,rx⟩:=vals1 r
 cases rx
 have fin:∀(bu:List Value),Vals ys bu→ys.length≤sizeLine→∀(h':Heap) (c':Nat),(∀b o',s.heap.get? b=some o'→h'.get? b=some o') →
  h'.get? s.heap.objs.size=some {cls:=.type "list",dict:=none,data:=.seq bu.toArray c',slots:=#[]}→EP X pp σ Q (.ref s.heap.objs.size) {s with heap:=h'}:=fun bu r' hz h' c' kp e =>
  ⟨.ref s.heap.objs.size,_,I.laid (t':=s.toks) kp (le_refl _) (show eZ X.prog X.w _ h' _ (.lst ys) from ⟨hz,bu,c',r',e⟩),rfl,q _ (I.cG.fresh (le_refl _))⟩
 rcases hq with hq|hq
 ·obtain⟨bu,r',pl,hz⟩:=I.list hq
  have hlen:=r'.length
  obtain⟨o,ho,hc,n,hd⟩:=pl.isList
  exact call_list_seq p (.inl rfl) ho hc hd (fun h' c' kp e=>fin bu r' hz h' c' kp e) (by simp only[size_toArray]<;>lia)
 ·obtain⟨bu,r',pl,hz⟩:=I.tuple hq
  have hlen:=r'.length
  obtain⟨o,ho,hc,n,hd⟩:=pl
  exact call_list_seq p (.inr rfl) ho hc hd (fun h' c' kp e=>fin bu r' hz h' c' kp e) (by simp only[size_toArray]<;>lia)
theorem xC:oV X (.type "tuple") (fun xs H Q=>∃p ys,xs=[.ref p]∧((bP X.K H p ys∧∀l,H l=none→Q (.ref l) (upd H l (.tup ys)))∨(tV X.K H p ys∧Q (.ref p) H))):=by
 intro pp s σ H xs us Q I r h
 obtain⟨p,ys,rfl,h⟩:=h
 obtain⟨u,rfl,rx⟩:=vals1 r
 cases rx
 rcases h with⟨hq,q⟩|⟨hq,q⟩
 ·obtain⟨bu,r',pl,hz⟩:=I.list hq
  have hlen:=r'.length
  refine call_tuple_list pl.isList (fun h' kp=>?_) (by simp only[size_toArray]<;>lia)
  have I1:Inv X pp σ H {s with heap:=h'}:=I.kept (t':=s.toks) kp
  have I2:Inv X pp σ (upd H h'.objs.size (.tup ys)) {s with heap:=h'.push {cls:=.type "tuple",data:=.seq bu.toArray}} :=
   I1.laid (t':=s.toks) (fun b o e=>Heap.get?_push_of_some _ e) (le_refl _) (show eZ X.prog X.w _ _ _ (.tup ys) from ⟨hz,bu,r',IsTup.new _ _⟩)
  exact⟨.ref h'.objs.size,_,I2,rfl,q _ (I1.cG.fresh (le_refl _))⟩
 ·obtain⟨bu,r',pl,hz⟩:=I.tuple hq
  exact call_tuple_same pl ⟨.ref p,H,I,rfl,q⟩
def tyV (K:W.Frag) (T:String) (x:V) (H:Hp):Prop:=match x with
 | .str _=>T = "str"
 | .int _=>T = "int"
 | .ref p=>(T = "list"∧∃xs,bP K H p xs)∨(T = "tuple"∧∃o,K.lookup p=some o∧o.cls = .type "tuple"∧o.dict=none) ∨
  (T = "dict"∧((∃aZ,H p=some (.dK aZ))∨∃aZ,H p=some (.dT aZ)))∨(T = "set"∧∃S n,H p=some (.set S n))
 |_=>False
theorem Uz {pp:List (Addr×Obj)} {σ:St} {H:Hp} {s:Shared} {T:String} {x:V} {v:Value} (I:Inv X pp σ H s) (r:RelV x v) (ty:tyV X.K T x H) :
 s.TypeIs v T∧∀a,v = .ref a→∃ob,s.heap.get? a=some ob∧ob.dict=none:=by
 cases x with
 |str z =>
  obtain⟨t,rfl⟩:=r
  cases(show T = "str" from ty)
  exact⟨typeIs_str s z t,fun _ e=>nomatch e⟩
 |int i =>
  obtain⟨t,rfl⟩:=r
  cases(show T = "int" from ty)
  exact⟨typeIs_int s i t,fun _ e=>nomatch e⟩
 |ref p =>
  cases r
  rcases ty with⟨rfl,xs,hq⟩|⟨rfl,o,hk,hc,hd⟩|⟨rfl,hk⟩|⟨rfl,S,n,hk⟩
  ·obtain⟨bu,_,pl,_⟩:=I.list hq
   refine⟨pl.isList.typeIs,fun a e=>?_⟩
   cases e
   obtain⟨o,n,e,c,hd,_⟩:=pl
   exact⟨o,e,hd⟩
  ·refine⟨⟨o,I.Fi p o hk,hc⟩,fun a e=>?_⟩
   cases e
   exact⟨o,I.Fi _ o hk,hd⟩
  ·have z:∃o,s.heap.get? p=some o∧o.ExactDict:=by
    rcases hk with⟨aZ,hk⟩|⟨aZ,hk⟩
    ·obtain⟨_,_,_,_,o,_,_,e,ex,_⟩:=I.cG p _ hk
     exact⟨o,e,ex⟩
    ·obtain⟨_,_,_,_,o,_,_,e,ex,_⟩:=I.cG p _ hk
     exact⟨o,e,ex⟩
   obtain⟨o,e,ex⟩:=z
   refine⟨⟨o,e,ex.1⟩,fun a e2=>?_⟩
   cases e2
   exact⟨o,e,ex.2.1⟩
  ·obtain⟨o,_,_,_,e,ex,_⟩:=I.cG p _ hk
   refine⟨⟨o,e,ex.1⟩,fun a e2=>?_⟩
   cases e2
   exact⟨o,e,ex.2.1⟩
 |_=>exact False.elim ty
def ag9 (K:W.Frag) (T:String) (r:V→List V→Hp→VK→Prop) (to:TE):TE:=fun σ H Q=>to σ H fun x H1=>tyV K T x H1∧r x [] H1 Q
def tBM (K:W.Frag) (T:String) (r:V→List V→Hp→VK→Prop) (to:TE) (t:TA):TE:=fun σ H Q=>to σ H fun x H1=>tyV K T x H1∧t σ H1 fun xs H2=>r x xs H2 Q
variable {o e:Expr} {es:List Expr} {to:TE} {t:TA} {name:Str} {apos FF:Pos} {T id:String} {r:V→List V→Hp→VK→Prop}
theorem aaL (pa:PlainAttrs T) (slot:Slot T name id) (hty:typeOf (.builtin id)=pure (.type "method_descriptor")) (hm:MtR X id r) (ho:PE X o to)
 (JJ:attributeBase o name X.env (eval o X.env)=eval o X.env:=by rfl) (UA:(apos.endLine==FF.line)=true:=by rfl):PE X (.Call (.Attribute o name apos) [] [] FF) (ag9 X.K T r to):=by
 intro pp s σ H Q I h
 refine wpAny_Call_method0_late JJ UA (dq (ho pp s σ H _ I h) fun v s1 ⟨x,H1,I1,r1,ty,q1⟩=>?_)
 obtain⟨h1,h2⟩:=Uz I1 r1 ty
 exact⟨T,id,pa,slot,hty,h1,h2,Calls.callWith_builtin rfl (PySem.evalArgs_none (hm pp s1 σ H1 x [] v [] Q I1 r1 .nil q1))⟩
theorem uh (pa:PlainAttrs T) (slot:Slot T name id) (hty:typeOf (.builtin id)=pure (.type "method_descriptor")) (hm:MtR X id r) (ho:PE X o to) (ha:PA X (e::es) t)
 (JJ:attributeBase o name X.env (eval o X.env)=eval o X.env:=by rfl)
 (aha:((backTo FF (starEach (e::es) X.env)).all (fun x=>!x.1)&&(backToKw FF (keywordEach [] X.env)).all (fun x=>x.1.isSome)
  && decide ((e::es).length+([]:List Keyword).length+(if ([]:List Keyword).isEmpty then 0 else 1)<30))=true:=by rfl)
 (UA:(apos.endLine==FF.line)=true:=by rfl) (hs:starEach (e::es) X.env=(false,eval e X.env)::starEach es X.env:=by rfl) (aaM:(backTo FF (starEach es X.env)).any (·.1)=false:=by rfl) :
 PE X (.Call (.Attribute o name apos) (e::es) [] FF) (tBM X.K T r to t):=by
 intro pp s σ H Q I h
 refine wpAny_Call_method_late JJ aha UA rfl (dq (ho pp s σ H _ I h) fun v s1 ⟨x,H1,I1,r1,ty,q1⟩=>?_)
 obtain⟨h1,h2⟩:=Uz I1 r1 ty
 refine⟨T,id,pa,slot,hty,h1,h2,?_⟩
 have hA:=ha FF pp s1 σ H1 _ I1 q1
 rw[hs]at hA ⊢
 refine Calls.callWith_builtin (by show(false ||(backTo FF (starEach es X.env)).any (·.1))=false;rw[aaM]<;>rfl) (Calls.evalArgs_plain ?_)
 exact dq hA fun us s2 ⟨vs,H2,I2,r2,q2⟩=>hm pp s2 σ H2 x vs v us Q I2 r1 r2 q2
end
def MtM (X:Cx) (id:String) (r:V→List V→Hp→VK→Prop):Prop :=
 ∀(pp:List (Addr×Obj)) (s:Shared) (σ:St) (H:Hp) (x:V) (xs:List V) (v:Value) (us:List Value) (Q:VK),Inv X pp σ H s→RelV x v→Vals xs us→r x xs H Q →
  wpAny (model X.prog X.w) X.A (call (.builtin id) (v::us)) (EP X pp σ Q) X.xe s
theorem Vals.one:∀{x:V} {us:List Value},Vals [x] us→∃u,us=[u]∧RelV x u
 |_,_,.cons r .nil=>⟨_,rfl,r⟩
theorem Vals.zero:∀{us:List Value},Vals [] us→us=[]
 |_,.nil=>rfl
theorem Vals.dropLast {xs:List V} {us:List Value} (h:Vals xs us):Vals xs.dropLast us.dropLast:=by
 induction h with
 |nil=>exact .nil
 |cons r t ih =>
  cases t with
  |nil=>exact .nil
  |cons q t'=>exact .cons r ih
theorem Vals.rep {xs:List V} {us:List Value} (h:Vals xs us):∀k:Nat,Vals (replicate k xs).flatten (replicate k us).flatten
 |0=>.nil
 |k+1=>by
  rw[replicate_succ,replicate_succ,flatten_cons,flatten_cons]
  exact Vals.append h (Vals.rep h k)
theorem OY {α:Type} (l:List α):l.eraseIdx (l.length-1)=l.dropLast:=by
 induction l with
 |nil=>rfl
 |cons a r ih =>
  cases r with
  |nil=>rfl
  |cons b r =>
   have e:(a::b::r).length-1=((b::r).length-1)+1:=by
    have h1:(a::b::r).length=r.length+2:=rfl
    have h2:(b::r).length=r.length+1:=rfl
    lia
   rw[e,List.eraseIdx_cons_succ,ih]
   all_goals rfl
theorem foldl_rep (bu:List Value):∀(k:Nat) (acc:List Value),
 foldl (fun x1 x2=>x1++x2) acc.toArray (replicate k bu.toArray)=(acc++(replicate k bu).flatten).toArray
 |0,acc=>by simp
 |k+1,acc=>by
  have e:acc.toArray++bu.toArray=(acc++bu).toArray:=by simp
  have e2:(acc++bu)++(replicate k bu).flatten=acc++(replicate (k+1) bu).flatten:=by
   rw[replicate_succ,flatten_cons,append_assoc]
  rw[←e2,←foldl_rep bu k (acc++bu),←e,replicate_succ,List.foldl_cons]
section
variable {X:Cx} {pp:List (Addr×Obj)} {σ:St} {H:Hp} {s:Shared} {l b:Addr} {xs ys zs:List V}
theorem Inv.aaN {bu its':List Value} {n:Nat} {f:Array Value→Array Value} {t':Nat} (I:Inv X pp σ H s) (hH:H l=some (.lst xs))
 (e:s.heap.get? l=some {cls:=.type "list",data:=.seq bu.toArray n}) (hf:f bu.toArray=its'.toArray) (hv:Vals ys its') (hz:ys.length≤sizeLine) :
 Inv X pp σ (upd H l (.lst ys)) {s with heap:=s.heap.update l (Obj.mapSeq f),toks:=t'}:=by
 have q:=PySem.IsL.update e f
 rw[hf]at q
 refine I.write (x:=l) (e:=l) (by rw[hH];exact trivial) (.inl rfl) (fun b' u hb hu=>(Heap.get?_update_other s.heap (Obj.mapSeq f) (Ne.symm hb)).trans hu) ⟨_,q⟩ ?_
 exact⟨hz,its',_,hv,q⟩
theorem Inv.FG {bu:List Value} {t':Nat} (I:Inv X pp σ H s) (hv:Vals ys bu) (hz:ys.length≤sizeLine) :
 Inv X pp σ (upd H s.heap.objs.size (.lst ys)) {s with heap:=s.heap.push {cls:=.type "list",data:=.seq bu.toArray},toks:=t'} :=
 I.laid (fun _ _ q=>Heap.get?_push_of_some _ q) (le_refl _) ⟨hz,bu,0,hv,Heap.get?_push_size _ rfl⟩
theorem Inv.fresh (I:Inv X pp σ H s):H s.heap.objs.size=none:=I.cG.fresh (le_refl _)
theorem Inv.OZ (I:Inv X pp σ H s) (hH:H l=some (.lst xs)):xs.length≤sizeLine∧∃(bu:List Value) (n:Nat),Vals xs bu∧xs.length=bu.length∧s.heap.get? l=some {cls:=.type "list",data:=.seq bu.toArray n}:=by
 obtain⟨z,bu,n,r,e⟩:=I.cG l _ hH
 exact⟨z,bu,n,r,r.length,e⟩
theorem ML {n:Nat} (h:n≤sizeLine):Builtin.List.listTooLong n=false:=by
 unfold Builtin.List.listTooLong
 exact decide_eq_false (by lia)
end
section
variable {X:Cx}
def Xn:V→List V→Hp→VK→Prop:=fun x vs H Q=>∃l xs y,x = .ref l∧vs=[y]∧H l=some (.lst xs)∧xs.length<sizeLine∧Q .dh (upd H l (.lst (xs++[y])))
theorem iC:MtM X "list.append" Xn:=by
 intro pp s σ H x vs v us Q I rx rv h
 obtain⟨l,xs,y,rfl,rfl,hH,hz,q⟩:=h
 cases rx
 obtain⟨u,rfl,ru⟩:=rv.one
 obtain⟨z,bu,n,r,hl,e⟩:=I.OZ hH
 refine call_meets F.slot_list_append ⟨_,e,rfl⟩ F.entry_list_append (F.args_list_append_2 _ _) (PySem.list_append l bu.toArray n u (by rw[size_toArray];lia)) ⟨e,?_⟩
 refine⟨.dh,_,I.aaN (its':=bu++[u]) hH e (by simp) (r.append (.cons ru .nil)) ?_,rfl,q⟩
 rw[length_append,List.length_singleton]
 lia
def Xo:V→List V→Hp→VK→Prop:=fun x vs H Q=>∃l b xs zs,x = .ref l∧vs=[.ref b]∧H l=some (.lst xs)∧H b=some (.lst zs)∧xs.length+zs.length≤sizeLine∧Q .dh (upd H l (.lst (xs++zs)))
theorem JK:MtM X "list.extend" Xo:=by
 intro pp s σ H x vs v us Q I rx rv h
 obtain⟨l,b,xs,zs,rfl,rfl,hH,hB,hz,q⟩:=h
 cases rx
 obtain⟨u,rfl,ru⟩:=rv.one
 cases ru
 obtain⟨z,bu,n,r,hl,e⟩:=I.OZ hH
 obtain⟨z2,rE,n2,r2,JL,e2⟩:=I.OZ hB
 have hsz:bu.toArray.size+rE.toArray.size≤sizeLine:=by rw[size_toArray,size_toArray];lia
 have UB:¬(!bu.toArray.isEmpty&&Builtin.List.listTooLong (bu.toArray.size+rE.toArray.size))=true:=by
  rw[ML hsz,Bool.and_false]
  exact Bool.false_ne_true
 refine call_meets F.slot_list_extend ⟨_,e,rfl⟩ F.entry_list_extend (F.args_list_extend_2 _ _)
  (AutoSeq1.list_extend_list_list_0 l bu.toArray n b rE.toArray n2 UB (by rw[size_toArray];lia) (by lia)) ⟨e,e2,?_⟩
 refine⟨.dh,_,I.aaN (its':=bu++rE) hH e (by simp) (r.append r2) ?_,rfl,q⟩
 rw[length_append]
 lia
def ahc:V→List V→Hp→VK→Prop:=fun x vs H Q=>∃l xs y,x = .ref l∧vs=[]∧H l=some (.lst xs)∧xs[xs.length-1]?=some y∧Q y (upd H l (.lst xs.dropLast))
theorem aaO:MtM X "list.pop" ahc:=by
 intro pp s σ H x vs v us Q I rx rv h
 obtain⟨l,xs,y,rfl,rfl,hH,hy,q⟩:=h
 cases rx
 have hus:=rv.zero
 subst hus
 obtain⟨z,bu,n,r,hl,e⟩:=I.OZ hH
 obtain⟨u,hu,ru⟩:=r.get hy
 have hy':bu.toArray[bu.toArray.size-1]?=some u:=by
  show bu.toArray[bu.length-1]?=some u
  rw[←Array.getElem?_toList,←hl]
  exact hu
 refine call_meets F.slot_list_pop ⟨_,e,rfl⟩ F.entry_list_pop (F.args_list_pop_1 _) (MeetsSeq.list_pop_last l bu.toArray n u hy' (by rw[size_toArray];lia)) ⟨e,?_⟩
 refine⟨y,_,I.aaN (its':=bu.dropLast) hH e ?_ r.dropLast ?_,ru,q⟩
 ·show bu.toArray.eraseIdxIfInBounds (bu.toArray.size-1)=bu.dropLast.toArray
  rw[size_toArray,List.eraseIdxIfInBounds_toArray,OY]
 ·rw[List.length_dropLast]
  lia
def ahe:R2:=fun x y H Q=>∃l b xs zs,x = .ref l∧y = .ref b∧H l=some (.lst xs)∧H b=some (.lst zs)∧xs.length+zs.length≤sizeLine∧∀p,H p=none→Q (.ref p) (upd H p (.lst (xs++zs)))
theorem BY:zP X (binaryOp .Add) ahe:=by
 intro pp s σ H x y v u Q I rx ry h
 obtain⟨l,b,xs,zs,rfl,rfl,hH,hB,hz,q⟩:=h
 cases rx
 cases ry
 obtain⟨z,bu,n,r,hl,e⟩:=I.OZ hH
 obtain⟨z2,rE,n2,r2,JL,e2⟩:=I.OZ hB
 refine PySem.P.add_list e e2 ?_ (by rw[size_toArray,size_toArray];lia)
 have ea:bu.toArray++rE.toArray=(bu++rE).toArray:=by simp
 rw[ea]
 exact⟨.ref _,_,I.FG (t':=s.toks) (r.append r2) (by rw[length_append];lia),rfl,q _ I.fresh⟩
def ahf:R2:=fun x y H Q=>∃l k xs,x = .ref l∧y = .int k∧H l=some (.lst xs)∧-(2^63)≤k∧k<2^63∧xs.length*k.toNat≤sizeLine ∧
 ∀p,H p=none→Q (.ref p) (upd H p (.lst (replicate k.toNat xs).flatten))
theorem len_rep {α:Type} (xs:List α) (k:Nat):(replicate k xs).flatten.length=k*xs.length:=by
 induction k with
 |zero=>simp
 |succ k ih=>rw[replicate_succ,flatten_cons,length_append,ih,succ_mul,Nat.add_comm]
theorem UC:zP X (binaryOp .Mult) ahf:=by
 intro pp s σ H x y v u Q I rx ry h
 obtain⟨l,k,xs,rfl,rfl,hH,h1,h2,hz,q⟩:=h
 cases rx
 obtain⟨t,rfl⟩:=ry
 obtain⟨z,bu,n,r,hl,e⟩:=I.OZ hH
 have hlen:bu.toArray.size*k.toNat≤sizeLine:=by rw[size_toArray,←hl];exact hz
 have ahg:¬bu.toArray.size*k.toNat>(2^63-1)/8:=by
  have:(sizeLine:Nat)≤(2^63-1)/8:=by decide
  lia
 have adP:¬(!Builtin.List.listFitsIndex k)=true:=by
  rw[fitsIndex_both h1 h2]
  exact Bool.false_ne_true
 have UB:¬Builtin.List.listTooLong (bu.toArray.size*k.toNat)=true:=by
  rw[ML hlen]
  exact Bool.false_ne_true
 have O0:foldl (fun x1 x2=>x1++x2) #[] (replicate (if bu.toArray.isEmpty=true then 0 else k.toNat) bu.toArray)=(replicate k.toNat bu).flatten.toArray:=by
  have f0:∀m:Nat,foldl (fun x1 x2=>x1++x2) #[] (replicate m bu.toArray)=(replicate m bu).flatten.toArray:=fun m=>by
   have:=foldl_rep bu m []
   rw[List.nil_append]at this
   exact this
  rw[f0]
  cases bu with
  |nil=>simp
  |cons a r'=>rw[IN (by simp)]
 refine wpAny_binaryOp_repeat_ref (T := "list") (U := "int") (by decide) ⟨_,e,rfl⟩ (fun s'=>typeIs_int s' k t) noFill_list_mul F.fills_int_mul F.slot_int_rmul repeat_list F.slot_int_index.lookup
  (call_meets F.slot_int_rmul (typeIs_int s k t) F.entry_int_rmul (F.args_int_rmul_2 _ _) (int___rmul___int_list k t l bu.toArray n)
   ⟨e,rfl,⟨_,e,rfl⟩,call_meets F.slot_list_mul ⟨_,e,rfl⟩ F.entry_list_mul (F.args_list_mul_2 _ _) (AutoListH.list___mul___list_int_3 l bu.toArray n k t adP ahg UB) ⟨e,?_⟩⟩)
 rw[O0]
 exact⟨.ref _,_,I.FG (t':=s.toks) (r.rep k.toNat) (by rw[len_rep,mul_comm];exact hz),rfl,q _ I.fresh⟩
end
theorem Vals.ints:∀{ns:List Int} {us:List Value},Vals (ns.map V.int) us→IntsAre us ns
 | [],us,h=>by
  rw[map_nil]at h
  cases h
  exact IntsAre.nil
 |n::ns,us,h=>by
  rw[map_cons]at h
  cases h with
  |cons r t =>
   obtain⟨k,rfl⟩:=r
   exact IntsAre.cons n k (Vals.ints t)
theorem zZ:∀{us:List Value} {ns:List Int},IntsAre us ns→Vals (ns.map V.int) us
 |_,_,.nil=>by rw[map_nil];exact Paired.nil
 |_,_,.cons n t h=>by rw[map_cons];exact Paired.cons (show RelV (V.int n) (Value.int n t) from ⟨t,rfl⟩) (zZ h)
theorem Vals.Xp {a:Addr} {us:List Value} (r:Vals [V.ref a] us):us=[Value.ref a]:=by
 cases r with
 |cons r t =>
  cases t
  cases r
  rfl
section
variable {prog:Program} {w:World} {A:Around} {E:Value→Shared→Prop} {s:Shared} {l:Addr} {bu:List Value} {ns:List Int} {Q:Value→Shared→Prop}
theorem Xq (hh:A.handled=none) (hl:s.heap.IsList l bu.toArray) (hi:IntsAre bu ns)
 (h:∀h' tk t',(∀b o,s.heap.get? b=some o→h'.get? b=some o)→Q (.int ns.sum t') {s with heap:=h',toks:=tk}):wpAny (model prog w) A (call (.builtin "sum") [.ref l]) Q E s:=by
 obtain⟨xs,e⟩:=hi.allInts.items
 have hn:numsOf (intItems xs).toList=ns:=by rw[←e];exact hi.numsOf
 rw[nums_intItems]at hn
 rw[e]at hl
 refine PySem.sum_intListG hh hl fun h' tk t' hk=>?_
 have:=h h' tk t' hk
 rw[preSum_eq,take_of_length_le (by simp),hn];exact this
end
section
variable {X:Cx}
def ahh (K:W.Frag):List V→Hp→VK→Prop:=fun vs H Q=>∃(a:Addr) (ns:List Int),vs=[V.ref a]∧bP K H a (ns.map V.int)∧Q (.int ns.sum) H
theorem O1 (hc:X.calm=true):oV X (.builtin "sum") (ahh X.K):=by
 intro pp s σ H vs us Q I r h
 obtain⟨a,ns,rfl,hs,q⟩:=h
 obtain⟨bu,rv,hl,_⟩:=I.list hs
 rw[Vals.Xp r]
 exact Xq (I.ok.hd hc) hl.isList rv.ints fun h' tk t' hk=>⟨.int _,H,I.kept hk,⟨_,rfl⟩,q⟩
end
abbrev UD (h:Heap) (c:Addr) (v:Option Value):Prop:=h.IsCell c v
def ahi (scope sc:Scope):Scope :=
 {scope with names:=scope.names.map fun(n,k)=>if (k == .free&&sc.kind == .function&&sc.names.lookup n==some .cell) then(n,.cell) else(n,k)}
def cZ (cells:List (Str×Addr)):List (Str×NameKind)→List (Str×Addr)→List (Str×Addr)
 | [],acc=>acc
 |(n,k)::r,acc=>if k == .free then cZ cells r ((n,(cells.lookup n).getD 0)::acc) else cZ cells r acc
theorem z9 (env:Env) (f:Str×NameKind→List (Str×Addr)→Sem (ForInStep (List (Str×Addr))))
 (hf:∀n k c,f (n,k) c=if k == .free then(do let a ←cellOf env n;pure (.yield ((n,a)::c))) else pure (.yield c)) :
 ∀(names:List (Str×NameKind)) (acc:List (Str×Addr)),(∀y∈names,y.2 = .free→∃c,env.cells.lookup y.1=some c)→forIn names acc f=pure (cZ env.cells names acc)
 | [],acc,_=>by rw[forIn_nil];rfl
 |(n,k)::r,acc,h=>by
  rw[forIn_cons,hf]
  have ih:=fun acc=>z9 env f hf r acc fun y hy=>h y (mem_cons_of_mem _ hy)
  unfold cZ
  by_cases hk:(k==NameKind.free)=true
  ·rw[iPp hk,iPp hk]
   obtain⟨c,hc⟩:=h (n,k) mem_cons_self (by simpa using hk)
   have e:cellOf env n=pure c:=by unfold cellOf;rw[hc]
   rw[e]
   have e2:(env.cells.lookup n).getD 0=c:=by rw[hc];rfl
   rw[e2]
   exact ih _
  ·rw[IN hk,IN hk]
   exact ih _
theorem FH {scope:Scope} {env:Env} (h:∀y∈scope.names,y.2 = .free→∃c,env.cells.lookup y.1=some c):closureFor scope env=pure (cZ env.cells scope.names []):=by
 simp only[closureFor]
 rw[z9 env _ (fun n k c=>rfl) scope.names [] h]
 rfl
theorem mem_lookup {α:Type}:∀{l:List (Str×α)} {n:Str} {c:α},(n,c)∈l→∃c',l.lookup n=some c'
 |(k,v)::r,n,c,h=>by
  rw[lookup_cons]
  cases hb:n==k with
  |true=>exact⟨_,rfl⟩
  |false =>
   rcases mem_cons.mp h with e|h
   ·cases e;simp at hb
   ·exact mem_lookup h
theorem oW {cells:List (Str×Addr)}:∀{names:List (Str×NameKind)} {acc:List (Str×Addr)} {n:Str} {c:Addr},(n,c)∈cZ cells names acc→(n,c)∈acc∨((n,.free)∈names∧c=(cells.lookup n).getD 0)
 | [],_,_,_,h=>.inl h
 |(m,k)::r,acc,n,c,h=>by
  unfold cZ at h
  split at h
  ·rename_i hk
   have hk:k = .free:=by simpa using hk
   rcases oW h with h|⟨h1,h2⟩
   ·rcases mem_cons.mp h with e|h
    ·cases e;exact .inr ⟨hk ▸ mem_cons_self,rfl⟩
    ·exact .inl h
   ·exact .inr ⟨mem_cons_of_mem _ h1,h2⟩
  ·rcases oW h with h|⟨h1,h2⟩
   ·exact .inl h
   ·exact .inr ⟨mem_cons_of_mem _ h1,h2⟩
theorem ui {cells:List (Str×Addr)}:∀{names:List (Str×NameKind)} {acc:List (Str×Addr)} {p:Str×Addr},p∈acc→p∈cZ cells names acc
 | [],_,_,h=>h
 |(m,k)::r,acc,p,h=>by
  unfold cZ
  split
  ·exact ui (mem_cons_of_mem _ h)
  ·exact ui h
theorem uj {cells:List (Str×Addr)}:∀{names:List (Str×NameKind)} {acc:List (Str×Addr)} {n:Str},(n,.free)∈names→(n,(cells.lookup n).getD 0)∈cZ cells names acc
 |(m,k)::r,acc,n,h=>by
  unfold cZ
  rcases mem_cons.mp h with e|h
  ·cases e
   exact ui mem_cons_self
  ·split
   ·exact uj h
   ·exact uj h
theorem qy:∀{names:List (Str×NameKind)} {h:Heap} {acc:List (Str×Addr)} {x:Str} {c:Addr},(x,c)∈cellsFrom h.objs.size names acc →
 (x,c)∈acc∨((x,.cell)∈names∧h.objs.size≤c∧UD (pushCells h names) c none)
 | [],_,_,_,_,h=>.inl h
 |(n,k)::r,h,acc,x,c,hm=>by
  unfold cellsFrom at hm
  unfold pushCells
  split at hm
  ·rename_i hk
   rw[iPp hk]
   have hk:k = .cell:=by simpa using hk
   rw[←Heap.size_push h {cls:=.type "cell",data:=.cell none}]at hm
   rcases qy hm with hm|⟨h1,h2,h3⟩
   ·rcases mem_cons.mp hm with e|hm
    ·cases e
     exact .inr ⟨hk ▸ mem_cons_self,le_refl _,_,pushCells_keeps r _ _ _ (Heap.get?_push_size _ rfl),rfl⟩
    ·exact .inl hm
   ·rw[Heap.size_push]at h2
    exact .inr ⟨mem_cons_of_mem _ h1,le_of_succ_le h2,h3⟩
  ·rename_i hk
   rw[IN hk]
   rcases qy hm with hm|⟨h1,h2,h3⟩
   ·exact .inl hm
   ·exact .inr ⟨mem_cons_of_mem _ h1,h2,h3⟩
theorem wB:∀{names:List (Str×NameKind)} {n:Nat} {acc:List (Str×Addr)} {p:Str×Addr},p∈acc→p∈cellsFrom n names acc
 | [],_,_,_,h=>h
 |(m,k)::r,n,acc,p,h=>by
  unfold cellsFrom
  split
  ·exact wB (mem_cons_of_mem _ h)
  ·exact wB h
theorem BZ:∀{names:List (Str×NameKind)} {n:Nat} {acc:List (Str×Addr)} {x:Str},(x,.cell)∈names→∃c,(x,c)∈cellsFrom n names acc
 |(m,k)::r,n,acc,x,h=>by
  unfold cellsFrom
  rcases mem_cons.mp h with e|h
  ·cases e
   exact⟨n,wB mem_cons_self⟩
  ·split
   ·exact BZ h
   ·exact BZ h
theorem B0:∀{names:List (Str×NameKind)} {h:Heap} {acc:List (Str×Addr)} {x y:Str} {c:Addr},(∀p∈acc,p.2<h.objs.size)→(∀x y c,(x,c)∈acc→(y,c)∈acc→x=y) →
 (x,c)∈cellsFrom h.objs.size names acc→(y,c)∈cellsFrom h.objs.size names acc→x=y
 | [],_,_,_,_,_,_,hi,h1,h2=>hi _ _ _ h1 h2
 |(n,k)::r,h,acc,x,y,c,hl,hi,h1,h2=>by
  unfold cellsFrom at h1 h2
  split at h1
  ·rename_i hk
   rw[iPp hk]at h2
   rw[←Heap.size_push h {cls:=.type "cell",data:=.cell none}]at h1 h2
   refine B0 (h:=h.push _) (fun p hp=>?_) (fun x y c a b=>?_) h1 h2
   ·rw[Heap.size_push]
    rcases mem_cons.mp hp with rfl|hp
    ·exact lt_succ_self _
    ·exact lt_succ_of_lt (hl p hp)
   ·rcases mem_cons.mp a with e|a<;>rcases mem_cons.mp b with e'|b
    ·cases e;cases e';rfl
    ·cases e;exact absurd (hl _ b) (lt_irrefl _)
    ·cases e';exact absurd (hl _ a) (lt_irrefl _)
    ·exact hi _ _ _ a b
  ·rename_i hk
   rw[IN hk]at h2
   exact B0 hl hi h1 h2
theorem Dk {M:Model} {A:Around} {E:Value→Shared→Prop} {s:Shared} {scope:Scope} {globals:Addr} {closure:List (Str×Addr)} {qual:Str} {func:Option Addr} {code:Value} {around:Env} {builtins:Addr} {Q:Env→Shared→Prop}
 (h:Q (newEnv scope s.heap.objs.size globals (cellsFrom (s.heap.objs.size+1) scope.names closure) qual func code (some around) builtins)
  {s with heap:=pushCells (s.heap.push {cls:=.type "dict",data:=.dict #[]}) scope.names}) :
 wpAny M A (newFunctionEnv scope globals closure [] qual func code (some around) builtins) Q E s:=by
 simp only[newFunctionEnv,isSome_some,if_true]
 refine wpAny_bind (wpAny_alloc ?_)
 refine wpAny_bind (wpAny_layCells _ (fun n k c=>rfl) scope.names closure _ _ ?_)
 rw[show({s with heap:=s.heap.push {cls:=.type "dict",data:=.dict #[]}}:Shared).heap.objs.size=s.heap.objs.size+1 from Heap.size_push ..]
 rw[forIn_nil]
 exact wpAny_bind (wpAny_pure (wpAny_pure h))
theorem uk {sc:Scope}:∀{names:List (Str×NameKind)} {x:Str} {k:NameKind},
 (names.map fun(n,k)=>if (k==NameKind.free&&sc.kind == .function&&sc.names.lookup n==some .cell) then(n,NameKind.cell) else(n,k)).lookup x=some k →
 ∃k',names.lookup x=some k'∧(k=k'∨(k' = .free∧k = .cell))
 | [],_,_,h=>by simp at h
 |(n,k₀)::r,x,k,h=>by
  have ih:=@uk sc r x k
  have h':List.lookup x ((if (k₀==NameKind.free&&sc.kind == .function&&sc.names.lookup n==some .cell)=true then(n,NameKind.cell) else(n,k₀))::(r.map _))=some k:=h
  cases hx:x==n with
  |true =>
   simp only[lookup_cons,hx]
   by_cases hc:(k₀==NameKind.free&&sc.kind == .function&&sc.names.lookup n==some .cell)=true
   ·rw[iPp hc]at h'
    simp only[lookup_cons,hx]at h'
    cases h'
    simp only[and_eq_true,beq_iff_eq]at hc
    exact⟨k₀,rfl,.inr ⟨hc.1.1,rfl⟩⟩
   ·rw[IN hc]at h'
    simp only[lookup_cons,hx]at h'
    cases h'
    exact⟨_,rfl,.inl rfl⟩
  |false =>
   simp only[lookup_cons,hx]
   by_cases hc:(k₀==NameKind.free&&sc.kind == .function&&sc.names.lookup n==some .cell)=true
   ·rw[iPp hc]at h'
    simp only[lookup_cons,hx]at h'
    exact ih h'
   ·rw[IN hc]at h'
    simp only[lookup_cons,hx]at h'
    exact ih h'
structure MM (N:List Str) (sc scope:Scope) (own:List (Str×Nat)):Prop where
 kind:scope.kind = .function
 uniq:∀y∈scope.names,scope.names.lookup y.1=some y.2
 ix:∀p∈own,N[p.2]?=some p.1
 free:∀y∈scope.names,y.2 = .free→sc.names.lookup y.1=some .cell∨sc.names.lookup y.1=some .free
 own:∀y∈scope.names,y.2 = .local∨y.2 = .cell→y.1∈own.map (·.1)∨y.1∉N
def wipe (σ:St):List Nat→St
 | []=>σ
 |v::vs=>(wipe σ vs).set v none
theorem oX (σ:St):∀vs:List Nat,(wipe σ vs).length=σ.length
 | []=>rfl
 |v::vs=>by unfold wipe;rw[List.length_set,oX σ vs]
theorem wC {σ:St} {i:Nat} {x:V}:∀{vs:List Nat},(wipe σ vs)[i]?=some (some x)→σ[i]?=some (some x)∧i∉vs
 | [],h=>⟨h,by simp⟩
 |v::vs,h=>by
  unfold wipe at h
  by_cases hi:v=i
  ·subst hi
   by_cases hv:v<(wipe σ vs).length
   ·rw[List.getElem?_set_self hv]at h;cases h
   ·rw[getElem?_eq_none (by simpa using hv)]at h;cases h
  ·rw[List.getElem?_set_ne hi]at h
   obtain⟨h1,h2⟩:=wC h
   exact⟨h1,by simp only[mem_cons,not_or];exact⟨fun e=>hi e.symm,h2⟩⟩
abbrev Cx.HN (X:Cx) (s:Shared) (H:Hp) (scope:Scope) (iD:Env) (fp:List Addr):Cx:={X with s₀:=s,H₀:=H,env:=iD,outer:=X.stack,ex:=fp,fn:=fun x=>scope.names.lookup x==some .cell,pn:=[],xe:=fun _ _=>False}
section
variable {X:Cx} {pp:List (Addr×Obj)} {σ:St} {H:Hp} {s:Shared}
theorem Dl {scope:Scope} {own:List (Str×Nat)} {fp:List Addr} (I:Inv X pp σ H s) (ok:MM X.N X.env.scope scope own) (hN:X.N.Nodup) (Xr:∀b∈fp,yB X pp H b∧b<s.heap.objs.size) :
 Inv (X.HN s H scope (compEnvC scope (cellsFrom (s.heap.objs.size+1) scope.names (cZ X.env.cells scope.names [])) s.heap.objs.size X.env) fp) [] (wipe σ (own.map (·.2))) H {s with heap:=pushCells (s.heap.push {cls:=.type "dict",data:=.dict #[]}) scope.names}:=by
 have Dg:∀y∈scope.names,y.2 = .free→∃c,X.env.cells.lookup y.1=some c:=fun y hy e=>by
  rcases ok.free y hy e with k|k
  ·exact I.ok.has _ (.inl k)
  ·exact I.ok.has _ (.inr k)
 generalize MN:compEnvC scope (cellsFrom (s.heap.objs.size+1) scope.names (cZ X.env.cells scope.names [])) s.heap.objs.size X.env=iD
 have kp:∀b o,s.heap.get? b=some o→(pushCells (s.heap.push {cls:=.type "dict",data:=.dict #[]}) scope.names).get? b=some o:=fun b o e=>pushCells_keeps _ _ _ _ (Heap.get?_push_of_some _ e)
 have hL:iD.locals=s.heap.objs.size:=by rw[←MN];rfl
 have oN:iD.cells=cellsFrom (s.heap.objs.size+1) scope.names (cZ X.env.cells scope.names []):=by rw[←MN];rfl
 have hsc:iD.scope=ahi scope X.env.scope:=by rw[←MN];rfl
 rw[←Heap.size_push s.heap {cls:=.type "dict",data:=.dict #[]}]at oN
 have cm:∀{y c},(y,c)∈cZ X.env.cells scope.names []→X.env.cells.lookup y=some c∧c<s.heap.objs.size:=fun{y c} hm=>by
  rcases oW hm with hm|⟨h1,rfl⟩
  ·cases hm
  ·obtain⟨c,hc⟩:=Dg _ h1 rfl
   rw[hc]
   obtain⟨w,z⟩:=I.cell _ _ hc
   exact⟨rfl,z.lt⟩
 have mem:∀{y c},iD.cells.lookup y=some c→(X.env.cells.lookup y=some c∧c<s.heap.objs.size)∨(s.heap.objs.size+1≤c∧UD (pushCells (s.heap.push {cls:=.type "dict",data:=.dict #[]}) scope.names) c none):=fun{y c} e=>by
  rw[oN]at e
  rcases qy (mem_of_lookup e) with hm|⟨_,h2,h3⟩
  ·exact .inl (cm hm)
  ·rw[Heap.size_push]at h2;exact .inr ⟨h2,h3⟩
 have look:∀{y},scope.names.lookup y=some .free→∃c,iD.cells.lookup y=some c∧X.env.cells.lookup y=some c:=fun{y} hl=>by
  have hy:(y,NameKind.free)∈scope.names:=mem_of_lookup hl
  obtain⟨c',e'⟩:=mem_lookup (wB (names:=scope.names) (n:=(s.heap.push {cls:=.type "dict",data:=.dict #[]}).objs.size) (uj (cells:=X.env.cells) (acc:=[]) hy))
  rw[←oN]at e'
  refine⟨c',e',?_⟩
  rw[oN]at e'
  rcases qy (mem_of_lookup e') with hm|⟨h1,_,_⟩
  ·exact(cm hm).1
  ·have:=ok.uniq _ h1
   rw[hl]at this;cases this
 have okB:(X.HN s H scope iD fp).Ok:=by
  refine⟨I.ok.mod,by show iD.scope.kind=_;rw[hsc];exact ok.kind,by show iD.globals=_;rw[←MN];exact I.ok.glob,by show iD.builtins=_;rw[←MN];exact I.ok.blt,by show s.heap.objs.size≤iD.locals;rw[hL];exact le_refl _,
   fun y z c e1 e2=>?_,fun y hy=>?_,fun y c z e=>?_,I.ok.hd,I.ok.frames,.inl rfl,fun b hb=>⟨?_,fun y c e z=>?_⟩,I.bs,le_trans I.ok.WI I.sz,fun b o e hb=>?_,fun b hb z=>?_,I.stack,I.Kz⟩
  ·have e1:iD.cells.lookup y=some c:=e1
   have e2:iD.cells.lookup z=some c:=e2
   rw[oN]at e1 e2
   refine B0 (fun p hp=>?_) (fun y z c a b=>I.ok.inj y z c (cm a).1 (cm b).1) (mem_of_lookup e1) (mem_of_lookup e2)
   rw[Heap.size_push]
   exact lt_succ_of_lt (cm (y:=p.1) (c:=p.2) hp).2
  ·show ∃c,iD.cells.lookup y=some c
   have key:∀k,iD.kindOf y=some k→(k = .cell∨k = .free)→∃c,iD.cells.lookup y=some c:=fun k hk hk'=>by
    unfold Env.kindOf at hk
    rw[hsc]at hk
    obtain⟨k',e,r⟩:=uk hk
    have:k' = .cell∨k' = .free:=by
     rcases r with rfl|⟨rfl,_⟩
     ·exact hk'
     ·exact .inr rfl
    rcases this with rfl|rfl
    ·obtain⟨c,hm⟩:=BZ (n:=(s.heap.push {cls:=.type "dict",data:=.dict #[]}).objs.size) (acc:=cZ X.env.cells scope.names []) (mem_of_lookup e)
     obtain⟨c',e'⟩:=mem_lookup hm
     exact⟨c',by rw[oN];exact e'⟩
    ·obtain⟨c,h1,_⟩:=look e
     exact⟨c,h1⟩
   rcases hy with hy|hy
   ·exact key _ hy (.inl rfl)
   ·exact key _ hy (.inr rfl)
  ·have z:(scope.names.lookup y==some NameKind.cell)=true:=z
   have z:scope.names.lookup y=some .cell:=by simpa using z
   have e:iD.cells.lookup y=some c:=e
   rw[oN]at e
   rcases qy (mem_of_lookup e) with hm|⟨_,h2,_⟩
   ·rcases oW hm with hm|⟨h1,_⟩
    ·cases hm
    ·have q:=ok.uniq _ h1
     rw[z]at q;cases q
   ·rw[Heap.size_push]at h2
    exact le_of_succ_le h2
  ·show b≠iD.locals
   rw[hL];exact ne_of_lt (Xr b hb).2
  ·have e:iD.cells.lookup y=some c:=e
   rcases mem e with⟨h1,_⟩|⟨h1,_⟩
   ·exact(Xr b hb).1.2.2.2.2.1 y c h1 z
   ·have h2:s.heap.objs.size+1≤b:=by rw[←z];exact h1
    exact absurd (lt_of_lt_of_le (Xr b hb).2 (le_of_succ_le h2)) (lt_irrefl _)
  ·rcases(Xr b hb).1.2.2.2.1 with z|z
   ·exact I.ok.R9 b o e z
   ·exact absurd (lt_of_lt_of_le (Heap.lt_size e) (le_trans I.ok.WI z)) (lt_irrefl _)
  ·rcases mem_cons.mp (I.rq b z) with z|z
   ·exact(Xr b hb).1.2.1 z
   ·exact(Xr b hb).1.2.2.1 z
 refine⟨okB,rfl,I.bare,Un.kept kp,⟨fun _=>none,?_,fun i y av e1 e2 e3=>?_⟩,fun y c e=>?_,?_,fun y c e=>?_,fun p hp=>?_,I.cG.kept kp,by rw[oX];exact I.len⟩
 ·show Heap.Ns _ iD.locals _
  rw[hL]
  exact Heap.Ns.keeps (Heap.Ns.new ..) fun b o e=>pushCells_keeps _ _ _ _ e
 ·obtain⟨e2,HP⟩:=wC e2
  have Eh:scope.names.lookup y=some .free∧(iD.kindOf y=some .cell∨iD.kindOf y=some .free):=by
   have key:∀k,iD.scope.names.lookup y=some k→k = .local∨k = .cell∨k = .free→scope.names.lookup y=some .free∧(iD.kindOf y=some .cell∨iD.kindOf y=some .free):=fun k hk hk'=>by
    have hk0:=hk
    rw[hsc]at hk
    obtain⟨k',e,r⟩:=uk hk
    have no:¬(k' = .local∨k' = .cell):=fun hh=>by
     rcases ok.own _ (mem_of_lookup e) hh with e'|e'
     ·obtain⟨p,hp,hpy⟩:=mem_map.mp e'
      have e3:=ok.ix p hp
      have:p.1=y:=hpy
      rw[this]at e3
      exact HP (mem_map.mpr ⟨p,hp,Fl hN e3 e1⟩)
     ·exact e' (mem_of_getElem? e1)
    rcases r with rfl|⟨rfl,rfl⟩
    ·rcases hk' with rfl|rfl|rfl
     ·exact absurd (.inl rfl) no
     ·exact absurd (.inr rfl) no
     ·exact⟨e,.inr hk0⟩
    ·exact⟨e,.inl hk0⟩
   have e3:Vis iD.scope y:=e3
   rcases e3 with e3|e3|e3
   ·exact key _ e3 (.inl rfl)
   ·exact key _ e3 (.inr (.inl rfl))
   ·exact key _ e3 (.inr (.inr rfl))
  obtain⟨m,hn,hl⟩:=I.loc
  have ahk:Vis X.env.scope y:=(ok.free _ (mem_of_lookup Eh.1) rfl).elim (fun k=>.inr (.inl k)) (fun k=>.inr (.inr k))
  obtain⟨w,r,q⟩:=hl i y av e1 e2 ahk
  refine⟨w,r,.inr ⟨Eh.2,?_⟩⟩
  obtain⟨c,h1,h2⟩:=look Eh.1
  rcases q with⟨k,_⟩|⟨_,c',e',z⟩
  ·have k:X.env.scope.names.lookup y=some .local:=k
   rcases ok.free _ (mem_of_lookup Eh.1) rfl with k'|k'<;>rw[show X.env.scope.names.lookup y=_ from k']at k<;>cases k
  ·rw[h2]at e';cases e'
   exact⟨c,h1,z.keeps kp⟩
 ·have e:iD.cells.lookup y=some c:=e
  rcases mem e with⟨h1,_⟩|⟨_,z⟩
  ·obtain⟨w,z⟩:=I.cell y c h1
   exact⟨w,z.keeps kp⟩
  ·exact⟨_,z⟩
 ·show H iD.locals=none
  rw[hL];exact I.cG.fresh (le_refl _)
 ·have e:iD.cells.lookup y=some c:=e
  rcases mem e with⟨h1,_⟩|⟨h1,_⟩
  ·exact I.oS y c h1
  ·exact I.cG.fresh (le_of_succ_le h1)
 ·exact absurd (show p∈([]:List (Addr×Obj))++[] from hp) (by simp)
theorem UE {E:Value→Shared→Prop} {D:Addr} {xs:List V} {y:V} {v:Value} {Q:Value→Shared→Prop} (I:Inv X pp σ H s) (hD:H D=some (.lst xs)) (hz:xs.length<sizeLine) (r:RelV y v)
 (h:∀s',Inv X pp σ (upd H D (.lst (xs++[y]))) s'→Q .none s'):wpAny (model X.prog X.w) X.A (call (.builtin "list.append") [.ref D,v]) Q E s:=by
 obtain⟨hz',bu,n,ri,e⟩:=I.cG D _ hD
 have hl:=ri.length
 refine append_at (hsz:=by rw[size_toArray];lia) e fun h' sb QR=>?_
 refine h {s with heap:=h'} (I.write (t':=s.toks) (by rw[hD];trivial) (.inl rfl) (fun b u hb q=>(sb.2 b hb).trans q) ⟨_,QR⟩ ⟨by rw[length_append];exact hz,bu++[v],n+1,ri.append (.cons r .nil),?_⟩)
 rw[QR]
 simp
def PTs (X:Cx) (ifs:List Expr) (t:TT):Prop :=
 ∀(pp:List (Addr×Obj)) (s:Shared) (σ:St) (H:Hp) (Q:Bool→Hp→Prop),Inv X pp σ H s→t σ H Q →
  wpAny (model X.prog X.w) X.A (forIn ifs true fun c r=>if r=true then do let ok ←isTrue c X.env (eval c X.env);pure (ForInStep.yield ok) else pure (ForInStep.yield r)) (TP X pp σ Q) X.xe s
def aaP:TT:=fun _ H Q=>Q true H
theorem Aa:PTs X [] aaP:=fun _ _ _ H _ I h=>wpAny_tests_nil ⟨H,I,h⟩
theorem Q6 {c:Expr} {t:TT} (h:PT X c t):PTs X [c] t:=fun pp s σ H Q I hw=>wpAny_tests_one (h pp s σ H Q I hw)
end
theorem Sl {α:Type} {t:Sem α} {Q Q':α→Shared→Prop} {M:Model} {A:Around} {E:Value→Shared→Prop} {s:Shared} (h:wpAny M A t Q (fun _ _=>False) s) (hQ:∀a s,Q a s→Q' a s):wpAny M A t Q' E s:=wpAny_mono h hQ fun _ _ z=>False.elim z
theorem Ab {prog:Program} {w:World} {A:Around} {R:Result→Shared→Prop} {s:Shared} {elt target iter:Expr} {ifs:List Expr} {scope:Scope} {pos:Pos} {it acc:Value} {env:Env} (I:Nat→Shared→Prop)
 (turn:∀n s,I n s→wpAny (model prog w) A (pyNext it) (fun r s₁=>match r with
  |none=>R (.ok .next) s₁
  |some v=>wpAny (model prog w) A (letOwnedTupleGo target it v) (fun _ s₁'=>wpAny (model prog w) A (assign target env v) (fun _ s₂ =>
   wpAny (model prog w) A (forIn ifs true fun c r=>if r=true then do let ok ←isTrue c env (eval c env);pure (ForInStep.yield ok) else pure (ForInStep.yield r)) (fun ok s₃ =>
    if ok=true then wpAny (model prog w) A (eval elt env) (fun x s₄ =>
     wpAny (model prog w) A (call (.builtin "list.append") [acc,x]) (fun _ s₅=>∃m,m<n∧I m s₅) (notedBy (model prog w) A env fun e s'=>R (.error e) s') s₄) (notedBy (model prog w) A env fun e s'=>R (.error e) s') s₃
    else ∃m,m<n∧I m s₃) (notedBy (model prog w) A env fun e s'=>R (.error e) s') s₂) (notedBy (model prog w) A env fun e s'=>R (.error e) s') s₁') (notedBy (model prog w) A env fun e s'=>R (.error e) s') s₁) (notedBy (model prog w) A env fun e s'=>R (.error e) s') s)
 (n:Nat) (h:I n s) :
 codeAny (model prog w) A (.compLoop (.ListComp elt [⟨target,iter,ifs,0⟩] scope pos) 0 it acc env) R s:=by
 refine codeAny_loop rfl I (fun n s hI=>?_) n h
 show wpAny _ A ((compTurn (.ListComp elt [⟨target,iter,ifs,0⟩] scope pos) 0 it acc env).onRaise (fun x=>do noteFrame x env;theTreesLotGoes x)) _ _ s
 refine wpAny_noted ?_
 rw[compTurn_list]
 refine wpAny_bind (wpAny_standAt (wpAny_bind (wpAny_mono (turn n s hI) (fun r s₁ h₁=>?_) fun _ _ h'=>h')))
 cases r with
 |none=>exact wpAny_pure h₁
 |some v =>
  refine wpAny_bind (wpAny_mono h₁ (fun _ s₁' h₁'=>?_) fun _ _ h'=>h')
  refine wpAny_bind (wpAny_mono h₁' (fun _ s₂ h₂=>wpAny_bind (wpAny_mono h₂ (fun ok s₃ h₃=>?_) fun _ _ h'=>h')) fun _ _ h'=>h')
  cases ok with
  |false=>exact wpAny_pure ⟨rfl,h₃⟩
  |true =>
   exact wpAny_bind (wpAny_bind (wpAny_mono h₃ (fun x s₄ h₄=>wpAny_bind (wpAny_mono h₄ (fun _ s₅ h₅=>wpAny_pure (wpAny_pure ⟨rfl,h₅⟩)) fun _ _ h'=>h')) fun _ _ h'=>h'))
section
variable {X:Cx}
def tLc (wi:TI) (g:TG) (tt:TT) (te:TE) (vs:List Nat):TE:=fun σ H Q=>wi σ H fun J H1=>∀D,H1 D=none→∃W:Nat→Nat→Hp→Prop,(∃m,W 0 m (upd H1 D (.lst [])))∧∀i m H,W i m H →
 (J.stop i H∧Q (.ref D) H)∨(J.go i H∧∃Nx:Hp→Prop,(∀H',Nx H'→∃m',m'<m∧W (i+1) m' H')∧∀x H',J.W7 i H x H'→g x (wipe σ vs) H' fun σ2 H2=>wipe σ2 vs=wipe σ vs∧tt σ2 H2 fun b H3 =>
  if b=true then te σ2 H3 fun y H4=>∃acc,H4 D=some (.lst acc)∧acc.length<sizeLine∧Nx (upd H4 D (.lst (acc++[y]))) else Nx H3)
theorem Xs {pp:List (Addr×Obj)} {s:Shared} {σ:St} {H:Hp} {Q:VK} {elt tg iter:Expr} {ifs:List Expr} {scope:Scope} {own:List (Str×Nat)} {pos pos':Pos} {wi:TI} {g:TG} {tt:TT} {te:TE} {use:Option (Value→Sem Unit)} {Qf:Value→Shared→Prop}
 (hc:X.calm=true) (hN:X.N.Nodup) (I:Inv X pp σ H s) (hi:PI X tg iter wi) (ok:MM X.N X.env.scope scope own)
 (hg:∀(s:Shared) (H:Hp) (C:Addr) (cl:List (Str×Addr)) (fp:List Addr),PG (X.HN s H scope (compEnvC scope cl C X.env) fp) tg g) (ht:∀(s:Shared) (H:Hp) (C:Addr) (cl:List (Str×Addr)) (fp:List Addr),PTs (X.HN s H scope (compEnvC scope cl C X.env) fp) ifs tt)
 (he:∀(s:Shared) (H:Hp) (C:Addr) (cl:List (Str×Addr)) (fp:List Addr),PE (X.HN s H scope (compEnvC scope cl C X.env) fp) elt te) (hs:∀x,foldedSetIterable iter X.env x=pure x)
 (h:tLc wi g tt te (own.map (·.2)) σ H Q)
 (hRR:∀D C s' m H',Inv X pp σ H' s'→Q (.ref D) H'→s'.heap.Ns C m→yB X pp H' C→compPost (model X.prog X.w) X.A X.xe use Qf (.ref D) C (.ok .next) s') :
 wpAny (model X.prog X.w) X.A (comprehension (.ListComp elt [⟨tg,iter,ifs,0⟩] scope pos) scope X.env pos' (newList []) false (eval iter X.env) use) Qf X.xe s:=by
 have Dg:∀y∈scope.names,y.2 = .free→∃c,X.env.cells.lookup y.1=some c:=fun y hy e=>by
  rcases ok.free y hy e with k|k
  ·exact I.ok.has _ (.inl k)
  ·exact I.ok.has _ (.inr k)
 refine wpAny_comprehension_free (use:=use) rfl hs (FH Dg) ok.kind (fun y hy e=>by rw[ok.uniq y hy,e])
  (dq (hi pp s σ H _ I h) fun xv s1 hx=>dq hx fun itv s2 h2=>?_)
 obtain⟨it,fp,tn,J,H2,e,I2,T,st2,f2,q⟩:=h2
 subst e
 refine wpAny_newObj_type (Dk ?_) (by show 0≤sizeLine;decide)
 generalize hD:s2.heap.objs.size=D
 have hDn:H2 D=none:=I2.cG.fresh (le_of_eq hD)
 obtain⟨W,⟨m0,w0⟩,turn⟩:=q D hDn
 generalize O2:({s2 with heap:=s2.heap.push {cls:=.type "list",data:=.seq ([]:List Value).toArray}}:Shared)=s3
 have I3:Inv X pp σ (upd H2 D (.lst [])) s3:=by
  rw[←O2]
  refine I2.laid (t':=s2.toks) (fun b o e=>Heap.get?_push_of_some _ e) (le_of_eq hD) ⟨zero_le _,[],0,.nil,?_⟩
  rw[←hD]
  exact Heap.get?_push_size _ rfl
 have h3:s3.heap=s2.heap.push {cls:=.type "list",data:=.seq ([]:List Value).toArray}:=by rw[←O2]
 have sz:∀b∈fp,b<s2.heap.objs.size:=fun b hb=>by
  obtain⟨o,e,_⟩:=T.obj _ _ st2 b hb
  exact Heap.lt_size e
 have f3:∀b∈fp,yB X pp (upd H2 D (.lst [])) b∧b<s3.heap.objs.size:=fun b hb=>by
  have oU:=sz b hb
  refine⟨⟨?_,(f2 b hb).2⟩,by rw[h3,Heap.size_push];exact lt_succ_of_lt oU⟩
  rw[aj (by rw[←hD];exact ne_of_lt oU)]
  exact(f2 b hb).1
 have st3:tn 0 s3.heap:=T.keep _ _ _ st2 fun b _ o e=>by rw[h3];exact Heap.get?_push_of_some _ e
 have I4:=Dl I3 ok hN f3
 have pg:=hg s3 (upd H2 D (.lst [])) s3.heap.objs.size (cellsFrom (s3.heap.objs.size+1) scope.names (cZ X.env.cells scope.names [])) fp
 have pt:=ht s3 (upd H2 D (.lst [])) s3.heap.objs.size (cellsFrom (s3.heap.objs.size+1) scope.names (cZ X.env.cells scope.names [])) fp
 have pe:=he s3 (upd H2 D (.lst [])) s3.heap.objs.size (cellsFrom (s3.heap.objs.size+1) scope.names (cZ X.env.cells scope.names [])) fp
 show codeAny _ _ (.compStart (.ListComp elt [⟨tg,iter,ifs,0⟩] scope pos) 0 (.ref it) (.ref D) (compEnvC scope (cellsFrom (s3.heap.objs.size+1) scope.names (cZ X.env.cells scope.names [])) s3.heap.objs.size X.env)) (compPost (model X.prog X.w) X.A X.xe use Qf (.ref D) s3.heap.objs.size) {s3 with heap:=pushCells (s3.heap.push {cls:=.type "dict",data:=.dict #[]}) scope.names}
 have nfp:∀b∈fp,(upd H2 D (.lst [])) b=none:=fun b hb=>(f3 b hb).1.1
 generalize hce:compEnvC scope (cellsFrom (s3.heap.objs.size+1) scope.names (cZ X.env.cells scope.names [])) s3.heap.objs.size X.env=ce at I4 pg pt pe ⊢
 have cL:ce.locals=s3.heap.objs.size:=by subst hce;rfl
 generalize hH3:upd H2 D (.lst [])=H3 at I3 I4 pg pt pe w0 nfp f3
 generalize hs4:({s3 with heap:=pushCells (s3.heap.push {cls:=.type "dict",data:=.dict #[]}) scope.names}:Shared)=s4 at I4 ⊢
 have st4:tn 0 s4.heap:=T.keep _ _ _ st3 fun b _ o e=>by rw[←hs4];exact pushCells_keeps _ _ _ _ (Heap.get?_push_of_some _ e)
 have Fq:∀{σ':St} {H':Hp} {s':Shared},Inv (X.HN s3 H3 scope ce fp) [] σ' H' s'→(∀b∈fp,H' b=none)→∀b∈fp,yB (X.HN s3 H3 scope ce fp) [] H' b:=fun{σ' H' s'} I' hn b hb =>
  ⟨hn b hb,(I'.ok.exf b hb).1,I'.ok.OL b hb,.inl hb,fun x c e=>(I'.ok.exf b hb).2 x c e,fun p hp=>absurd (show p∈([]:List (Addr×Obj))++[] from hp) (by simp)⟩
 have loop:codeAny (model X.prog X.w) X.A (.compLoop (.ListComp elt [⟨tg,iter,ifs,0⟩] scope pos) 0 (.ref it) (.ref D) ce) (compPost (model X.prog X.w) X.A X.xe use Qf (.ref D) s3.heap.objs.size) s4:=by
  refine Ab (fun n s'=>∃i H',Inv (X.HN s3 H3 scope ce fp) [] (wipe σ (own.map (·.2))) H' s'∧tn i s'.heap∧(∀b∈fp,H' b=none)∧W i n H') ?_ m0 ⟨0,H3,I4,st4,nfp,w0⟩
  rintro n s5 ⟨i,H5,I5,W8,n5,w5⟩
  rcases turn i n H5 w5 with⟨stop,qq⟩|⟨go,Nx,hNx,step⟩
  ·have td:=T.done (X.HN s3 H3 scope ce fp) rfl rfl rfl hc i [] s5 _ H5 (fun _ _=>False) I5 (Fq I5 n5) W8 stop
   refine Sl td fun r s6 ⟨hr,I6⟩=>?_
   subst hr
   have I7:Inv X pp σ H5 s6:=I3.Jy (ch:=fp) I6.os I6.base I6.cG I6.bare fun b hb=>⟨(f3 b hb).1.2.2.2.1,(f3 b hb).1.2.1,(f3 b hb).1.2.2.2.2.1,(f3 b hb).1.2.2.2.2.2⟩
   have nC:H5 s3.heap.objs.size=none:=by
    have z:H5 ce.locals=none:=I6.free
    rw[cL]at z
    exact z
   obtain⟨m,hn,_⟩:=I6.loc
   have hn:s6.heap.Ns ce.locals m:=hn
   rw[cL]at hn
   exact hRR D s3.heap.objs.size s6 m H5 I7 qq hn (I3.MC (le_refl _) nC)
  ·have ti:=T.item (X.HN s3 H3 scope ce fp) rfl rfl rfl hc i [] s5 _ H5 (fun _ _=>False) I5 (Fq I5 n5) W8 go
   refine Sl ti fun r s6 ⟨u,hr,h6⟩=>?_
   subst hr
   refine Sl h6 fun _ s7 ⟨x,H7,I7,r7,y7,st7,n7⟩=>?_
   have I7':=I7.pinned (Fq I7 n7) (T.obj _ _ st7)
   refine Sl (pg _ s7 _ H7 x u _ I7' r7 (step x H7 y7)) fun _ s8 ⟨σ8,H8,I8,Q7,q8⟩=>?_
   refine Sl (pt _ s8 σ8 H8 _ I8 q8) fun b s9 ⟨H9,I9,q9⟩=>?_
   have fin:∀{s':Shared} {H':Hp},Inv (X.HN s3 H3 scope ce fp) ([]++BV fp s7.heap) σ8 H' s'→Nx H'→∃m,m<n∧∃i H',Inv (X.HN s3 H3 scope ce fp) [] (wipe σ (own.map (·.2))) H' s'∧tn i s'.heap∧(∀b∈fp,H' b=none)∧W i m H':=fun{s' H'} I' nx=>by
    obtain⟨m',hm,w'⟩:=hNx H' nx
    have UG:∀b∈fp,∀o,s7.heap.get? b=some o→s'.heap.get? b=some o∧H' b=none:=fun b hb o e =>
     let z:=I'.pin (b,o) (mem_append_right _ (mem_append_right _ (rC hb e)))
     ⟨z.1,z.2.1⟩
    have hl:(wipe σ (own.map (·.2))).length=σ8.length:=by rw[←Q7,oX]
    refine⟨m',hm,i+1,H',(I'.uf (pp:=[])).weak hl (fun j v e=>?_),T.keep _ _ _ st7 fun b hb o e=>(UG b hb o e).1,fun b hb=>?_,w'⟩
    ·rw[←Q7]at e
     exact(wC e).1
    ·obtain⟨o,e,_⟩:=T.obj _ _ st7 b hb
     exact(UG b hb o e).2
   cases b with
   |false =>
    simp only[false_eq_true,if_false]at q9 ⊢
    exact fin I9 q9
   |true =>
    simp only[if_true]at q9 ⊢
    refine Sl (pe _ s9 σ8 H9 _ I9 q9) fun z s10 ⟨yv,H10,I10,r10,acc,aaR,aaS,nx⟩=>?_
    exact UE (X:=X.HN s3 H3 scope ce fp) I10 aaR aaS r10 fun s11 I11=>fin I11 nx
 exact codeAny_compStart_list loop (T.self X.A 0 _ _ _ st4 loop)
theorem UH {i:Nat} {y:Str} {py:Pos} {elt tg iter:Expr} {ifs:List Expr} {scope:Scope} {own:List (Str×Nat)} {pos adU:Pos} {wi:TI} {g:TG} {tt:TT} {te:TE} (hc:X.calm=true) (hN:X.N.Nodup) (hy:X.N[i]?=some y) (hyl:X.env.scope.names.lookup y=some .local)
 (hsw:swapsWith (.ListComp elt [⟨tg,iter,ifs,0⟩] scope pos) (some (.Name y py)) adU.line X.env=pure true) (hi:PI X tg iter wi) (ok:MM X.N X.env.scope scope own)
 (hg:∀(s:Shared) (H:Hp) (C:Addr) (cl:List (Str×Addr)) (fp:List Addr),PG (X.HN s H scope (compEnvC scope cl C X.env) fp) tg g) (ht:∀(s:Shared) (H:Hp) (C:Addr) (cl:List (Str×Addr)) (fp:List Addr),PTs (X.HN s H scope (compEnvC scope cl C X.env) fp) ifs tt)
 (he:∀(s:Shared) (H:Hp) (C:Addr) (cl:List (Str×Addr)) (fp:List Addr),PE (X.HN s H scope (compEnvC scope cl C X.env) fp) elt te) (hs:∀x,foldedSetIterable iter X.env x=pure x:=by intro _;rfl) :
 PS X (.Assign [.Name y py] (.ListComp elt [⟨tg,iter,ifs,0⟩] scope pos) adU) (aav (tLc wi g tt te (own.map (·.2))) (Jz i)):=by
 intro pp s σ H D I h
 rw[exec_Assign_Name_used _ _ _ _ hsw]
 refine wpAny_bind (wpAny_standAt (wpAny_bind ?_))
 show wpAny _ X.A (do let _ ←comprehension (.ListComp elt [⟨tg,iter,ifs,0⟩] scope pos) scope X.env (firstIterPos [⟨tg,iter,ifs,0⟩] pos) (newList []) false (eval iter X.env) (some (assign (.Name y py) X.env))) _ _ s
 have h:tLc wi g tt te (own.map (·.2)) σ H (fun x H1=>Jz i x σ H1 D.nx):=h
 refine wpAny_bind (dq (Xs (Qf:=fun _ s'=>SP X pp D .next s') hc hN I hi ok hg ht he hs h fun L C s' m H' I' q hn f=>?_) fun _ s' hq=>wpAny_pure (wpAny_pure hq))
 show wpAny _ _ (assign (.Name y py) X.env (.ref L)) _ _ _
 refine wpAny_assign_Name (Jx (v:=V.ref L) I' hN hy (.inl hyl) rfl (fun s2 I2 ⟨a,sb,ha⟩=>?_) (.inr hyl))
 obtain⟨f0,f1,f2,f3,f4,f5⟩:=f
 have haC:C≠a:=by
  rcases ha with z|z
  ·rw[z];exact f1
  ·exact fun e=>f4 y a z e.symm
 refine⟨m,hn.sameBut sb haC,fun h3 sb3=>?_⟩
 exact⟨_,H',I2.turned (t':=s2.toks) (fun b o hb e=>(sb3.2 b hb).trans e) f0 f1 f3 f4 f5,q⟩
theorem Xt {elt:Expr} {gs:List Comprehension} {scope:Scope} {pos py:Pos} {y:Str} {l:Nat} {env:Env} (hk:env.scope.kind = .function) (hy:env.scope.names.lookup y=some .local) (hl:(py.line==pos.line)=true)
 (ha:(scope.names.any fun(n,k)=>n==y&&(k == .local ||k == .cell))=false):swapsWith (.ListComp elt gs scope pos) (some (.Name y py)) l env=pure true:=by
 have ky:env.kindOf y=some .local:=hy
 have hb:env.blockKind = .function:=by unfold Env.blockKind;rw[hk];rfl
 unfold swapsWith
 simp only[hb,ky,ha,Expr.pos,hl]
 rfl
end
theorem Ac {K:PySem.W.Frag} {a:Addr} {xs:List V} {g:TG} {tt:TT} {te:TE} {vs:List Nat} {σ:St} {H1:Hp} {D:Addr} {Qd:Hp→Prop} (Pv:Nat→Hp→Prop) (h0:Pv 0 (upd H1 D (.lst []))) (hl:∀i H,i≤xs.length→Pv i H→bP K H a xs)
 (hs:∀i x H,xs[i]?=some x→Pv i H→g x (wipe σ vs) H fun σ2 H2=>wipe σ2 vs=wipe σ vs∧tt σ2 H2 fun b H3 =>
  if b=true then te σ2 H3 fun y H4=>∃acc,H4 D=some (.lst acc)∧acc.length<sizeLine∧Pv (i+1) (upd H4 D (.lst (acc++[y]))) else Pv (i+1) H3) (hd:∀H,Pv xs.length H→Qd H) :
 ∃W:Nat→Nat→Hp→Prop,(∃m,W 0 m (upd H1 D (.lst [])))∧∀i m H,W i m H →
  ((Zl K a).stop i H∧Qd H)∨((Zl K a).go i H∧∃Nx:Hp→Prop,(∀H',Nx H'→∃m',m'<m∧W (i+1) m' H')∧∀x H',(Zl K a).W7 i H x H'→g x (wipe σ vs) H' fun σ2 H2=>wipe σ2 vs=wipe σ vs∧tt σ2 H2 fun b H3 =>
   if b=true then te σ2 H3 fun y H4=>∃acc,H4 D=some (.lst acc)∧acc.length<sizeLine∧Nx (upd H4 D (.lst (acc++[y]))) else Nx H3):=by
 refine⟨fun i m H=>m=xs.length-i∧i≤xs.length∧Pv i H,⟨xs.length,by simp,zero_le _,h0⟩,?_⟩
 rintro i m H ⟨rfl,hi,p⟩
 have q:=hl i H hi p
 by_cases oU:i<xs.length
 ·refine .inr ⟨⟨xs,xs[i],q,by simp[oU]⟩,Pv (i+1),fun H' p'=>⟨xs.length-(i+1),by lia,rfl,oU,p'⟩,fun x H' y=>?_⟩
  obtain⟨e,y⟩:=y
  subst e
  exact hs i x _ (y xs q) p
 ·have e:i=xs.length:=by lia
  subst e
  exact .inl ⟨⟨xs,q,le_refl _⟩,hd H p⟩
theorem aaU {K:PySem.W.Frag} {a:Addr} {xs:List V} {g:TG} {tt:TT} {te:TE} {vs:List Nat} {σ:St} {H1:Hp} {D:Addr} {Qd:Hp→Prop} (Pv:Nat→Hp→Prop) (h0:Pv 0 (upd H1 D (.lst []))) (hl:∀i H,i≤xs.length→Pv i H→tV K H a xs)
 (hs:∀i x H,xs[i]?=some x→Pv i H→g x (wipe σ vs) H fun σ2 H2=>wipe σ2 vs=wipe σ vs∧tt σ2 H2 fun b H3 =>
  if b=true then te σ2 H3 fun y H4=>∃acc,H4 D=some (.lst acc)∧acc.length<sizeLine∧Pv (i+1) (upd H4 D (.lst (acc++[y]))) else Pv (i+1) H3) (hd:∀H,Pv xs.length H→Qd H) :
 ∃W:Nat→Nat→Hp→Prop,(∃m,W 0 m (upd H1 D (.lst [])))∧∀i m H,W i m H →
  ((Itt K a).stop i H∧Qd H)∨((Itt K a).go i H∧∃Nx:Hp→Prop,(∀H',Nx H'→∃m',m'<m∧W (i+1) m' H')∧∀x H',(Itt K a).W7 i H x H'→g x (wipe σ vs) H' fun σ2 H2=>wipe σ2 vs=wipe σ vs∧tt σ2 H2 fun b H3 =>
   if b=true then te σ2 H3 fun y H4=>∃acc,H4 D=some (.lst acc)∧acc.length<sizeLine∧Nx (upd H4 D (.lst (acc++[y]))) else Nx H3):=by
 refine⟨fun i m H=>m=xs.length-i∧i≤xs.length∧Pv i H,⟨xs.length,by simp,zero_le _,h0⟩,?_⟩
 rintro i m H ⟨rfl,hi,p⟩
 have q:=hl i H hi p
 by_cases oU:i<xs.length
 ·refine .inr ⟨⟨xs,xs[i],q,by simp[oU]⟩,Pv (i+1),fun H' p'=>⟨xs.length-(i+1),by lia,rfl,oU,p'⟩,fun x H' y=>?_⟩
  obtain⟨e,y⟩:=y
  subst e
  exact hs i x _ (y xs q) p
 ·have e:i=xs.length:=by lia
  subst e
  exact .inl ⟨⟨xs,q,le_refl _⟩,hd H p⟩
def adV (N:List Str) (sc scope:Scope) (own:List (Str×Nat)):Bool :=
 (match scope.kind with | .function=>true|_=>false)&&(scope.names.all fun y=>decide (scope.names.lookup y.1=some y.2))&&(own.all fun p=>decide (N[p.2]?=some p.1)) &&
  (scope.names.all fun y=>match y.2 with
   | .free=>(match sc.names.lookup y.1 with|some .cell=>true|some .free=>true|_=>false)
   | .local=>decide (y.1∈own.map (·.1)) ||decide (y.1∉N)
   | .cell=>decide (y.1∈own.map (·.1)) ||decide (y.1∉N)
   |_=>true)
theorem nJ {N:List Str} {sc scope:Scope} {own:List (Str×Nat)} (h:adV N sc scope own=true):MM N sc scope own:=by
 unfold adV at h
 simp only[and_eq_true,all_eq_true,decide_eq_true_eq]at h
 obtain⟨⟨⟨h1,h2⟩,h3⟩,h4⟩:=h
 refine⟨?_,h2,h3,fun y hy e=>?_,fun y hy e=>?_⟩
 ·split at h1
  ·assumption
  ·cases h1
 ·have q:=h4 y hy
  simp only[e]at q
  split at q<;>first|exact .inl (by assumption)|exact .inr (by assumption)|cases q
 ·have q:=h4 y hy
  rcases e with e|e<;>(simp only[e,Bool.or_eq_true,decide_eq_true_eq]at q;exact q)
section
variable {κ:Type} [DecidableEq κ]
def jt (aZ:List (κ×V)) (k:κ):Option V:=(aZ.find? fun kv=>decide (kv.1=k)).map (·.2)
def putK (aZ:List (κ×V)) (k:κ) (v:V):List (κ×V) :=
 if (aZ.any fun kv=>decide (kv.1=k))=true then aZ.map (fun kv=>if kv.1=k then(kv.1,v) else kv) else aZ++[(k,v)]
theorem lP {p:κ×V} {r:List (κ×V)} {k:κ} (e:p.1=k):jt (p::r) k=some p.2:=by simp[jt,find?_cons,e]
theorem lQ {p:κ×V} {r:List (κ×V)} {k:κ} (e:¬p.1=k):jt (p::r) k=jt r k:=by simp[jt,find?_cons,e]
theorem um (k:κ):∀aZ:List (κ×V),(aZ.any fun kv=>decide (kv.1=k))=(jt aZ k).isSome
 | []=>rfl
 |p::r=>by
  rw[any_cons]
  by_cases e:p.1=k
  ·simp only[lP e,decide_eq_true e,Bool.true_or,isSome_some]
  ·rw[lQ e,decide_eq_false e,Bool.false_or];exact um k r
theorem uo (aZ:List (κ×V)) (k:κ) (v:V):(putK aZ k v).length≤aZ.length+1:=by
 unfold putK
 split
 ·rw[length_map];lia
 ·rw[length_append,length_cons,length_nil];lia
theorem UI {aZ:List (κ×V)} {k:κ} (v:V) (h:jt aZ k=none):putK aZ k v=aZ++[(k,v)]:=by
 unfold putK
 rw[um,h]
 exact IN (by decide)
theorem uc.nB {o:Option V} {u:Option Value} (r:uc o u):o.isSome=u.isSome:=by
 cases o with
 |none=>cases u with
  |none=>rfl
  |some _=>exact(show False from r).elim
 |some _=>cases u with
  |none=>exact(show False from r).elim
  |some _=>rfl
theorem KV.val {aZ:List (κ×V)} {vs:List (κ×Value)} (r:KV aZ vs) (k:κ):uc (jt aZ k) (valueAt vs k):=by
 unfold KV at r
 induction r with
 |nil=>exact True.intro
 |@cons p q ps qs h t ih =>
  obtain⟨h1,h2⟩:=h
  by_cases e:p.1=k
  ·have e':q.1=k:=h1.symm.trans e
   have b:valueAt (q::qs) k=some q.2:=by simp[valueAt,find?_cons,e']
   rw[lP e,b];exact h2
  ·have e':¬q.1=k:=fun z=>e (h1.trans z)
   have b:valueAt (q::qs) k=valueAt qs k:=by simp[valueAt,find?_cons,e']
   rw[lQ e,b];exact ih
theorem KV.any {aZ:List (κ×V)} {vs:List (κ×Value)} (r:KV aZ vs) (k:κ):(aZ.any fun kv=>decide (kv.1=k))=vs.any fun kv=>decide (kv.1=k):=by
 unfold KV at r
 induction r with
 |nil=>rfl
 |cons h t ih=>rw[any_cons,any_cons,ih,h.1]
theorem KV.aaV {aZ:List (κ×V)} {vs:List (κ×Value)} (r:KV aZ vs) (k:κ) {y:V} {u:Value} (ry:RelV y u) :
 KV (aZ.map fun kv=>if kv.1=k then(kv.1,y) else kv) (vs.map fun kv=>if kv.1=k then(kv.1,u) else kv):=by
 unfold KV at r ⊢
 induction r with
 |nil=>exact .nil
 |@cons p q ps qs h t ih =>
  rw[map_cons,map_cons]
  refine .cons ?_ ih
  obtain⟨h1,h2⟩:=h
  by_cases e:p.1=k
  ·rw[iPp e,iPp (h1.symm.trans e)];exact⟨h1,ry⟩
  ·rw[IN e,IN (fun z=>e (h1.trans z))];exact⟨h1,h2⟩
theorem KV.put {aZ:List (κ×V)} {vs:List (κ×Value)} (r:KV aZ vs) (k:κ) {y:V} {u:Value} (ry:RelV y u):KV (putK aZ k y) (stored vs k u):=by
 unfold putK stored
 rw[r.any k]
 by_cases e:(vs.any fun kv=>decide (kv.1=k))=true
 ·rw[iPp e,iPp e];exact r.aaV k ry
 ·rw[IN e,IN e];exact Paired.snoc r ⟨rfl,ry⟩
theorem KV.length {aZ:List (κ×V)} {vs:List (κ×Value)} (r:KV aZ vs):aZ.length=vs.length:=Paired.length r
end
theorem Ae {P:Program} {w:World} {k:Key} {u:Value} (r:RelV (kV k) u):(cp P w).is k u=true:=by
 cases k with
 |inl i=>obtain⟨t,e⟩:=(show ∃t,u=Value.int i t from r);subst e;exact Df P w i t
 |inr x=>obtain⟨t,e⟩:=(show ∃t,u=Value.str x t from r);subst e;exact Mx P w x t
theorem JM {P:Program} {w:World}:∀{ks:List Key} {us:List Value},Vals (ks.map kV) us→ItemsAre (cp P w) ks us
 | [],_,r=>by rw[map_nil]at r;cases r;exact .nil
 |k::ks,_,r=>by
  rw[map_cons]at r
  cases r with
  |cons h t=>exact .cons (Ae h) (JM t)
abbrev KT (H:Hp):List (List Key×V)→List (List Key×Addr×Value)→Prop:=Paired fun p q=>p.1=q.1∧H q.2.1=some (.tup (p.1.map kV))∧RelV p.2 q.2.2
theorem KT.val {H:Hp} {aZ:List (List Key×V)} {xs:List (List Key×Addr×Value)} (r:KT H aZ xs) (k:List Key):uc (jt aZ k) ((atKey xs k).map (·.2)):=by
 induction r with
 |nil=>exact True.intro
 |@cons p q ps qs h t ih =>
  obtain⟨h1,_,h2⟩:=h
  by_cases e:p.1=k
  ·have e':q.1=k:=h1.symm.trans e
   have b:atKey (q::qs) k=some q.2:=by simp[atKey,find?_cons,e']
   rw[lP e,b];exact h2
  ·have e':¬q.1=k:=fun z=>e (h1.trans z)
   have b:atKey (q::qs) k=atKey qs k:=by simp[atKey,find?_cons,e']
   rw[lQ e,b];exact ih
theorem KT.aaV {H:Hp} {aZ:List (List Key×V)} {xs:List (List Key×Addr×Value)} (r:KT H aZ xs) (k:List Key) {y:V} {u:Value} (ry:RelV y u) :
 KT H (aZ.map fun kv=>if kv.1=k then(kv.1,y) else kv) (xs.map (putAt k u)):=by
 induction r with
 |nil=>exact .nil
 |@cons p q ps qs h t ih =>
  rw[map_cons,map_cons]
  refine .cons ?_ ih
  obtain⟨h1,h2,h3⟩:=h
  unfold putAt
  by_cases e:p.1=k
  ·rw[iPp e,iPp (h1.symm.trans e)];exact⟨h1,h2,ry⟩
  ·rw[IN e,IN (fun z=>e (h1.trans z))];exact⟨h1,h2,h3⟩
theorem KT.put {H:Hp} {aZ:List (List Key×V)} {xs:List (List Key×Addr×Value)} (r:KT H aZ xs) (k:List Key) {b:Addr} {y:V} {u:Value} (hb:H b=some (.tup (k.map kV))) (ry:RelV y u) :
 KT H (putK aZ k y) (storedH xs k b u):=by
 have e:(aZ.any fun kv=>decide (kv.1=k))=(atKey xs k).isSome:=by
  rw[um,(r.val k).nB,isSome_map]
 unfold putK storedH
 rw[e]
 by_cases q:(atKey xs k).isSome=true
 ·rw[iPp q,iPp q];exact r.aaV k ry
 ·rw[IN q,IN q];exact Paired.snoc r ⟨rfl,hb,ry⟩
theorem KT.keeps {H H':Hp} {aZ:List (List Key×V)} {xs:List (List Key×Addr×Value)} (r:KT H aZ xs) (ht:∀b ys,H b=some (.tup ys)→H' b=some (.tup ys)):KT H' aZ xs :=
 Paired.ud r fun _ _ z=>⟨z.1,ht _ _ z.2.1,z.2.2⟩
section
variable {P:Program} {w:World} {H:Hp} {h:Heap} {a:Addr}
theorem Zq {u:HO} (ok:t9 P w H h) (e:Rd H a u):eZ P w H h a u:=e.ok ok
theorem JN {aZ:List (Key×V)} (ok:t9 P w H h) (e:Rd H a (.dK aZ)):aZ.length≤sizeLine∧(a==sysModules)=false∧∃vs,KV aZ vs∧h.DictOf (cp P w) a vs :=
 show eZ P w H h a (.dK aZ) from Zq ok e
theorem Zr {aZ:List (Key×V)} (ok:t9 P w H h) (e:H a=some (.dK aZ)):aZ.length≤sizeLine∧(a==sysModules)=false∧∃vs,KV aZ vs∧h.DictOf (cp P w) a vs:=JN ok (.inl e)
theorem FI {ks:List Key} (ok:t9 P w H h) (e:H a=some (.tup (ks.map kV))):(tupleKind (cp P w)).is h ks a:=by
 obtain⟨_,bu,r,o,h1,h2,n,h3⟩:=(show eZ P w H h a (.tup (ks.map kV)) from ok a _ e)
 exact⟨o,bu.toArray,n,h1,h2,h3,by simpa using JM r⟩
theorem MO {aZ:List (List Key×V)} (ok:t9 P w H h) (e:Rd H a (.dT aZ)):aZ.length≤sizeLine∧(a==sysModules)=false ∧
 ∃xs,KT H aZ xs∧h.DictOfH (tupleKind (cp P w)) a xs:=by
 obtain⟨z,y,xs,r,o,es,ep,h1,h2,h3,h4,h5⟩:=(show eZ P w H h a (.dT aZ) from Zq ok e)
 refine⟨z,y,xs,r,o,es,ep,h1,h2,h3,h4,fun x hx=>?_,h5⟩
 have all:∀{l:List (List Key×V)} {m:List (List Key×Addr×Value)},KT H l m→∀x∈m,(tupleKind (cp P w)).is h x.1 x.2.1:=by
  intro l m q
  induction q with
  |nil=>intro x hx;exact nomatch hx
  |@cons p q ps qs hq t ih =>
   intro x hx
   rcases mem_cons.mp hx with e|hx
   ·subst e
    exact FI ok (by rw[←hq.1];exact hq.2.1)
   ·exact ih x hx
 exact all r x hx
theorem Zs {aZ:List (List Key×V)} (ok:t9 P w H h) (e:H a=some (.dT aZ)):aZ.length≤sizeLine∧(a==sysModules)=false ∧
 ∃xs,KT H aZ xs∧h.DictOfH (tupleKind (cp P w)) a xs:=MO ok (.inl e)
end
def wM (H:Hp) (a:Addr) (y:V) (r:Option V):Prop :=
 (∃aZ k,Rd H a (.dK aZ)∧y=kV k∧r=jt aZ k)∨∃aZ k b,Rd H a (.dT aZ)∧y = .ref b∧H b=some (.tup (k.map kV))∧r=jt aZ k
def MP (H:Hp) (a:Addr) (y v:V) (H':Hp):Prop :=
 (∃aZ k,H a=some (.dK aZ)∧y=kV k∧aZ.length<sizeLine∧H'=upd H a (.dK (putK aZ k v))) ∨
 ∃aZ k b,H a=some (.dT aZ)∧y = .ref b∧H b=some (.tup (k.map kV))∧aZ.length<sizeLine∧H'=upd H a (.dT (putK aZ k v))
theorem wM.k {H:Hp} {a:Addr} {aZ:List (Key×V)} {k:Key} (e:H a=some (.dK aZ)):wM H a (kV k) (jt aZ k):=.inl ⟨aZ,k,.inl e,rfl,rfl⟩
theorem wM.t {H:Hp} {a b:Addr} {aZ:List (List Key×V)} {k:List Key} (e:H a=some (.dT aZ)) (eb:H b=some (.tup (k.map kV))):wM H a (.ref b) (jt aZ k):=.inr ⟨aZ,k,b,.inl e,rfl,eb,rfl⟩
theorem MP.k {H:Hp} {a:Addr} {aZ:List (Key×V)} {k:Key} {v:V} (e:H a=some (.dK aZ)) (hl:aZ.length<sizeLine):MP H a (kV k) v (upd H a (.dK (putK aZ k v))):=.inl ⟨aZ,k,e,rfl,hl,rfl⟩
theorem MP.t {H:Hp} {a b:Addr} {aZ:List (List Key×V)} {k:List Key} {v:V} (e:H a=some (.dT aZ)) (eb:H b=some (.tup (k.map kV))) (hl:aZ.length<sizeLine) :
 MP H a (.ref b) v (upd H a (.dT (putK aZ k v))):=.inr ⟨aZ,k,b,e,rfl,eb,hl,rfl⟩
section
variable {X:Cx} {pp:List (Addr×Obj)} {σ:St} {H:Hp} {s:Shared} {a:Addr} {y v:V} {u r:Value} {o:Option V} {A:Around} {E:Value→Shared→Prop}
theorem Inv.big (I:Inv X pp σ H s):sysModules<s.heap.objs.size:=by
 have h:mainGlobals<s.heap.objs.size:=(I.mod.glob.keeps I.bk).lt
 exact lt_trans (by decide) h
theorem Sm {Q:Value→Shared→Prop} (hu:A.units+1<cLine) (I:Inv X pp σ H s) (g:wM H a y (some v)) (ry:RelV y u) (h:∀w' s',Inv X pp σ H s'→RelV v w'→Q w' s') :
 wpAny (model X.prog X.w) A (getItem (.ref a) u) Q E s:=by
 rcases g with⟨aZ,k,e,ey,l⟩|⟨aZ,k,b,e,ey,eb,l⟩
 ·subst ey
  obtain⟨z,hd,vs,rel,dd⟩:=JN I.cG e
  obtain⟨w',hw,Uv⟩:=uc.some_of (v:=v) (o:=valueAt vs k) (by rw[l];exact rel.val k)
  exact wpAny_getItem_of (Ae ry) dd.mapOf hw (h w' _ (I.tok _) Uv)
 ·subst ey
  cases(show u=Value.ref b from ry)
  obtain⟨z,hd,xs,rel,dd⟩:=MO I.cG e
  obtain⟨w',hw,Uv⟩:=uc.some_of (v:=v) (o:=(atKey xs k).map (·.2)) (by rw[l];exact rel.val k)
  obtain⟨p,hp,hp2⟩:=oMm hw
  refine wpAny_getItem_heap (tupleKind_room_in1 hu) (FI I.cG eb) dd hp ?_
  rw[hp2]
  exact h w' _ (I.tok _) Uv
theorem aht {Q:Value→Shared→Prop} (hu:A.units+1<cLine) (I:Inv X pp σ H s) (g:wM H a y o) (ry:RelV y u) (h:∀s',Inv X pp σ H s'→Q (.bool o.isSome) s') :
 wpAny (model X.prog X.w) A (compareOp .In u (.ref a)) Q E s:=by
 rcases g with⟨aZ,k,e,ey,l⟩|⟨aZ,k,b,e,ey,eb,l⟩
 ·subst ey
  obtain⟨z,hd,vs,rel,dd⟩:=JN I.cG e
  refine wpAny_in_of (Ae ry) hd dd.mapOf ?_
  rw[←(rel.val k).nB,←l]
  exact h _ (I.tok _)
 ·subst ey
  cases(show u=Value.ref b from ry)
  obtain⟨z,hd,xs,rel,dd⟩:=MO I.cG e
  refine wpAny_in_heap (tupleKind_room_in1 hu) (FI I.cG eb) hd dd ?_
  have q:=(rel.val k).nB
  rw[isSome_map]at q
  rw[←q,←l]
  exact h _ (I.tok _)
theorem Xu {Q:Value→Shared→Prop} (hu:A.units+1<cLine) (I:Inv X pp σ H s) (g:wM H a y o) (ry:RelV y u) (h:∀s',Inv X pp σ H s'→Q (.bool (!o.isSome)) s') :
 wpAny (model X.prog X.w) A (compareOp .NotIn u (.ref a)) Q E s:=by
 rcases g with⟨aZ,k,e,ey,l⟩|⟨aZ,k,b,e,ey,eb,l⟩
 ·subst ey
  obtain⟨z,hd,vs,rel,dd⟩:=JN I.cG e
  refine wpAny_notIn_of (Ae ry) hd dd.mapOf ?_
  rw[←(rel.val k).nB,←l]
  exact h _ (I.tok _)
 ·subst ey
  cases(show u=Value.ref b from ry)
  obtain⟨z,hd,xs,rel,dd⟩:=MO I.cG e
  refine wpAny_notIn_heap (tupleKind_room_in1 hu) (FI I.cG eb) hd dd ?_
  have q:=(rel.val k).nB
  rw[isSome_map]at q
  rw[←q,←l]
  exact h _ (I.tok _)
theorem KQ {h':Heap} {t':Nat} {ob:HO} (I:Inv X pp σ H s) (mu:Mut (H a)) (hs:Heap.SameBut a s.heap h') (he:∃q,h'.get? a=some q) (new:eZ X.prog X.w (upd H a ob) h' a ob) :
 Inv X pp σ (upd H a ob) {s with heap:=h',toks:=t'} :=
 I.write (x:=a) (e:=a) mu (.inl rfl) (fun b q hb z=>(hs.2 b hb).trans z) he new
theorem UJ {P:Program} {w:World} {H':Hp} {h':Heap} {aZ:List (Key×V)} {vs:List (Key×Value)} (z:aZ.length≤sizeLine) (hd:(a==sysModules)=false) (rel:KV aZ vs) (dd:h'.DictOf (cp P w) a vs) :
 eZ P w H' h' a (.dK aZ):=⟨z,hd,vs,rel,dd⟩
theorem Sn {H':Hp} {Q:Unit→Shared→Prop} (hu:A.units+1<cLine) (I:Inv X pp σ H s) (g:MP H a y v H') (ry:RelV y u) (rv:RelV v r) (h:∀s',Inv X pp σ H' s'→Q () s') :
 wpAny (model X.prog X.w) A (setItem (.ref a) u r) Q E s:=by
 rcases g with⟨aZ,k,e,ey,l,eH⟩|⟨aZ,k,b,e,ey,eb,l,eH⟩
 ·subst ey eH
  obtain⟨z,hd,vs,rel,dd⟩:=Zr I.cG e
  have hz:vs.length≤sizeLine:=by rw[←rel.length];exact z
  have hl:(putK aZ k v).length≤sizeLine:=by have:=uo aZ k v;lia
  refine wpAny_setItem_pairs (hsz:=hz) (Ae ry) dd fun h' dd' hs=>h _ ?_
  have he:∃q,h'.get? a=some q:=let⟨q,_,_,hq,_⟩:=dd';⟨q,hq⟩
  exact KQ I (by rw[e];exact True.intro) hs he (UJ hl hd (rel.put k rv) dd')
 ·subst ey eH
  cases(show u=Value.ref b from ry)
  obtain⟨z,hd,xs,rel,dd⟩:=Zs I.cG e
  have hz:xs.length≤sizeLine:=by rw[←Paired.length rel];exact z
  have hl:(putK aZ k v).length≤sizeLine:=by have:=uo aZ k v;lia
  refine wpAny_setItem_heap (hsz:=hz) (tupleKind_room_in1 hu) (FI I.cG eb) dd fun h' dd' hs=>h _ ?_
  obtain⟨q,es,ep,hq,h2,h3,h4,_,h5⟩:=dd'
  refine KQ I (by rw[e];exact True.intro) hs ⟨q,hq⟩ ⟨hl,hd,_,(rel.put k eb rv).keeps fun c ys ec=>?_,q,es,ep,hq,h2,h3,h4,h5⟩
  rw[aj (cS ec e (fun z=>nomatch z))]
  exact ec
end
section
variable {X:Cx} {pp:List (Addr×Obj)} {σ:St} {H:Hp} {s:Shared} {a:Addr} {aZ:List (Key×V)} {k:Key} {u:Value} {A:Around} {E:Value→Shared→Prop}
theorem adW {Q:Value→Shared→Prop} (I:Inv X pp σ H s) (e:Rd H a (.dK aZ)) (h:∀t s',Inv X pp σ H s'→Q (.int aZ.length t) s'):wpAny (model X.prog X.w) A (call (.builtin "len") [.ref a]) Q E s:=by
 obtain⟨z,hd,vs,rel,dd⟩:=JN I.cG e
 refine call_len_dict hd dd (by rw[←rel.length];rw[sizeLine_eq]at z;lia) ?_
 rw[←rel.length]
 exact h _ _ (I.tok _)
end
def aaX (i:Expr):Prop:=∀ov iv,subscripted i false ov iv=operate [ov,iv] (getItem ov iv)
theorem Q8 {prog:Program} {w:World} {A:Around} {E:Value→Shared→Prop} {s:Shared} {env:Env} {value slice:Expr} {pos:Pos} {T id:String} {Q:Value→Shared→Prop}
 (hl:typeLookup (.type T) "__getitem__" = pure (some (.builtin id))) (hs:aaX slice)
 (h:wpAny (model prog w) A (eval value env) (fun o s₁=>wpAny (model prog w) A (eval slice env) (fun i s₂=>s₂.TypeIs o T∧wpAny (model prog w) A (getItem o i) Q E s₂) E s₁) E s) :
 wpAny (model prog w) A (eval (.Subscript value slice pos) env) Q E s:=by
 refine Subscript_ (wpAny_mono h (fun o s₁ h₁=>wpAny_mono h₁ (fun i s₂ h₂=>?_) fun _ _ x=>x) fun _ _ x=>x)
 obtain⟨hT,h₂⟩:=h₂
 unfold subscriptTail
 refine wpAny_bind ?_
 rw[getitemInPython_of_ne hT.not_modules]
 refine wpAny_bind (wpAny_specialOf hT hl ?_)
 have fin:wpAny (model prog w) A (subscripted slice false o i) (fun r s₃=>wpAny (model prog w) A (letTemporaryGo value o r >>= fun _=>pure r) Q E s₃) E s₂:=by
  rw[hs o i]
  exact wpAny_operating (wpAny_mono h₂ (fun r s₃ h₃=>wpAny_bind (wpAny_letTemporaryGo (wpAny_pure h₃))) fun _ _ x=>x)
 first
  |exact wpAny_pure (wpAny_bind fin)
  |exact wpAny_bind (wpAny_pure (wpAny_bind fin))
  |exact wpAny_bind fin
theorem MQ {X:Cx} {pp:List (Addr×Obj)} {σ:St} {H:Hp} {s:Shared} {a:Addr} {y:V} {o:Option V} (I:Inv X pp σ H s) (g:wM H a y o):s.TypeIs (.ref a) "dict":=by
 rcases g with⟨aZ,k,e,_,_⟩|⟨aZ,k,b,e,_,_,_⟩
 ·obtain⟨_,_,vs,_,dd⟩:=JN I.cG e
  exact dd.typeIs
 ·obtain⟨_,_,xs,_,dd⟩:=MO I.cG e
  exact dd.typeIs
def adX (td ty:TE):TE:=fun σ H Q=>td σ H fun x H1=>ty σ H1 fun y H2=>∃a v,x = .ref a∧wM H2 a y (some v)∧Q v H2
def ahu (ty td:TE):TE:=fun σ H Q=>ty σ H fun y H1=>td σ H1 fun x H2=>∃a o,x = .ref a∧wM H2 a y o∧Q (.bl o.isSome) H2
def Xv (ty td:TE):TE:=fun σ H Q=>ty σ H fun y H1=>td σ H1 fun x H2=>∃a o,x = .ref a∧wM H2 a y o∧Q (.bl (!o.isSome)) H2
def adY (td ty tv:TE):TS:=fun D σ H=>tv σ H fun v H1=>td σ H1 fun x H2=>ty σ H2 fun y H3=>∃a H4,x = .ref a∧MP H3 a y v H4∧D.nx σ H4
section
variable {X:Cx} {o i e value:Expr} {pos pos' Si:Pos} {td ty tv:TE}
theorem Xw (hu:X.A.units+1<cLine) (ho:PE X o td) (hi:PE X i ty) (hs:aaX i):PE X (.Subscript o i pos) (adX td ty):=by
 intro pp s σ H Q I h
 refine Q8 F.slot_dict_getitem.lookup hs (dq (ho pp s σ H _ I h) fun u s1 ⟨x,H1,I1,rx,q1⟩=>dq (hi pp s1 σ H1 _ I1 q1) fun iv s2 ⟨y,H2,I2,ry,a,v,ex,g,q2⟩=>?_)
 subst ex
 obtain rfl:u=Value.ref a:=rx
 exact⟨MQ I2 g,Sm hu I2 g ry fun w' s3 I3 Uv=>⟨v,H2,I3,Uv,q2⟩⟩
theorem aaY (hu:X.A.units+1<cLine) (hi:PE X i ty) (ho:PE X o td):PC X .In i o (ahu ty td):=by
 intro pp s σ H Q I h
 refine dq (hi pp s σ H _ I h) fun iv s1 ⟨y,H1,I1,ry,q1⟩=>dq (ho pp s1 σ H1 _ I1 q1) fun u s2 ⟨x,H2,I2,rx,a,ov,ex,g,q2⟩=>?_
 subst ex
 obtain rfl:u=Value.ref a:=rx
 exact aht hu I2 g ry fun s3 I3=>⟨.bl ov.isSome,H2,I3,rfl,q2⟩
theorem B3 (hu:X.A.units+1<cLine) (hi:PE X i ty) (ho:PE X o td):PC X .NotIn i o (Xv ty td):=by
 intro pp s σ H Q I h
 refine dq (hi pp s σ H _ I h) fun iv s1 ⟨y,H1,I1,ry,q1⟩=>dq (ho pp s1 σ H1 _ I1 q1) fun u s2 ⟨x,H2,I2,rx,a,ov,ex,g,q2⟩=>?_
 subst ex
 obtain rfl:u=Value.ref a:=rx
 exact Xu hu I2 g ry fun s3 I3=>⟨.bl (!ov.isSome),H2,I3,rfl,q2⟩
theorem Q9 (hu:X.A.units+1<cLine) (ho:PE X o td) (hi:PE X i ty) (hv:PE X value tv) (hs:swapsWith value (some (.Subscript o i pos')) pos.line X.env=pure false) :
 PS X (.Assign [.Subscript o i pos'] value pos) (adY td ty tv):=by
 intro pp s σ H D I h
 refine wpAny_Assign_Subscript (dq (hv pp s σ H _ I h) fun r s1 ⟨v,H1,I1,rv,q1⟩=>dq (ho pp s1 σ H1 _ I1 q1) fun u s2 ⟨x,H2,I2,rx,q2⟩=>dq (hi pp s2 σ H2 _ I2 q2) fun iv s3 ⟨y,H3,I3,ry,a,H4,ex,g,q3⟩=>?_) hs
 subst ex
 obtain rfl:u=Value.ref a:=rx
 exact Sn hu I3 g ry rv fun s4 I4=>⟨σ,H4,I4,q3⟩
end
theorem UK {P:Program} {w:World} {H:Hp} (h:Heap) (hb:sysModules<h.objs.size):eZ P w H (h.push {cls:=.type "dict",data:=.dict #[]}) h.objs.size (.dK []) :=
 ⟨zero_le _,beq_eq_false_iff_ne.mpr (Ne.symm (ne_of_lt hb)),[],.nil,Heap.DictOf.new h⟩
theorem UL {P:Program} {w:World} {H:Hp} (h:Heap) (hb:sysModules<h.objs.size):eZ P w H (h.push {cls:=.type "dict",data:=.dict #[]}) h.objs.size (.dT []) :=
 ⟨zero_le _,beq_eq_false_iff_ne.mpr (Ne.symm (ne_of_lt hb)),[],.nil,_,#[],0,Heap.get?_push_size _ rfl,⟨rfl,rfl,rfl⟩,rfl,rfl,List.nodup_nil⟩
def aaZ:TE:=fun _ H Q=>∀p,H p=none→Q (.ref p) (upd H p (.dT []))
section
variable {X:Cx} {pos:Pos}
theorem UM:PE X (.Dict [] [] pos) aaZ:=fun pp s σ H Q I h =>
 wpAny_Dict_empty ⟨.ref s.heap.objs.size,_,I.laid (a:=s.heap.objs.size) (o:=.dT []) (t':=s.toks) (fun _ _ q=>Heap.get?_push_of_some _ q) (le_refl _) (UL s.heap I.big),rfl,h _ (I.cG.fresh (le_refl _))⟩
end
def O3:List (TE×TE)→St→Hp→(List (V×V)→Hp→Prop)→Prop
 | [],_,H,Q=>Q [] H
 |(tk,tv)::r,σ,H,Q=>tk σ H fun x H1=>tv σ H1 fun y H2=>O3 r σ H2 fun ps H3=>Q ((x,y)::ps) H3
abbrev VV:List (V×V)→List (Value×Value)→Prop:=Paired fun p q=>RelV p.1 q.1∧RelV p.2 q.2
def PPs (X:Cx) (pos:Pos) (keys:List (Option Expr)) (values:List Expr) (Xx:List (TE×TE)):Prop :=
 ∀(pp:List (Addr×Obj)) (s:Shared) (σ:St) (H:Hp) (Q:List (V×V)→Hp→Prop),Inv X pp σ H s→O3 Xx σ H Q →
  wpAny (model X.prog X.w) X.A (evalPairs (pairTrees keys values X.env pos)) (fun vs s'=>∃ps H',Inv X pp σ H' s'∧VV ps vs∧Q ps H') X.xe s
theorem Xy {X:Cx} {pos:Pos}:PPs X pos [] [] []:=fun pp s σ H Q I h=>pairTrees_nil_walk ⟨[],H,I,.nil,h⟩
theorem UN {X:Cx} {pos:Pos} {k v:Expr} {ks:List (Option Expr)} {vs:List Expr} {tk tv:TE} {Xx:List (TE×TE)} (hk:PE X k tk) (hv:PE X v tv) (hr:PPs X pos ks vs Xx) :
 PPs X pos (some k::ks) (v::vs) ((tk,tv)::Xx):=fun pp s σ H Q I h =>
 pairTrees_cons_walk (dq (hk pp s σ H _ I h) fun u s1 ⟨x,H1,I1,rx,q1⟩=>dq (hv pp s1 σ H1 _ I1 q1) fun w2 s2 ⟨y,H2,I2,ry,q2⟩ =>
  dq (hr pp s2 σ H2 _ I2 q2) fun ws s3 ⟨ps,H3,I3,rel,q3⟩=>⟨(x,y)::ps,H3,I3,.cons ⟨rx,ry⟩ rel,q3⟩)
def kS (aZ more:List (Key×V)):List (Key×V):=more.foldl (fun acc kv=>putK acc kv.1 kv.2) aZ
theorem KV.merge:∀{more:List (Key×V)} {rs:List (Key×Value)} {aZ:List (Key×V)} {vs:List (Key×Value)},KV more rs→KV aZ vs→KV (kS aZ more) (merged vs rs):=by
 intro more rs aZ vs r
 unfold KV at r
 induction r generalizing aZ vs with
 |nil=>intro q;exact q
 |@cons p q ps qs h t ih =>
  intro r0
  have e:KV (putK aZ p.1 p.2) (stored vs q.1 q.2):=by
   have:=r0.put p.1 h.2
   rw[←h.1];exact this
  exact ih e
theorem pQ:∀(more aZ:List (Key×V)),(kS aZ more).length≤aZ.length+more.length
 | [],aZ=>by show aZ.length≤aZ.length+0;lia
 |p::r,aZ=>by
  have h1:=pQ r (putK aZ p.1 p.2)
  have h2:=uo aZ p.1 p.2
  show(kS (putK aZ p.1 p.2) r).length≤_
  rw[length_cons];lia
theorem FJ {P:Program} {w:World}:∀{aZ:List (Key×V)} {ws:List (Value×Value)},VV (aZ.map fun kv=>(kV kv.1,kv.2)) ws→∃rs,Carries (cp P w) ws rs∧KV aZ rs
 | [],_,r=>by rw[map_nil]at r;cases r;exact⟨[],True.intro,.nil⟩
 |p::aZ,_,r=>by
  rw[map_cons]at r
  cases r with
  |@cons a b as bs h t =>
   obtain⟨rs,c,q⟩:=FJ (P:=P) (w:=w) t
   obtain⟨b1,b2⟩:=b
   exact⟨(p.1,b2)::rs,⟨Ae h.1,rfl,c⟩,.cons ⟨rfl,h.2⟩ q⟩
def adZ (Xx:List (TE×TE)):TE:=fun σ H Q=>∀p,H p=none→O3 Xx σ (upd H p (.dK [])) fun ps H2=>H2 p=some (.dK [])∧∃aZ:List (Key×V),ps=aZ.map (fun kv=>(kV kv.1,kv.2))∧aZ.length≤15∧Q (.ref p) (upd H2 p (.dK (kS [] aZ)))
theorem Xz {X:Cx} {pos:Pos} {keys:List (Option Expr)} {values:List Expr} {Xx:List (TE×TE)} (h:PPs X pos keys values Xx) (MR:keys.all (·.isSome)=true) (hl:keys.length=values.length) (h0:keys≠[])
 (h15:keys.length≤15):PE X (.Dict keys values pos) (adZ Xx):=by
 intro pp s σ H Q I q
 have hn:=I.cG.fresh (le_refl s.heap.objs.size)
 have I1:=I.laid (a:=s.heap.objs.size) (o:=.dK []) (h':=s.heap.push {cls:=.type "dict",data:=.dict #[]}) (t':=s.toks) (fun _ _ q=>Heap.get?_push_of_some _ q) (le_refl _) (UK s.heap I.big)
 refine wpAny_Dict_walk (knd:=cp X.prog X.w) MR hl h0 h15 (dq (h pp _ σ _ _ I1 (q _ hn)) fun ws s2 ⟨ps,H2,I2,rel,e,aZ,ep,lk,q2⟩=>?_)
 subst ep
 obtain⟨rs,c,rk⟩:=FJ (P:=X.prog) (w:=X.w) rel
 obtain⟨z,hd,vs0,r0,dd⟩:=Zr I2.cG e
 cases r0
 refine⟨rs,c,dd,fun h' dd' hs=>⟨.ref s.heap.objs.size,_,?_,rfl,q2⟩⟩
 have hz:(kS [] aZ).length≤sizeLine:=by
  have h1:=pQ aZ []
  rw[length_nil]at h1
  rw[sizeLine_eq];lia
 have he:∃q,h'.get? s.heap.objs.size=some q:=let⟨q,_,_,hq,_⟩:=dd';⟨q,hq⟩
 exact KQ I2 (by rw[e];exact True.intro) hs he (UJ hz hd (rk.merge .nil) dd')
theorem MS:entryFor table "dict.update.loop" = some Builtin.«dict.update.loop»:=entryFor_of_tree (by kernel_rfl)
theorem uq:plainId "dict.update.loop" = true:=by decide +kernel
theorem FK:bootBuiltins "reversed" = some (.type "reversed"):=by decide +kernel
section
variable {X:Cx} {pp:List (Addr×Obj)} {σ:St} {H:Hp} {s:Shared} {h':Heap}
theorem Inv.XA {t':Nat} {ch:List Addr} (I:Inv X pp σ H s) (k:∀b o,b∉ch→s.heap.get? b=some o→h'.get? b=some o) (hf:∀b∈ch,yB X pp H b):Inv X pp σ H {s with heap:=h',toks:=t'}:=by
 have Zk:∀b u,H b=some u→b∉ch:=fun b u e z=>by
  have q:=(hf b z).1
  rw[q]at e;cases e
 refine I.step (g':=s.gens) (d':=s.drawn) (ch:=ch) (fun b hb=>⟨(hf b hb).2.2.2.1,(hf b hb).2.1,(hf b hb).2.2.2.2.1,(hf b hb).2.2.2.2.2⟩) (fun b o _ _ hc e _=>k b o hc e) (fun b o _ _ hc e _=>⟨o.slots,k b o hc e⟩)
  (fun _ _ _ _ n=>n) (fun b o hc e=>⟨o,k b o hc e⟩) (fun _ _ e=>e) (fun _ _ _ e=>e) (fun b ps e=>⟨#[],by rw[e];simp⟩) (fun m hm=>?_) (fun b u e=>?_) I.bare
 ·obtain⟨o,es,ep,ho,r⟩:=hm
  exact⟨o,es,ep,k _ o (fun z=>(hf _ z).2.1 rfl) ho,r⟩
 ·refine(I.cG b u e).My (fun c v hc q=>k c v ?_ q) (fun _ q=>q) fun _ _ q=>q
  rcases hc with z|z
  ·rw[z];exact Zk b u e
  ·exact Zk c _ z
theorem Inv.JO {t':Nat} {ch:List Addr} {T:Addr} {ob:HO} (I:Inv X pp σ H s) (k:∀b o,b∉ch→s.heap.get? b=some o→h'.get? b=some o) (hf:∀b∈ch,yB X pp H b) (hT:s.heap.objs.size≤T)
 (new:eZ X.prog X.w (upd H T ob) h' T ob):Inv X pp σ (upd H T ob) {s with heap:=h',toks:=t'}:=by
 have hn:H T=none:=I.cG.fresh hT
 have Zk:∀b u,H b=some u→b∉ch:=fun b u e z=>by
  have q:=(hf b z).1
  rw[q]at e;cases e
 refine I.step (g':=s.gens) (d':=s.drawn) (ch:=ch) (fun b hb=>⟨(hf b hb).2.2.2.1,(hf b hb).2.1,(hf b hb).2.2.2.2.1,(hf b hb).2.2.2.2.2⟩) (fun b o _ _ hc e _=>k b o hc e) (fun b o _ _ hc e _=>⟨o.slots,k b o hc e⟩)
  (fun b o _ e n=>?_) (fun b o hc e=>⟨o,k b o hc e⟩) (fun b xs e=>?_) (fun b o u e=>?_) (fun b ps e=>⟨#[],?_⟩) (fun m hm=>?_) (fun b u e=>?_) I.bare
 ·rw[aj (ne_of_lt (lt_of_lt_of_le (Heap.lt_size e) hT))];exact n
 ·rw[aj (aq e hn)];exact e
 ·rw[aj (aq e hn)];exact e
 ·rw[aj (aq e hn),e];simp
 ·obtain⟨o,es,ep,ho,r⟩:=hm
  exact⟨o,es,ep,k _ o (fun z=>(hf _ z).2.1 rfl) ho,r⟩
 ·by_cases hb:b=T
  ·subst hb
   rw[af]at e
   cases e
   exact new
  ·rw[aj hb]at e
   refine(I.cG b u e).My (fun c v hc q=>k c v ?_ q) (fun c q=>by rw[aj (aq q hn)];exact q) fun c xs q=>by rw[aj (aq q hn)];exact q
   rcases hc with z|z
   ·rw[z];exact Zk b u e
   ·exact Zk c _ z
end
section
variable {X:Cx}
theorem aa0 {tg:Expr} {pp:List (Addr×Obj)} {σ:St} {H:Hp} {s:Shared} {R:It→Hp→Prop} {J:It} {tn:Nat→Heap→Prop} {tk:Nat} (I:Inv X pp σ H s) (o:Obj)
 (T:Turn X.prog X.w X.K tg J [s.heap.objs.size] s.heap.objs.size tn) (st:tn 0 (s.heap.push o)) (q:R J H):PIE X pp σ tg R (.ref s.heap.objs.size) {s with heap:=s.heap.push o,toks:=tk}:=by
 refine⟨s.heap.objs.size,[s.heap.objs.size],tn,J,H,rfl,I.kept fun b ob e=>Heap.get?_push_of_some _ e,T,st,fun b hb=>?_,q⟩
 have e:b=s.heap.objs.size:=by simpa using hb
 subst e
 exact I.MC (le_refl _) (I.cG.fresh (le_refl _))
end
def Itv (K:W.Frag) (a:Addr) (n:Nat):It :=
 ⟨fun i H=>i<n∧∃(xs:List V) (x:V),bP K H a xs∧xs[n-1-i]?=some x,fun i H x H'=>H'=H∧∀xs,bP K H a xs→xs[n-1-i]?=some x,fun i _=>n≤i⟩
theorem UO {P:Program} {w:World} {K:W.Frag} {tg:Expr} (a it:Addr) (n:Nat):Turn P w K tg (Itv K a n) [it] it (fun i h=>i≤n∧h.IsRevIter it a ((n:Int)-1-(i:Nat))) where
 mem:=by simp
 obj:=fun i h st b hb=>by
  have e:b=it:=by simpa using hb
  subst e
  obtain⟨_,o,e,c,d⟩:=st
  exact⟨o,e,fun v z=>by rw[d]at z;cases z⟩
 keep:=fun i h h' st k=>⟨st.1,st.2.at fun o e=>k it (by simp) o e⟩
 item:=by
  intro X hP hw hK hc i pp s σ H E I hf st hg
  subst hP hw hK
  obtain⟨UP,xs,x,hq,hx⟩:=hg
  obtain⟨bu,rv,p,hz⟩:=I.list hq
  obtain⟨u,hu,ru⟩:=rv.get hx
  obtain⟨f0,f1,f2,f3,f4,f5⟩:=hf it (by simp)
  obtain⟨_,hit⟩:=st
  have e1:(n:Int)-1-((i:Nat):Int)=((n-1-i:Nat):Int):=by lia
  rw[e1]at hit
  refine wpAny_pyNext_rev_item hit p.isList (x:=u) (by simpa using hu) fun h' KG sb=>?_
  have e2:((n-1-i:Nat):Int)-1=(n:Int)-1-((i+1:Nat):Int):=by lia
  rw[e2]at KG
  have I1:Inv X pp σ H {s with heap:=h'}:=I.turned (t':=s.toks) (fun b o hb e=>(sb.2 b hb).trans e) f0 f1 f3 f4 f5
  obtain⟨o,e,c,d⟩:=id KG
  exact⟨u,rfl,QW (s:={s with heap:=h'}) e c d (by decide) ⟨x,H,I1,ru,⟨rfl,fun ys hy=>by rw[I.zT hy hq];exact hx⟩,⟨UP,KG⟩,fun b hb=>(hf b hb).1⟩⟩
 done:=by
  intro X hP hw hK hc i pp s σ H E I hf st hg
  subst hP hw hK
  obtain⟨f0,f1,f2,f3,f4,f5⟩:=hf it (by simp)
  obtain⟨UP,hit⟩:=st
  have hge:n≤i:=hg
  have e1:(n:Int)-1-((i:Nat):Int) = -1:=by lia
  rw[e1]at hit
  exact wpAny_pyNext_rev_end (I.ok.hd hc) hit fun h' eb=>⟨rfl,I.turned (t':=s.toks) (fun b o hb e=>eb b o hb e) f0 f1 f3 f4 f5⟩
 self:=fun A i s Q E st h=>wpAny_pyIter_revIter st.2 h
def ahv (K:W.Frag) (ta:TA):TI:=fun σ H R=>ta σ H fun vs H1=>∃(a:Addr) (xs:List V),vs=[.ref a]∧bP K H1 a xs∧R (Itv K a xs.length) H1
section
variable {X:Cx} {tg:Expr}
theorem Dm {e:Expr} {ta:TA} {p pos:Pos} (hg:Gl X "reversed") (hm:X.mg "reversed" = none) (ha:PA X [e] ta) (hs:starEach [e] X.env=[(false,eval e X.env)]:=by rfl):PI X tg (.Call (.Name "reversed" p) [e] [] pos) (ahv X.K ta):=by
 intro pp s σ H R I h
 refine Call_ (rB I hg hm FK (PyProof.Rows.callWith_type1 (dq (ha pos pp s σ H _ I h) fun us s1 ⟨vs,H1,I1,r1,q1⟩=>?_) hs rfl))
 obtain⟨a,xs,e,hq,q⟩:=q1
 subst e
 cases r1 with
 |cons r rr =>
  cases rr
  cases r
  obtain⟨bu,rv,p',hz⟩:=I1.list hq
  have hl:=rv.length
  have e1:((bu.toArray.size:Nat):Int)-1=(xs.length:Int)-1-((0:Nat):Int):=by simp only[size_toArray];lia
  refine call_reversed_list p'.isList (wpAny_pyIter_revIter (l:=a) (i:=((bu.toArray.size:Nat):Int)-1) ⟨_,Heap.get?_push_size _ rfl,rfl,rfl⟩ ?_)
  refine aa0 (tk:=s1.toks) I1 _ (UO a _ xs.length) ⟨zero_le _,?_⟩ q
  rw[←e1]
  exact⟨_,Heap.get?_push_size _ rfl,rfl,rfl⟩
end
theorem JP:bootBuiltins "zip" = some (.type "zip"):=by decide +kernel
def Itz (K:W.Frag) (a b:Addr):It :=
 ⟨fun i H=>∃(xs ys:List V) (x y:V),bP K H a xs∧bP K H b ys∧xs[i]?=some x∧ys[i]?=some y,
  fun i H v H'=>∃T x y,v = .ref T∧H T=none∧H'=upd H T (.tup [x,y])∧(∀xs,bP K H a xs→xs[i]?=some x)∧∀ys,bP K H b ys→ys[i]?=some y,
  fun i H=>∃xs ys:List V,bP K H a xs∧bP K H b ys∧(xs.length≤i∨ys.length≤i)⟩
theorem UQ {P:Program} {w:World} {K:W.Frag} {elts:List Expr} {kk:Nat} {Si:Pos} {a b z TI TO i1 i2:Addr} (D:ZipApart z TI TO i1 i2 a b) :
 Turn P w K (.Tuple elts kk Si) (Itz K a b) [z,TI,TO,i1,i2] z (fun i h=>IsZip h z TI TO .none∧IsPair h TI (.ref i1) (.ref i2)∧(∃x y,IsPair h TO x y)∧h.IsListIter i1 a i∧h.IsListIter i2 b i) where
 mem:=by simp
 obj:=fun i h st c hc=>by
  obtain⟨hz,yD,⟨x,y,HQ⟩,⟨o1,e1,_,d1⟩,⟨o2,e2,_,d2⟩⟩:=st
  have e':c=z∨c=TI∨c=TO∨c=i1∨c=i2:=by simpa using hc
  rcases e' with q|q|q|q|q
  ·rw[q];exact⟨_,hz,fun v q=>nomatch q⟩
  ·rw[q];exact⟨_,yD,fun v q=>nomatch q⟩
  ·rw[q];exact⟨_,HQ,fun v q=>nomatch q⟩
  ·rw[q];exact⟨o1,e1,fun v q=>by rw[d1]at q;cases q⟩
  ·rw[q];exact⟨o2,e2,fun v q=>by rw[d2]at q;cases q⟩
 keep:=fun i h h' st k=>by
  obtain⟨hz,yD,⟨x,y,HQ⟩,h1,h2⟩:=st
  exact⟨k z (by simp) _ hz,k TI (by simp) _ yD,⟨x,y,k TO (by simp) _ HQ⟩,h1.at fun o q=>k i1 (by simp) o q,h2.at fun o q=>k i2 (by simp) o q⟩
 item:=by
  intro X hP hw hK hc i pp s σ H E I hf st hg
  subst hP hw hK
  obtain⟨hz,yD,⟨x0,y0,HQ⟩,h1,h2⟩:=st
  obtain⟨xs,ys,x,y,Zt,Zu,hx,hy⟩:=hg
  obtain⟨bu,rv,p,_⟩:=I.list Zt
  obtain⟨rE,rv2,p2,_⟩:=I.list Zu
  obtain⟨u,hu,ru⟩:=rv.get hx
  obtain⟨u2,hu2,ru2⟩:=rv2.get hy
  have hzl:z<s.heap.objs.size:=Heap.lt_size hz
  refine wpAny_pyNext_zip_item D hz yD HQ h1 h2 p.isList p2.isList (x:=u) (y:=u2) (by simpa using hu) (by simpa using hu2) fun h' z' TO' h1' h2' hT hsz hk=>?_
  refine⟨_,rfl,wpAny_letOwnedTupleGo_zip (s:={s with heap:=h'}) z' fun h'' z'' sb=>?_⟩
  have hT2:h''.get? s.heap.objs.size=some {cls:=.type "tuple",data:=.seq #[u,u2]}:=(sb.2 _ (ne_of_gt hzl)).trans hT
  have new:eZ X.prog X.w (upd H s.heap.objs.size (.tup [x,y])) h'' s.heap.objs.size (.tup [x,y]) :=
   ⟨by show 2≤sizeLine;decide,[u,u2],.cons ru (.cons ru2 .nil),⟨_,hT2,rfl,_,rfl⟩⟩
  have I1:Inv X pp σ (upd H s.heap.objs.size (.tup [x,y])) {s with heap:=h''} :=
   I.JO (t':=s.toks) (ch:=[z,TI,TO,i1,i2]) (fun c o hb q=>(sb.2 c (fun q'=>hb (by simp[q']))).trans (hk c o (fun q'=>hb (by simp[q'])) (fun q'=>hb (by simp[q'])) (fun q'=>hb (by simp[q'])) (fun q'=>hb (by simp[q'])) q)) hf (le_refl _) new
  refine⟨.ref s.heap.objs.size,_,I1,rfl,⟨_,x,y,rfl,I.cG.fresh (le_refl _),rfl,fun l hl=>by rw[I.zT hl Zt];exact hx,fun l hl=>by rw[I.zT hl Zu];exact hy⟩,⟨z'',?_,⟨u,u2,?_⟩,?_,?_⟩,fun c hcm=>?_⟩
  ·exact(sb.2 _ D.TIz).trans (hk _ _ D.TIz D.TITO D.TIi1 D.TIi2 yD)
  ·exact(sb.2 _ D.TOz).trans TO'
  ·exact h1'.at fun o q=>(sb.2 _ D.i1z).trans q
  ·exact h2'.at fun o q=>(sb.2 _ D.i2z).trans q
  ·have oU:c<s.heap.objs.size:=by
    have e':c=z∨c=TI∨c=TO∨c=i1∨c=i2:=by simpa using hcm
    rcases e' with q|q|q|q|q
    ·rw[q];exact hzl
    ·rw[q];exact Heap.lt_size yD
    ·rw[q];exact Heap.lt_size HQ
    ·rw[q];obtain⟨_,e1,_⟩:=h1;exact Heap.lt_size e1
    ·rw[q];obtain⟨_,e2,_⟩:=h2;exact Heap.lt_size e2
   rw[aj (ne_of_lt oU)]
   exact(hf c hcm).1
 done:=by
  intro X hP hw hK hc i pp s σ H E I hf st hg
  subst hP hw hK
  obtain⟨hz,yD,⟨x0,y0,HQ⟩,h1,h2⟩:=st
  obtain⟨xs,ys,Zt,Zu,So⟩:=hg
  obtain⟨bu,rv,p,_⟩:=I.list Zt
  obtain⟨rE,rv2,p2,_⟩:=I.list Zu
  have l1:=rv.length
  have l2:=rv2.length
  have he:bu.toArray[i]?=none∨rE.toArray[i]?=none:=by
   rcases So with q|q
   ·exact .inl (by simp;lia)
   ·exact .inr (by simp;lia)
  exact wpAny_pyNext_zip_end (I.ok.hd hc) D hz yD HQ h1 h2 p.isList p2.isList he fun h' hk=>⟨rfl,I.XA (t':=s.toks) (ch:=[z,TI,TO,i1,i2]) (fun c o hb q =>
   hk c o (fun q'=>hb (by simp[q'])) (fun q'=>hb (by simp[q'])) (fun q'=>hb (by simp[q'])) (fun q'=>hb (by simp[q'])) q) hf⟩
 self:=fun A i s Q E st h=>wpAny_pyIter_zip st.1 h
def ahw (K:W.Frag) (ta:TA):TI:=fun σ H R=>ta σ H fun vs H1=>∃a b xs ys,vs=[.ref a,.ref b]∧bP K H1 a xs∧bP K H1 b ys∧R (Itz K a b) H1
theorem aa3 {X:Cx} {e e2:Expr} {ta:TA} {p pos Si:Pos} {elts:List Expr} {kk:Nat} (hg:Gl X "zip") (hm:X.mg "zip" = none) (ha:PA X [e,e2] ta)
 (hs:starEach [e,e2] X.env=(false,eval e X.env)::starEach [e2] X.env:=by rfl) (oM:(backTo pos (starEach [e2] X.env)).any (·.1)=false:=by rfl) :
 PI X (.Tuple elts kk Si) (.Call (.Name "zip" p) [e,e2] [] pos) (ahw X.K ta):=by
 intro pp s σ H R I h
 refine Call_ (rB I hg hm JP (PyProof.Rows.callWith_type1 (dq (ha pos pp s σ H _ I h) fun us s1 ⟨vs,H1,I1,r1,q1⟩=>?_) hs oM))
 obtain⟨a,b,xs,ys,ex,Zt,Zu,q⟩:=q1
 subst ex
 cases r1 with
 |cons r rr =>
  cases rr with
  |cons r' rr =>
   cases rr
   cases r
   cases r'
   obtain⟨bu,rv,p1,_⟩:=I1.list Zt
   obtain⟨rE,rv2,p2,_⟩:=I1.list Zu
   have la:a<s1.heap.objs.size:=p1.lt
   have lb:b<s1.heap.objs.size:=p2.lt
   refine call_zip_2 p1.isList p2.isList fun h' hz yD HQ h1 h2 hsz hk=>wpAny_pyIter_zip hz ?_
   have I2:Inv X pp σ H1 {s1 with heap:=h'}:=I1.kept (t':=s1.toks) hk
   refine⟨s1.heap.objs.size+4,[s1.heap.objs.size+4,s1.heap.objs.size+2,s1.heap.objs.size+3,s1.heap.objs.size,s1.heap.objs.size+1],_,_,H1,rfl,I2,UQ (W.ktu_apart s1.heap.objs.size a b la lb),⟨hz,yD,⟨_,_,HQ⟩,h1,h2⟩,fun c hcm=>?_,q⟩
   have e':c=s1.heap.objs.size+4∨c=s1.heap.objs.size+2∨c=s1.heap.objs.size+3∨c=s1.heap.objs.size∨c=s1.heap.objs.size+1:=by simpa using hcm
   have hle:s1.heap.objs.size≤c:=by
    rcases e' with z|z|z|z|z
    ·rw[z];exact le_add_right _ _
    ·rw[z];exact le_add_right _ _
    ·rw[z];exact le_add_right _ _
    ·rw[z];exact le_refl _
    ·rw[z];exact le_add_right _ _
   exact I1.MC hle (I1.cG.fresh hle)
end L2
section
namespace Bits
open PySem PyProof.Rows
end Bits
end
section
namespace TL
open PySem PySem.Builtin PySem.Builtin.Str PySem.StrLaws
end TL
end
namespace L2
open PySem PySem.Spec PyProof.Rows
end L2
namespace Att
open PySem PySem.W PySem.Calls PyProof.Rows
theorem Ei {P:Params} {h:Heap}:∀(ns:List Int) (vs:List Value),WellAll P h vs (ns.map WData.int)→IntsAre vs ns:=by
 intro ns
 induction ns with
 |nil =>
  intro vs w
  rw[map_nil]at w
  cases w
  exact .nil
 |cons n ns ih =>
  intro vs w
  rw[map_cons]at w
  cases w with
  |cons a b =>
   cases a
   exact .cons _ _ (ih _ b)
end Att
namespace L2
open PySem PySem.Spec PyProof.Rows
theorem JQ:∀{vs:List Value} {ns:List Int},IntsAre vs ns→Vals (ns.map V.int) vs
 |_,_,.nil=>.nil
 |_,_,.cons n t h=>.cons ⟨t,rfl⟩ (JQ h)
def aa4 (H:Hp):Prop:=∀b,H b=none∨∃o xs,H b=some (.T7 o (.lst xs))
def inClass (s:Stmt) (j:Nat):Stmt:=match s with
 | .ClassDef _ _ _ body _ _ _ _ _ _ _=>body.getD j (.Pass ⟨0,0,0,0⟩)
 |_=>.Pass ⟨0,0,0,0⟩
def gZ (s:Stmt):Arguments:=match s with
 | .FunctionDef _ a _ _ _ _ _ _ _ _=>a
 |_=>{posonlyargs:=[],args:=[],vararg:=none,kwonlyargs:=[],kw_defaults:=[],kwarg:=none,defaults:=[]}
def fQ (s:Stmt):List Stmt:=match s with
 | .FunctionDef _ _ b _ _ _ _ _ _ _=>b
 |_=>[]
def ao (s:Stmt):Scope:=match s with
 | .FunctionDef _ _ _ _ _ _ sc _ _ _=>sc
 |_=>{kind:=.function,names:=[],isGenerator:=false,isCoroutine:=false}
structure Fun (K:W.Frag) (x qual:Str) (st:Stmt) (f:Addr) (fd:FuncData):Prop where
 ex:∃(oc:Value) (od:Option Addr) (kV doc pm:Value) (an:Option Addr) (b6 ct:Value) (JI:Array (Option Value)),
  fd=W.fnOf x qual (gZ st) (fQ st) (ao st) .none kV doc pm an b6 ct∧K.lookup f=some ⟨oc,od,.func fd,JI⟩∧W.codeIn K b6 qual=true
 kp:W.keepIn K (.ref f)=true
section
variable {P:Program} {w:World} {K:W.Frag} {mg:Str→Option Value} {base:Heap}
theorem Fun.binds {x qual:Str} {st:Stmt} {f:Addr} {fd:FuncData} {ps:List Str} (F:Fun K x qual st f fd)
 (h:∀(kV doc pm:Value) (an:Option Addr) (b6 ct:Value) (us:List Value),us.length=ps.length→bindArgs (PySem.W.fnOf x qual (gZ st) (fQ st) (ao st) .none kV doc pm an b6 ct) ⟨us,[]⟩=pure (ps.zip us)):Binds K fd ps []:=by
 obtain⟨oc,od,kV,doc,pm,an,b6,ct,JI,rfl,lk,WK⟩:=F.ex
 exact .all (h kV doc pm an b6 ct)
theorem UR {x qual:Str} {st:Stmt} {f:Addr} {oc:Value} {od an:Option Addr} {JI:Array (Option Value)} {kV doc pm b6 ct:Value} (l:K.lookup f=some ⟨oc,od,.func (W.fnOf x qual (gZ st) (fQ st) (ao st) .none kV doc pm an b6 ct),JI⟩)
 (c:W.codeIn K b6 qual=true) (k:W.keepIn K (.ref f)=true):Fun K x qual st f (W.fnOf x qual (gZ st) (fQ st) (ao st) .none kV doc pm an b6 ct):=⟨⟨oc,od,kV,doc,pm,an,b6,ct,JI,rfl,l,c⟩,k⟩
end
theorem FL {A:Around} {k:Nat} (hr:ig k A):A.units+1<cLine:=lt_of_le_of_lt (Nat.add_le_add_left (by decide:1≤64) _) hr.units
section
variable {X:Cx}
theorem pv (i:Nat) {x:Str} {pos:Pos} (hN:X.N[i]?=some x:=by rfl) (hv:Vis X.env.scope x:=by first|exact Or.inl rfl|exact Or.inr (Or.inl rfl)|exact Or.inr (Or.inr rfl)) (hd:(x==("__debug__" : Str))=false:=by decide)
 (WK:(x==("__classdict__" : Str))=false:=by decide):PE X (.Name x pos) (zS i):=aao hN hv hd WK
theorem Sq:oV X (.builtin "len") (fun xs H Q=>∃a aZ,xs=[V.ref a]∧H a=some (.dK aZ)∧Q (.int aZ.length) H):=by
 intro pp s σ H xs us Q I r h
 obtain⟨a,aZ,rfl,ha,q⟩:=h
 obtain⟨u,rfl,ru⟩:=vals1 r
 cases ru
 exact adW I (.inl ha) fun t s' I'=>⟨.int aZ.length,H,I',⟨t,rfl⟩,q⟩
end
theorem eA {A B:Prop} (h:B):if false=true then A else B:=by
 rw[IN Bool.false_ne_true]
 exact h
theorem iE {A B:Prop} (h:A):if true=true then A else B:=by
 rw[iPp rfl]
 exact h
def ax (H H':Hp):Prop:=∀b o,H b=some o→H' b=some o
theorem ax.refl (H:Hp):ax H H:=fun _ _ h=>h
theorem ax.trans {H H1 H2:Hp} (a:ax H H1) (b:ax H1 H2):ax H H2:=fun c o h=>b c o (a c o h)
theorem ax.free {H H':Hp} (e:ax H H') {l:Addr} (h:H' l=Option.none):H l=Option.none:=by
 cases q:H l with
 |none=>rfl
 |some o =>
  rw[e l o q]at h
  cases h
theorem at_of {xs:List V} {z:Int} {j:Nat} {v:V} (e:z=(j:Int)) (h:xs[j]?=some v):WL xs z=some v:=by
 rw[e]
 exact Q5 h
theorem ax.made {H H1:Hp} {x dx C:Addr} (nx:H x=Option.none) (nd:H dx=Option.none) (k:∀b o,(upd (upd H dx (.own x)) x (.ins C dx [])) b=some o→b≠x→H1 b=some o):ax H H1:=fun b o e =>
 k b o (by rw[aj (aq e nx),aj (aq e nd)];exact e) (aq e nx)
theorem eZ.ad2 {P:Program} {w:World} {H:Hp} {h:Heap} {a:Addr} {o:HO} (x:eZ P w H h a o):∃ob,h.get? a=some ob:=by
 cases o with
 |lst xs=>obtain⟨_,_,_,_,e⟩:=x;exact⟨_,e⟩
 |tup xs=>obtain⟨_,_,_,ob,e,_⟩:=x;exact⟨_,e⟩
 |dK aZ=>obtain⟨_,_,_,_,o,_,_,e,_⟩:=x;exact⟨_,e⟩
 |dT aZ=>obtain⟨_,_,_,_,o,_,_,e,_⟩:=x;exact⟨_,e⟩
 |set S n=>obtain⟨o,_,_,_,e,_⟩:=x;exact⟨_,e⟩
 |ins C dx fs=>obtain⟨_,_,_,e,_⟩:=x;exact⟨_,e⟩
 |own y=>obtain⟨_,e⟩:=x;exact⟨_,e⟩
 |xd fs=>obtain⟨_,⟨_,_,_,e,_⟩,_⟩:=x;exact⟨_,e⟩
 |rng lo hi=>obtain⟨_,_,_,e⟩:=x;exact⟨_,e⟩
 |T7 ob u=>obtain⟨e,_⟩:=x;exact⟨_,e⟩
 |Zi ps=>exact⟨_,x⟩
 |met f y=>exact⟨_,x⟩
 |ext φ=>obtain⟨_,⟨_,e⟩,_⟩:=x;exact⟨_,e⟩
theorem t9.Zv {P:Program} {w:World} {H:Hp} {h h':Heap} (x:t9 P w H h) (k:∀b u,(∃o,H b=some o)→h.get? b=some u→h'.get? b=some u):t9 P w H h':=fun a o e =>
 (x a o e).My (fun b u hb q=>k b u (by rcases hb with rfl|hb;exact⟨_,e⟩;exact⟨_,hb⟩) q) (fun _ q=>q) (fun _ _ q=>q)
def ua (P:Program) (w:World):Sj:=fun outer H s E e s'=>∃(a C:Addr) (a0:Value) (B:Heap) (H':Hp),e = .ref a∧Heap.FlyingW B outer a (.ref C) a0 s'.heap∧s'.os=s.os∧AllBare s'.gens ∧
 Un (wz outer) [] H H' s.heap s'.heap∧t9 P w H' s'.heap∧(∀b o,s.heap.get? b=some o→b∉wz outer→∃o',B.get? b=some o')∧(∀b o,H' b=some o→∃o',B.get? b=some o')∧E (.ref C) none H'
section
variable {X:Cx} {pp:List (Addr×Obj)} {σ:St} {H:Hp} {s:Shared}
theorem Inv.lie (I:Inv X pp σ H s) (hex:X.ex=[]) {B h'':Heap} (KR:∀b o,s.heap.get? b=some o→b∉wz X.stack→(X.s₀.heap.get? b).isSome=true→∃o',B.get? b=some o') (yE:∀b o,H b=some o→∃o',B.get? b=some o')
 (st:B.StaysIn s.heap) (KG:B.StaysIn h'') (up:s.heap.UpToSlots h''):Un X.fs [] X.H₀ H X.s₀.heap h''∧t9 X.prog X.w H h'':=by
 have inB:∀b o,s.heap.get? b=some o→(∃o',B.get? b=some o')→h''.get? b=some o:=fun b o e ⟨o',q⟩=>by
  have q1:=st b o' q
  rw[e]at q1
  cases q1
  exact KG b o q
 have OM:∀b,b∉X.fs→(X.s₀.heap.get? b).isSome=true→b∉wz X.stack:=fun b n hs hb=>by
  rcases mem_cons.mp (I.rq b hb) with rfl|q
  ·cases e:X.s₀.heap.get? X.env.locals with
   |none=>rw[e]at hs;cases hs
   |some o=>exact absurd (Heap.lt_size e) (not_lt.mpr I.ok.above)
  ·exact n q
 have Zw:∀b o,s.heap.get? b=some o→b∈X.fs→∃sl,h''.get? b=some {o with slots:=sl}:=fun b o e hb=>by
  obtain⟨_,o',e',nf⟩:=I.yz.mem hb
  rw[e]at e'
  cases e'
  exact up b o e nf
 refine⟨⟨fun b o q n hb _=>?_,fun b o q n hb _=>?_,fun b o q n _=>?_,fun b o q _=>?_,I.base.HV,I.base.Fh,I.base.HW⟩,?_⟩
 ·have hx:b∉X.ex:=by rw[hex];simp
  have e:=I.base.keep b o q n hb hx
  have hs:(X.s₀.heap.get? b).isSome=true:=by rw[q];rfl
  exact inB b o e (KR b o e (OM b hb hs) hs)
 ·have hx:b∉X.ex:=by rw[hex];simp
  obtain⟨sl,e⟩:=I.base.slot b o q n hb hx
  obtain⟨sl',e'⟩:=Zw b _ e hb
  exact⟨sl',e'⟩
 ·exact I.base.free b o q n (by rw[hex];simp)
 ·have hx:b∉X.ex:=by rw[hex];simp
  obtain⟨o1,e⟩:=I.base.there b o q hx
  have hs:(X.s₀.heap.get? b).isSome=true:=by rw[q];rfl
  by_cases hb:b∈X.fs
  ·obtain⟨sl,e'⟩:=Zw b o1 e hb
   exact⟨_,e'⟩
  ·exact⟨o1,inB b o1 e (KR b o1 e (OM b hb hs) hs)⟩
 ·exact I.cG.Zv fun b u ⟨o,ho⟩ e=>inB b u e (yE b o ho)
end
section
variable {P:Program} {w:World} {K:W.Frag} {mg:Str→Option Value} {base:Heap} {N:List Str} {qual:Str} {scope:Scope} {f:Addr} {cd:Value} {A:Around} {outer:List Env} {s₀:Shared} {H₀:Hp} {E:XK}
theorem au:Passes (ua P w) (nI (ua P w) P w K mg base N qual scope f cd A outer s₀ H₀ E) E:=by
 intro pp σ H s e s' I h
 obtain⟨a,C,a0,B,H',rfl,fl,os,bare,un,cG,KR,yE,hE⟩:=h
 have I':Inv (nI (ua P w) P w K mg base N qual scope f cd A outer s₀ H₀ E) pp σ H' s':=I.Jy os un cG bare (fun b z=>absurd z (by simp))
 show wpAny (model P w) _ (leaving _ (.ref a)) _ _ s'
 refine wpAny_leaves_onW I.ok.frames rfl fl fun h'' Zx up=>?_
 have noF:∀b o,s₀.heap.get? b=some o→b∉wz outer→b∉wz (nI (ua P w) P w K mg base N qual scope f cd A outer s₀ H₀ E).stack:=fun b o q n hb=>by
  rcases mem_cons.mp (I.rq b hb) with rfl|q'
  ·exact absurd (Heap.lt_size q) (not_lt.mpr I.ok.above)
  ·exact n q'
 have hc:∀b o,s'.heap.get? b=some o→b∉wz (nI (ua P w) P w K mg base N qual scope f cd A outer s₀ H₀ E).stack→(s₀.heap.get? b).isSome=true→∃o',B.get? b=some o':=fun b o e n hs=>by
  cases q:s₀.heap.get? b with
  |none =>
   rw[q]at hs
   cases hs
  |some o0 =>
   obtain⟨o1,e1⟩:=I.base.there b o0 q (by show b∉[];simp)
   exact KR b o1 e1 n
 obtain⟨u,k⟩:=I'.lie rfl (B:=B) (h'':=h'') hc yE fl.1 Zx.1 up
 refine⟨a,C,a0,B,H',rfl,Zx,I'.os,I'.bare,u,k,fun b o q n=>?_,yE,hE⟩
 obtain⟨o1,e1⟩:=I.base.there b o q (by show b∉[];simp)
 exact KR b o1 e1 (noF b o q n)
theorem tX {CX:Sj}:PassesOwn (model P w) (nI CX P w K mg base N qual scope f cd A outer s₀ H₀ E).A (nI CX P w K mg base N qual scope f cd A outer s₀ H₀ E).env (nI CX P w K mg base N qual scope f cd A outer s₀ H₀ E).xe:=PassesOwn.leaving
theorem aa6 {pp:List (Addr×Obj)} {σ:St} {H:Hp} {s:Shared} {h':Heap} {e C:Addr} {vs:List Value} (I:Inv (nI (ua P w) P w K mg base N qual scope f cd A outer s₀ H₀ E) pp σ H s) (hx:Heap.MadeExcOf s.heap h' e (.ref C) vs) (hE:E (.ref C) none H) :
 (nI (ua P w) P w K mg base N qual scope f cd A outer s₀ H₀ E).xe (.ref e) {s with heap:=h'}:=by
 show wpAny (model P w) _ (leaving _ (.ref e)) _ _ {s with heap:=h'}
 have UP:∀env∈(nI (ua P w) P w K mg base N qual scope f cd A outer s₀ H₀ E).stack,∀b,env.frame=some b→b∈wz (nI (ua P w) P w K mg base N qual scope f cd A outer s₀ H₀ E).stack:=fun env he b hb=>mem_filterMap.mpr ⟨env,he,hb⟩
 refine wpAny_leaves_madeW (base:=W.hideAll s.heap (wz (nI (ua P w) P w K mg base N qual scope f cd A outer s₀ H₀ E).stack)) (h:=s.heap) I.ok.frames rfl (fun b o q=>W.of_hideAll _ q) (W.funFrames_hide I.stack UP) hx fun h'' t fl _ _ up=>?_
 have KR:∀b o,s.heap.get? b=some o→b∉wz (nI (ua P w) P w K mg base N qual scope f cd A outer s₀ H₀ E).stack→∃o',(W.hideAll s.heap (wz (nI (ua P w) P w K mg base N qual scope f cd A outer s₀ H₀ E).stack)).get? b=some o':=fun b o q n=>⟨o,W.hideAll_get _ q n⟩
 have yE:∀b o,H b=some o→∃o',(W.hideAll s.heap (wz (nI (ua P w) P w K mg base N qual scope f cd A outer s₀ H₀ E).stack)).get? b=some o':=fun b o q=>by
  obtain⟨ob,ho⟩:∃ob,s.heap.get? b=some ob:=(I.cG b o q).ad2
  refine KR b ob ho fun hb=>?_
  rw[I.Kz b hb]at q
  cases q
 obtain⟨u,k⟩:=I.lie rfl (h'':=h'') (fun b o e n _=>KR b o e n) yE (fun b o q=>W.of_hideAll _ q) fl.1 ((Heap.UpToSlots.of_keeps hx.keeps).trans up)
 refine⟨e,C,.ref t,_,H,rfl,fl,I.os,I.bare,u,k,fun b o q n=>?_,yE,hE⟩
 obtain⟨o1,e1⟩:=I.base.there b o q (by show b∉[];simp)
 refine KR b o1 e1 fun hb=>?_
 rcases mem_cons.mp (I.rq b hb) with rfl|q'
 ·exact absurd (Heap.lt_size q) (not_lt.mpr I.ok.above)
 ·exact n q'
end
abbrev Zy:List Value:=[.type "Exception",.type "BaseException",.type "object"]
structure Sr (K:W.Frag) (mg:Str→Option Value) (x:Str) (C:Addr):Prop where
 ns:mg x=some (.ref C)
 ex:W.excIn K C Zy "Exception.__new__" = true
theorem aa7 {K:W.Frag} {h:Heap} {C:Addr} (X:K.In h) (q:W.excIn K C Zy "Exception.__new__" = true):∃bm N nm q bs hdct sn sub ab col dd k0 k1 k2 k3 k5 mN,
 h.get? C=some (excClassObj nm q C N bs bm hdct sn sub ab col dd k0 k1 k2 k3 k5 "Exception.__new__")∧h.Ns N mN∧mN "__init__" = none∧OwnTail h Zy bm:=by
 unfold W.excIn at q
 split at q
 ·rename_i dd cd sl ho
  split at q
  ·rename_i C' bm k0 k1 k2 k3 n k5 hm hs
   simp only[and_eq_true,beq_iff_eq,Bool.not_eq_true']at q
   obtain⟨⟨⟨⟨⟨rfl,rfl⟩,ad3⟩,ht⟩,cG⟩,hni⟩:=q
   obtain⟨nm,bs,mro,ns,qn,hd,sn,sub,ab,col,del⟩:=cd
   dsimp only at hm ad3 cG hni
   subst hm ad3
   have Zz:sl=#[k0,k1,k2,k3,some (.builtin "Exception.__new__"),k5]:=by
    obtain⟨l⟩:=sl
    simp only at hs
    rw[hs]
   subst Zz
   exact⟨bm,ns,nm,qn,bs,hd,sn,sub,ab,col,dd,k0,k1,k2,k3,k5,_,X _ _ ho,.of_isNs (W.isNs_of_in X cG),W.nsMap_none_of_in X cG hni,W.tail_of_in X ht⟩
  ·cases q
 ·cases q
def aa8 (C:Addr) (E:XK):TS:=fun _ _ H=>E (.ref C) none H
def Raises (X:Cx) (C:Addr) (E:XK):Prop:=∀(pp:List (Addr×Obj)) (σ:St) (H:Hp) (s:Shared) (h':Heap) (e:Addr),Inv X pp σ H s→Heap.MadeExcOf s.heap h' e (.ref C) []→E (.ref C) none H→X.xe (.ref e) {s with heap:=h'}
theorem nK {X:Cx} {x:Str} {C:Addr} {E:XK} {np FF pos:Pos} (c:Sr X.K X.mg x C) (hc:X.calm=true) (hx:Raises X C E) (hg:Gl X x) (hd:(x==("__debug__" : Str))=false:=by decide) :
 PS X (.Raise (some (.Call (.Name x np) [] [] FF)) none pos) (aa8 C E):=by
 intro pp s σ H D I h
 obtain⟨tl,N,nm,q,bs,hdct,sn,sub,ab,col,dd,k0,k1,k2,k3,k5,mN,hC,hN,hni,T⟩:=aa7 I.Fi c.ex
 refine wpAny_Raise_call_subT (C:=C) (nm:=nm) (q:=q) (N:=N) (bs:=bs) (bm:=tl) (hdct:=hdct) (sn:=sn) (sub:=sub) (ab:=ab) (col:=col) (dd:=dd) (k0:=k0) (k1:=k1) (k2:=k2) (k3:=k3) (k5:=k5)
  F.excBase_Exception (mN:=mN) (T.hasType F.excBase_Exception.hasBase) (I.ok.hd hc) rfl hni (rA I hg c.ns ⟨rfl,?_⟩ hd)
 exact evalArgs_empty ⟨rfl,zero_le _,hC,hN,T,fun h' e hm=>hx pp σ H s h' e I hm h⟩
theorem rF {P:Program} {w:World} {K:W.Frag} {mg:Str→Option Value} {base:Heap} {N:List Str} {qual:Str} {scope:Scope} {f:Addr} {cd:Value} {A:Around} {outer:List Env} {s₀:Shared} {H₀:Hp} {E:XK} {C:Addr} :
 Raises (nI (ua P w) P w K mg base N qual scope f cd A outer s₀ H₀ E) C E:=fun _ _ _ _ _ _ I hm hE=>aa6 I hm hE
structure ZA (X:Cx) (pp:List (Addr×Obj)) (σ:St) (H:Hp) (a C:Addr) (s:Shared):Prop where
 inv:Inv X pp σ H s
 fl:∃B a0,Heap.FlyingW B X.stack a (.ref C) a0 s.heap∧(∀b,(X.s₀.heap.get? b).isSome=true→b∉wz X.stack→∃o',B.get? b=some o')∧(∀b o,H b=some o→∃o',B.get? b=some o')∧(∀p∈X.pn++pp,∃o',B.get? p.1=some o')
section
variable {X:Cx} {pp:List (Addr×Obj)} {σ:St} {H:Hp} {s:Shared} {a C:Addr}
theorem Inv.US (I:Inv X pp σ H s) (hex:X.ex=[]) (oN:X.env.cells=[]) {B h'':Heap} (KR:∀b,(X.s₀.heap.get? b).isSome=true→b∉wz X.stack→∃o',B.get? b=some o') (yE:∀b o,H b=some o→∃o',B.get? b=some o')
 (ahy:∀p∈X.pn++pp,∃o',B.get? p.1=some o') (st:B.StaysIn s.heap) (KG:B.StaysIn h'') (up:s.heap.UpToSlots h''):Inv X pp σ H {s with heap:=h''}:=by
 obtain⟨u,k⟩:=I.lie hex (fun b o _ n hs=>KR b hs n) yE st KG up
 have noc:∀x c,X.env.cells.lookup x=some c→False:=fun x c e=>by rw[oN]at e;cases e
 obtain⟨m,hm,hl⟩:=I.loc
 refine⟨I.ok,I.os,I.bare,by rw[hex];exact u,⟨m,up.ns hm,fun i x v h1 h2 h3=>?_⟩,fun x c e=>(noc x c e).elim,I.free,fun x c e=>(noc x c e).elim,fun p hp=>?_,k,I.len⟩
 ·obtain⟨u,r,q⟩:=hl i x v h1 h2 h3
  refine⟨u,r,?_⟩
  rcases q with q|⟨_,c,e,_⟩
  ·exact .inl q
  ·exact(noc x c e).elim
 ·obtain⟨e,q⟩:=I.pin p hp
  obtain⟨o',ho⟩:=ahy p hp
  have e1:=st _ _ ho
  rw[e]at e1
  cases e1
  exact⟨KG _ _ ho,q⟩
theorem ZA.step (F:ZA X pp σ H a C s) (hex:X.ex=[]) (oN:X.env.cells=[]) {M:Model} {A:Around} {E:Value→Shared→Prop} {Q:Unit→Shared→Prop} (h:∀h'',ZA X pp σ H a C {s with heap:=h''}→Q () {s with heap:=h''}):wpAny M A (setFlight (.ref a) none) Q E s:=by
 obtain⟨I,B,a0,fl,c1,c2,c3⟩:=F
 refine lands_againW fl fun h'' Zx up=>h h'' ⟨I.US hex oN c1 c2 c3 fl.1 Zx.1 up,B,a0,Zx,c1,c2,c3⟩
theorem ZA.ad4 (F:ZA X pp σ H a C s) (hex:X.ex=[]) (oN:X.env.cells=[]) (jj:X.stack=X.env::X.outer) (hf:X.env.frame=some X.env.locals) {M:Model} {E E':Value→Shared→Prop} {Q:Unit→Shared→Prop}
 (h:∀h'',ZA X pp σ H a C {s with heap:=h''}→Q () {s with heap:=h''}):wpAny M X.A (noteFrame (.ref a) X.env) (fun _ s2=>wpAny M X.A (setFlight (.ref a) none) Q E s2) E' s:=by
 obtain⟨I,B,a0,fl,c1,c2,c3⟩:=F
 have fl1:Heap.FlyingW B (X.env::X.outer) a (.ref C) a0 s.heap:=by rw[←jj];exact fl
 refine wpAny_looks_onW (by rw[I.ok.frames,jj]) hf fl1 fun h1 hh up1=>?_
 refine wpAny_landsW hh fun h'' Zx up2=>?_
 have up:=up1.trans up2
 exact h h'' ⟨I.US hex oN c1 c2 c3 fl.1 Zx.1 up,B,a0,by rw[jj];exact Zx,c1,c2,c3⟩
abbrev Cx.mark (X:Cx) (a:Addr):Cx:={X with A:=X.A.mark (some (.ref a)),calm:=false,xe:=fun _ _=>False}
theorem Inv.mark (I:Inv X pp σ H s) (a:Addr):Inv (X.mark a) pp σ H s :=
 ⟨⟨I.ok.mod,I.ok.kind,I.ok.glob,I.ok.blt,I.ok.above,I.ok.inj,I.ok.has,I.ok.cab,fun h=>(nomatch h),I.ok.frames,I.ok.stk,I.ok.exf,I.ok.bs,I.ok.WI,I.ok.R9,I.ok.OL,I.ok.yz,I.ok.Zj⟩,I.os,I.bare,I.base,I.loc,I.cell,I.free,I.oS,I.pin,I.cG,I.len⟩
theorem Inv.unmark {a:Addr} (ok:X.Ok) (I:Inv (X.mark a) pp σ H s):Inv X pp σ H s:=⟨ok,I.os,I.bare,I.base,I.loc,I.cell,I.free,I.oS,I.pin,I.cG,I.len⟩
theorem SP.unmark {a:Addr} {D:Ends} {f:Flow} (ok:X.Ok) (h:SP (X.mark a) pp D f s):SP X pp D f s:=by
 cases f with
 |next=>obtain⟨σ',H',I,q⟩:=h;exact⟨σ',H',I.unmark ok,q⟩
 |brk=>obtain⟨σ',H',I,q⟩:=h;exact⟨σ',H',I.unmark ok,q⟩
 |cont=>obtain⟨σ',H',I,q⟩:=h;exact⟨σ',H',I.unmark ok,q⟩
 |ret u=>obtain⟨v,σ',H',I,r,q⟩:=h;exact⟨v,σ',H',I.unmark ok,r,q⟩
end
def PH (X:Cx) (hs:List ExceptHandler) (t:Addr→TS):Prop:=∀(pp:List (Addr×Obj)) (s:Shared) (σ:St) (H:Hp) (D:Ends) (a C:Addr),ZA X pp σ H a C s→t C D σ H→wpAny (model X.prog X.w) X.A (handleBy (.ref a) X.env hs) (SP X pp D) X.xe s
def ahC:Addr→TS:=fun _ _ _ _=>False
def ad5 (K:W.Frag) (C1:Addr) (th:TS) (r:Addr→TS):Addr→TS:=fun C D σ H=>∃b,W.exmOne K (.ref C) (.ref C1)=some b∧if b=true then th D σ H else r C D σ H
theorem aa9 {X:Cx}:PH X [] ahC:=fun _ _ _ _ _ _ _ _ h=>h.elim
theorem Af {X:Cx} {x:Str} {C1:Addr} {b₀:Stmt} {ZC:List Stmt} {np pos:Pos} {hs:List ExceptHandler} {th:TS} {r:Addr→TS} (hex:X.ex=[]) (oN:X.env.cells=[]) (hg:Gl X x) (hm:X.mg x=some (.ref C1)) (hsu:∀a,Sa (X.mark a) (b₀::ZC) th) (hr:PH X hs r)
 (hd:(x==("__debug__" : Str))=false:=by decide):PH X (.ExceptHandler (some (.Name x np)) none (b₀::ZC) pos::hs) (ad5 X.K C1 th r):=by
 intro pp s σ H D a C F h
 obtain⟨b,hb,h⟩:=h
 have I:=F.inv
 have LT:PySem.W.Looks (model X.prog X.w) s.heap (typeOf (.ref a)) (.ref C):=by
  obtain⟨B,a0,fl,_⟩:=F.fl
  obtain⟨ob,hob,hc⟩:=fl.there
  rw[←hc]
  exact(PySem.W.Looks.ld hob).andThen .now
 refine wpAny_handleBy_cons (codeAny_handlers_test (rA (X:=X.mark a) (I.mark a) hg hm ?_ hd)) (by intro q;cases q)
 refine(PySem.W.exm_one I.Fi LT hb).here ?_
 cases b with
 |true =>
  rw[iPp rfl]at h
  refine codeAny_handlers_suite (F.step hex oN fun h'' F'=>?_)
  exact wpAny_mono (hsu a pp _ σ H D (F'.inv.mark a) h) (fun f s2 q=>q.unmark I.ok) fun _ _ z=>z.elim
 |false =>
  rw[IN Bool.false_ne_true]at h
  exact hr pp s σ H D a C F h
def ahE (t:XK→TS) (th:Addr→TS):TS:=fun D σ H=>t (fun v _ H'=>∃C,v = .ref C∧∀σ',th C D σ' H') D σ H
abbrev Cx.Dn (X:Cx) (W:Value→Shared→Prop) (pn:List (Addr×Obj)):Cx:={X with xe:=W,pn:=pn}
section
variable {X:Cx} {pp Fj:List (Addr×Obj)} {σ:St} {H:Hp} {s:Shared} {W:Value→Shared→Prop}
theorem Inv.Dn (I:Inv X pp σ H s) (W:Value→Shared→Prop):Inv (X.Dn W (X.pn++pp)) [] σ H s :=
 ⟨⟨I.ok.mod,I.ok.kind,I.ok.glob,I.ok.blt,I.ok.above,I.ok.inj,I.ok.has,I.ok.cab,I.ok.hd,I.ok.frames,I.ok.stk,I.ok.exf,I.ok.bs,I.ok.WI,I.ok.R9,I.ok.OL,I.ok.yz,I.ok.Zj⟩,I.os,I.bare,I.base,I.loc,I.cell,I.free,I.oS,fun p hp=>I.pin p (by simpa using hp),I.cG,I.len⟩
theorem Inv.yF (ok:X.Ok) (I:Inv (X.Dn W (X.pn++pp)) Fj σ H s):Inv X pp σ H s:=⟨ok,I.os,I.bare,I.base,I.loc,I.cell,I.free,I.oS,fun p hp=>I.pin p (mem_append_left _ hp),I.cG,I.len⟩
theorem SP.yF {D:Ends} {f:Flow} (ok:X.Ok) (h:SP (X.Dn W (X.pn++pp)) Fj D f s):SP X pp D f s:=by
 cases f with
 |next=>obtain⟨σ',H',I,q⟩:=h;exact⟨σ',H',I.yF ok,q⟩
 |brk=>obtain⟨σ',H',I,q⟩:=h;exact⟨σ',H',I.yF ok,q⟩
 |cont=>obtain⟨σ',H',I,q⟩:=h;exact⟨σ',H',I.yF ok,q⟩
 |ret u=>obtain⟨v,σ',H',I,r,q⟩:=h;exact⟨v,σ',H',I.yF ok,r,q⟩
end
theorem aba {X:Cx} {P:Program} {w:World} {body:List Stmt} {h₀:ExceptHandler} {hs:List ExceptHandler} {pos:Pos} {t:XK→TS} {th:Addr→TS} (hP:X.prog=P) (hw:X.w=w) (hex:X.ex=[]) (oN:X.env.cells=[]) (jj:X.stack=X.env::X.outer) (hf:X.env.frame=some X.env.locals)
 (hb:∀(W:Value→Shared→Prop) (pn:List (Addr×Obj)) (E:XK),Passes (ua P w) (X.Dn W pn) E→Sa (X.Dn W pn) body (t E)) (hh:PH X (h₀::hs) th):PS X (.Try body (h₀::hs) [] [] pos) (ahE t th):=by
 subst hP hw
 intro pp s σ H D I h
 refine wpAny_Try_except ?_
 have pass:Passes (ua X.prog X.w) (X.Dn (fun e s₁=>∃σ' H' a C,e = .ref a∧ZA X pp σ' H' a C s₁∧th C D σ' H') (X.pn++pp)) (fun v _ H'=>∃C,v = .ref C∧∀σ',th C D σ' H'):=by
  intro Fj σ' H1 s1 e s2 I1 hc
  obtain⟨a,C,a0,B,H2,rfl,fl,os,bare,un,cG,KR,yE,C',eC,hE⟩:=hc
  cases eC
  have I2:=I1.Jy (H':=H2) (s':=s2) (ch:=[]) os un cG bare (fun b z=>absurd z (by simp))
  refine⟨σ',H2,a,C,rfl,⟨I2.yF I.ok,B,a0,fl,fun b hs n=>?_,yE,fun p hp=>?_⟩,hE σ'⟩
  ·cases q:X.s₀.heap.get? b with
   |none=>rw[q]at hs;cases hs
   |some o0 =>
    obtain⟨o1,e1⟩:=I1.base.there b o0 q (by show b∉X.ex;rw[hex];simp)
    exact KR b o1 e1 n
  ·obtain⟨e1,_,n1,n2,_⟩:=I1.pin p (mem_append_left _ hp)
   refine KR p.1 p.2 e1 fun hb=>?_
   rcases mem_cons.mp (I.rq p.1 hb) with z|z
   ·exact n1 z
   ·exact n2 z
 refine wpAny_mono (hb _ _ _ pass [] s σ H D (I.Dn _) h) (fun f s1 q=>?_) fun e s1 q=>?_
 ·have q':=SP.yF I.ok q
  cases f with
  |next =>
   obtain⟨σ',H',I',q⟩:=q'
   exact wpAny_execs_nil ⟨σ',H',I',q⟩
  |brk=>exact q'
  |cont=>exact q'
  |ret u=>exact q'
 ·obtain⟨σ',H',a,C,rfl,F,q⟩:=q
  refine F.ad4 hex oN jj hf fun h'' F'=>?_
  exact hh pp _ σ' H' D a C F' q
def FA (K:W.Frag) (x qual:Str) (st:Stmt) (ps:List Str) (f:Addr):Prop:=∃fd,Fun K x qual st f fd∧Binds K fd ps []
def GI (mg:Str→Option Value) (x:Str) (v:Int):Prop:=∃t,mg x=some (.int v t)
structure Gm where
 P:Program
 w:World
 K:W.Frag
 mg:Str→Option Value
 base:Heap
abbrev Cx.gm (X:Cx):Gm:=⟨X.prog,X.w,X.K,X.mg,X.base⟩
def Pr (g:Gm) (k:Nat) (f:Addr) (ps:List Str) (sp:Sp):Prop:=∃fd,tW g.P g.w g.K g.mg g.base (ua g.P g.w) k f fd ps sp∧Binds g.K fd ps []∧W.keepIn g.K (.ref f)=true∧∃oc od JI,g.K.lookup f=some ⟨oc,od,.func fd,JI⟩
abbrev UT (g:Gm) (N:List Str) (qual:Str) (st:Stmt) (f:Addr) (b6:Value) (A:Around) (outer:List Env) (s:Shared) (H:Hp) (E:XK):Cx:=nI (ua g.P g.w) g.P g.w g.K g.mg g.base N qual (ao st) f b6 A outer s H E
theorem Pr.of {g:Gm} {x qual:Str} {st:Stmt} {f:Addr} {N ps:List Str} {k:Nat} {sp:Sp} (F:FA g.K x qual st ps f) (S:ay N ps (ao st)) (len:∀vs H Q E,sp vs H Q E→vs.length=ps.length)
 (MH:∀(b6:Value) (A:Around) (outer:List Env) (s:Shared) (H:Hp) (vs:List V) (Q:VK) (E:XK),ig k (A.deeper (envOfC qual (ao st) s.heap.objs.size f b6))→sp vs H Q E →
  ∃t,Sa (UT g N qual st f b6 A outer s H E) (fQ st) t∧t {nx:=fun _ H'=>Q .dh H',rt:=Q} (start N vs) H):Pr g (k+1) f ps sp:=by
 obtain⟨fd,F,hb⟩:=F
 have kp:=F.kp
 obtain⟨oc,od,kV,doc,pm,an,b6,ct,JI,rfl,lk,WK⟩:=F.ex
 refine⟨_,?_,hb,kp,oc,od,JI,lk⟩
 exact adI lk WK S len fun A outer s H vs Q E hr Q2=>MH b6 A outer s H vs Q E hr Q2
theorem Pr.on {g:Gm} {x qual:Str} {st:Stmt} {f:Addr} {N ps:List Str} {k:Nat} {sp:Sp} (F:FA g.K x qual st ps f) (S:ay N ps (ao st))
 (MH:∀(b6:Value) (A:Around) (outer:List Env) (s:Shared) (H:Hp) (vs:List V) (Q:VK) (E:XK),ig k (A.deeper (envOfC qual (ao st) s.heap.objs.size f b6))→sp vs H Q E →
  ∃t,Sa (UT g N qual st f b6 A outer s H E) (fQ st) t∧t {nx:=fun _ H'=>Q .dh H',rt:=Q} (start N vs) H) (len:∀vs H Q E,sp vs H Q E→vs.length=ps.length:=by intro _ _ _ _ h;first|(cases h;subst_vars;rfl)|((repeat obtain⟨_,h⟩:=h)<;>(subst_vars;rfl))):Pr g (k+1) f ps sp:=Pr.of F S len MH
theorem Pr.mono {g:Gm} {j k:Nat} {f:Addr} {ps:List Str} {sp:Sp} (G:Pr g j f ps sp) (h:j≤k):Pr g k f ps sp:=by
 obtain⟨fd,F,b,kp,lk⟩:=G
 exact⟨fd,F.mono h,b,kp,lk⟩
theorem Pr.imp {g:Gm} {k:Nat} {f:Addr} {ps:List Str} {sp Zp:Sp} (G:Pr g k f ps sp) (h:∀vs H Q E,Zp vs H Q E→sp vs H Q E):Pr g k f ps Zp:=by
 obtain⟨fd,F,b,kp,lk⟩:=G
 exact⟨fd,F.imp h,b,kp,lk⟩
theorem Pr.ex {ι:Type} {g:Gm} {k:Nat} {f:Addr} {ps:List Str} {sp:ι→Sp} (i0:ι) (h:∀i,Pr g k f ps (sp i)):Pr g k f ps (fun vs H Q E=>∃i,sp i vs H Q E):=by
 obtain⟨fd,F0,b,kp,oc,od,JI,lk⟩:=h i0
 have all:∀i,tW g.P g.w g.K g.mg g.base (ua g.P g.w) k f fd ps (sp i):=fun i=>by
  obtain⟨fd',F',_,_,oc',od',ahF,lk'⟩:=h i
  rw[lk]at lk'
  cases lk'
  exact F'
 exact⟨fd,⟨fun vs H Q E ⟨i,q⟩=>(all i).len vs H Q E q,fun A outer s H args us vs Q E hr he hb hv ⟨i,q⟩=>(all i).run A outer s H args us vs Q E hr he hb hv q⟩,b,kp,oc,od,JI,lk⟩
section
variable {X:Cx} {k j:Nat} {f C:Addr} {ps:List Str} {sp:Sp} {E:XK} {x m:Str} {p pos apos:Pos} {e o:Expr} {es:List Expr} {ta:TE} {t:TA}
theorem aU (G:Pr X.gm k f ps sp) (hx:Passes (ua X.prog X.w) X E) (hr:ig j X.A) (hk:k≤j) (hm:X.mg x=some (.ref f)) (ha:PA X (e::es) t) (hg:Gl X x:=by rfl)
 (KL:(x==("__debug__" : Str))=false:=by decide) (he:starEach (e::es) X.env=(false,eval e X.env)::starEach es X.env:=by rfl) (oM:(backTo pos (starEach es X.env)).any (·.1)=false:=by rfl) :
 PE X (.Call (.Name x p) (e::es) [] pos) (Fy sp [] E t):=by
 obtain⟨fd,F,b,kp,_⟩:=G
 exact Xe F (hr.mono hk) hg hm kp b .nil hx ha KL he oM
theorem kT (G:Pr X.gm k f ps sp) (M:Mk X.K C f) (hx:Passes (ua X.prog X.w) X E) (hr:ig j X.A) (hk:k+1≤j) (hm:X.mg x=some (.ref C)) (ha:PA X (e::es) t) (hg:Gl X x:=by rfl)
 (KL:(x==("__debug__" : Str))=false:=by decide) (he:starEach (e::es) X.env=(false,eval e X.env)::starEach es X.env:=by rfl) (oM:(backTo pos (starEach es X.env)).any (·.1)=false:=by rfl) :
 PE X (.Call (.Name x p) (e::es) [] pos) (Q1 C sp [] E t):=by
 obtain⟨fd,F,b,kp,_⟩:=G
 exact Xg M F (hr.mono hk) hg hm b .nil hx ha KL he oM
theorem Ra (G:Pr X.gm k f ps sp) (M:Mk X.K C f) (hx:Passes (ua X.prog X.w) X E) (hr:ig j X.A) (hk:k+1≤j) (hm:X.mg x=some (.ref C)) (hg:Gl X x:=by rfl) (KL:(x==("__debug__" : Str))=false:=by decide) :
 PE X (.Call (.Name x p) [] [] pos) (Q1 C sp [] E HX):=by
 obtain⟨fd,F,b,kp,_⟩:=G
 exact Ut M F (hr.mono hk) hg hm b .nil hx KL
theorem cN {pl:Sem Bool} (he:PE X o ta) (G:Pr X.gm k f ps sp) (c:Dh X.K C) (hm:Meth X.K C m f) (hx:Passes (ua X.prog X.w) X E) (hr:ig j X.A) (hk:k≤j) (ha:PA X (e::es) t)
 (jj:starEach (e::es) X.env=(false,eval e X.env)::starEach es X.env:=by rfl) (oM:(backTo pos (starEach es X.env)).any (·.1)=false:=by rfl)
 (ht:eval (.Call (.Attribute o m apos) (e::es) [] pos) X.env=(do
  let ov ←eval o X.env
  standAt apos.atName
  let(f,first) ←holding [ov] (getMethod ov m pl)
  callWith pos f first (backTo pos (starEach (e::es) X.env)) (backToKw pos (keywordEach [] X.env))):=by rfl) :
 PE X (.Call (.Attribute o m apos) (e::es) [] pos) (Q0 C m sp [] E ta t):=by
 obtain⟨fd,F,b,kp,_⟩:=G
 exact Xf he c hm F (hr.mono hk) b .nil hx ha jj oM ht
theorem a7 {pl:Sem Bool} (he:PE X o ta) (G:Pr X.gm k f ps sp) (c:Dh X.K C) (hm:Meth X.K C m f) (hx:Passes (ua X.prog X.w) X E) (hr:ig j X.A) (hk:k≤j)
 (ht:eval (.Call (.Attribute o m apos) [] [] pos) X.env=(do
  let ov ←eval o X.env
  standAt apos.atName
  let(f,first) ←holding [ov] (getMethod ov m pl)
  callWith pos f first (backTo pos (starEach [] X.env)) (backToKw pos (keywordEach [] X.env))):=by rfl) :
 PE X (.Call (.Attribute o m apos) [] [] pos) (Q0 C m sp [] E ta HX):=by
 obtain⟨fd,F,b,kp,_⟩:=G
 exact Us he c hm F (hr.mono hk) b .nil hx ht
theorem pk {v:Int} (h:GI X.mg x v) (hg:Gl X x:=by rfl) (hd:(x==("__debug__" : Str))=false:=by decide):PE X (.Name x pos) (tC (.int v)):=by
 obtain⟨t,e⟩:=h
 exact QU hg e ⟨t,rfl⟩ hd
theorem pkr {a:Addr} (h:X.mg x=some (.ref a)) (hg:Gl X x:=by rfl) (hd:(x==("__debug__" : Str))=false:=by decide):PE X (.Name x pos) (tC (.ref a)):=QU hg h rfl hd
end
structure ZD (K:W.Frag) (C f:Addr) (m:Str):Prop where
 ga:W.specialIn K (.ref C) "__getattribute__" = some (some (.builtin "type.__getattribute__"))
 rd:W.readsIn K C (.type "type")=true
 fc:W.findCls K (.ref C) (.type "type") m=some (.val (.ref f))
theorem ZE {X:Cx} {k j:Nat} {f C:Addr} {ps:List Str} {sp:Sp} {E:XK} {x m:Str} {p pos apos:Pos} {e:Expr} {es:List Expr} {t:TA} {pl:Sem Bool} (c:ZD X.K C f m) (G:Pr X.gm k f ps sp) (hx:Passes (ua X.prog X.w) X E) (hr:ig j X.A) (hk:k≤j) (hm:X.mg x=some (.ref C)) (ha:PA X (e::es) t) (hg:Gl X x:=by rfl)
 (KL:(x==("__debug__" : Str))=false:=by decide) (jj:starEach (e::es) X.env=(false,eval e X.env)::starEach es X.env:=by rfl) (oM:(backTo pos (starEach es X.env)).any (·.1)=false:=by rfl)
 (ht:eval (.Call (.Attribute (.Name x p) m apos) (e::es) [] pos) X.env=(do
  let ov ←eval (.Name x p) X.env
  standAt apos.atName
  let(f,first) ←holding [ov] (getMethod ov m pl)
  callWith pos f first (backTo pos (starEach (e::es) X.env)) (backToKw pos (keywordEach [] X.env))):=by rfl) :
 PE X (.Call (.Attribute (.Name x p) m apos) (e::es) [] pos) (Fy sp [] E t):=by
 obtain⟨fd,F,b,kp,_⟩:=G
 intro pp s σ H Q I h
 refine PySem.W.methodCall_KW (pl:=pl) (rA I hg hm ?_ KL) ht
 refine PySem.W.method_cls I.Fi c.ga (PySem.W.cls_value I.Fi c.rd c.fc rfl ?_)
 refine PySem.W.callWith_K (first:=[]) (h₀:=X.base) I.ok.mod.R8 kp (dq (ha pos pp _ σ H _ (I.tok _) h) fun us s2 ⟨vs,H2,I2,r,q2⟩=>⟨I2.Fi,?_⟩) jj oM
 exact FC F (hr.mono hk) b .nil hx I2 r q2
def Kp (S:Addr→Prop) (H H':Hp):Prop:=∀b o,H b=some o→¬S b→H' b=some o
theorem Kp.refl {S:Addr→Prop} {H:Hp}:Kp S H H:=fun _ _ e _=>e
theorem Kp.same {S:Addr→Prop} {H H':Hp} (s:ax H H'):Kp S H H':=fun b o e _=>s b o e
theorem Kp.step {S S2:Addr→Prop} {H H1 H2:Hp} (a:Kp S H H1) (b:Kp S2 H1 H2) (h:∀c,S2 c→S c∨H c=none):Kp S H H2:=fun c o e n=>b c o (a c o e n) fun z=>(h c z).elim n fun q=>by rw[q]at e;cases e
theorem Kp.upd {S:Addr→Prop} {H:Hp} {a:Addr} {o:HO} (h:S a∨H a=none):Kp S H (upd H a o):=fun b u e n=>by
 by_cases hb:b=a
 ·subst hb
  exact h.elim (fun z=>absurd z n) fun z=>by rw[z]at e;cases e
 ·rw[aj hb]
  exact e
theorem ax.upd {H:Hp} {a:Addr} {o:HO} (h:H a=none):ax H (upd H a o):=fun b u e=>by
 have hb:b≠a:=aq e h
 rw[aj hb]
 exact e
abbrev At (c:Addr):Addr→Prop:=fun b=>b=c
theorem Kp.lst {H H':Hp} {a c C dx:Addr} {xs:List V} {fs:List (Str×V)} (k:Kp (At c) H H') (h:H a=some (.lst xs)) (hc:H c=some (.ins C dx fs)):H' a=some (.lst xs):=k a _ h (cS h hc (by intro z;cases z))
theorem Rb {f:Str} {v:V} {r:List (Str×V)}:List.lookup f ((f,v)::r)=some v:=by
 rw[lookup_cons]
 simp
theorem c8 {f g:Str} {v:V} {r:List (Str×V)} (h:¬f=g):List.lookup f ((g,v)::r)=List.lookup f r:=by
 rw[lookup_cons]
 have e:(f==g)=false:=by simpa using h
 rw[e]
theorem Rc {f:Str} {v:V}:aF f v []=[(f,v)]:=rfl
theorem abb {f g:Str} {v u:V} {r:List (Str×V)} (h:¬g=f):aF f v ((g,u)::r)=(g,u)::aF f v r:=by
 show(if g=f then _ else _)=_
 rw[IN h]
def Ag (C:Addr):Sp:=fun vs H Q E=>∃b,vs=[.bl b]∧if b=true then Q .dh H else E (.ref C) none H
theorem az {X:Cx} {k j:Nat} {f C:Addr} {ps:List Str} {E:XK} {x:Str} {p pos pos':Pos} {c:Expr} {tc:TE} (G:Pr X.gm k f ps (Ag C)) (hx:Passes (ua X.prog X.w) X E) (hr:ig j X.A) (hk:k≤j) (hm:X.mg x=some (.ref f)) (hc:PE X c tc) (hg:Gl X x:=by rfl)
 (KL:(x==("__debug__" : Str))=false:=by decide) (he:starEach [c] X.env=(false,eval c X.env)::starEach [] X.env:=by rfl) (oM:(backTo pos (starEach [] X.env)).any (·.1)=false:=by rfl) (hs:swapsWith (.Call (.Name x p) [c] [] pos) none pos'.line X.env=pure false:=by rfl) :
 PS X (.Expr (.Call (.Name x p) [c] [] pos) pos') (Ud (Fy (Ag C) [] E (Di tc HX))):=aR (aU G hx hr hk hm (aa hc ai he) hg KL he oM) hs
theorem aw {A B:Prop} {c:Prop} [Decidable c] (h1:c→A) (h2:¬c→B):if decide c=true then A else B:=by
 by_cases h:c
 ·rw[iPp (decide_eq_true h)]
  exact h1 h
 ·rw[IN (by simpa using h)]
  exact h2 h
theorem Rf {K:PySem.W.Frag} {a:Addr} {xs:List V} {g:TG} {tb:TS} {D:Ends} {σ:St} {H:Hp} (Pv:Nat→St→Hp→Prop) (h0:Pv xs.length σ H) (hl:∀i σ H,i≤xs.length→Pv i σ H→bP K H a xs)
 (hs:∀i x σ H,xs[i]?=some x→Pv (i+1) σ H→g x σ H fun σ2 H2=>tb {D with nx:=Pv i,ct:=Pv i,bk:=D.nx} σ2 H2) (hd:∀σ H,Pv 0 σ H→D.nx σ H) :
 ∃W:Nat→Nat→St→Hp→Prop,(∃m,W 0 m σ H)∧∀i m σ H,W i m σ H →
  ((Itv K a xs.length).stop i H∧D.nx σ H)∨((Itv K a xs.length).go i H∧∃N:St→Hp→Prop,(∀σ' H',N σ' H'→∃m',m'<m∧W (i+1) m' σ' H')∧∀x H',(Itv K a xs.length).W7 i H x H'→g x σ H' fun σ2 H2=>tb {D with nx:=N,ct:=N,bk:=D.nx} σ2 H2):=by
 refine⟨fun i m σ H=>m=xs.length-i∧i≤xs.length∧Pv (xs.length-i) σ H,⟨xs.length,by simp,zero_le _,h0⟩,?_⟩
 rintro i m σ H ⟨rfl,hi,p⟩
 by_cases oU:i<xs.length
 ·have e1:xs.length-i=(xs.length-1-i)+1:=by lia
  have hj:xs.length-1-i<xs.length:=by lia
  have q:=hl _ σ H (Nat.sub_le _ _) p
  refine .inr ⟨⟨oU,xs,xs[xs.length-1-i],q,by simp[hj]⟩,Pv (xs.length-1-i),fun σ' H' p'=>⟨xs.length-(i+1),by lia,rfl,oU,by rw[show xs.length-(i+1)=xs.length-1-i by lia];exact p'⟩,fun x H' y=>?_⟩
  obtain⟨e,y⟩:=y
  subst e
  exact hs _ x σ _ (y xs q) (by rw[←e1];exact p)
 ·have e:i=xs.length:=by lia
  subst e
  exact .inl ⟨le_refl _,hd σ H (by rw[Nat.sub_self]at p;exact p)⟩
section
variable {X:Cx} {ι:Type} {k j:Nat} {fa:ι→Addr} {ps:ι→List Str} {sp:ι→Sp} {E:XK} {fe e:Expr} {es:List Expr} {tf:TE} {t:TA} {pos:Pos}
def abc (fa:ι→Addr) (sp:ι→Sp) (E:XK) (tf:TE) (t:TA):TE:=fun σ H Q=>tf σ H fun v H1=>∃i,v = .ref (fa i)∧t σ H1 fun vs H2=>sp i vs H2 Q E
theorem XB (hf:PE X fe tf) (G:∀i,Pr X.gm k (fa i) (ps i) (sp i)) (hx:Passes (ua X.prog X.w) X E) (hr:ig j X.A) (hk:k≤j) (ha:PA X (e::es) t)
 (hev:eval (.Call fe (e::es) [] pos) X.env=(do callWith pos (←eval fe X.env) [] (backTo pos (starEach (e::es) X.env)) (backToKw pos (keywordEach [] X.env))):=by rfl)
 (he:starEach (e::es) X.env=(false,eval e X.env)::starEach es X.env:=by rfl) (oM:(backTo pos (starEach es X.env)).any (·.1)=false:=by rfl) :
 PE X (.Call fe (e::es) [] pos) (abc fa sp E tf t):=by
 intro pp s σ H Q I h
 refine Call_ (dq (hf pp s σ H _ I h) fun u s1 ⟨v,H1,I1,r1,i,ev,q1⟩=>?_) hev
 subst ev
 cases r1
 obtain⟨fd,F,b,kp,_⟩:=G i
 refine PySem.W.callWith_K (first:=[]) (h₀:=X.base) I1.ok.mod.R8 kp (dq (ha pos pp s1 σ H1 _ I1 q1) fun us s2 ⟨vs,H2,I2,r,q⟩=>⟨I2.Fi,?_⟩) he oM
 exact FC F (hr.mono hk) b .nil hx I2 r (by rw[append_nil];exact q)
end
structure UU (K:W.Frag) (a:Addr) (ps:List (Int×Int)):Prop where
 ob:∃(es:Array DictEntry) (ep:Nat),K.lookup a=some ⟨.type "dict",none,.dict es ep,#[]⟩∧Paired (fun(p:Int×Int) (e:DictEntry)=>(∃t,e.key = .int p.1 t)∧e.hash=hashInt p.1∧∃t,e.val = .int p.2 t) ps es.toList
 sys:(a==sysModules)=false
 nd:(ps.map fun p=>p.1).Nodup
def XC (ps:List (Int×Int)):List (Key×V):=ps.map fun p=>((Sum.inl p.1:Key),V.int p.2)
theorem FN {P:Program} {w:World}:∀{ps:List (Int×Int)} {es:List DictEntry},Paired (fun(p:Int×Int) (e:DictEntry)=>(∃t,e.key = .int p.1 t)∧e.hash=hashInt p.1∧∃t,e.val = .int p.2 t) ps es →
 ∃vs,KV (XC ps) vs∧Pairs (cp P w) es vs∧(∀e∈es,∃k,(cp P w).is k e.key=true∧e.hash=(cp P w).hash k)∧vs.map (·.1)=ps.map fun p=>(Sum.inl p.1:Key)
 |_,_,.nil=>⟨[],.nil,.nil,(fun _ h=>nomatch h),rfl⟩
 |_,_,.cons (a:=p) (b:=e) h t=>by
  obtain⟨vs,h1,h2,h3,h4⟩:=FN (P:=P) (w:=w) t
  obtain⟨⟨t1,e1⟩,e2,t2,e3⟩:=h
  have hk:(cp P w).is (Sum.inl p.1) e.key=true:=by rw[e1];exact Df P w _ _
  refine⟨((Sum.inl p.1:Key),e.val)::vs,.cons ⟨rfl,⟨t2,e3⟩⟩ h1,.cons hk rfl h2,fun x hx=>?_,by rw[map_cons,h4];rfl⟩
  rcases mem_cons.mp hx with rfl|hx
  ·exact⟨Sum.inl p.1,hk,e2⟩
  ·exact h3 x hx
theorem UU.dict {K:W.Frag} {a:Addr} {ps:List (Int×Int)} (k:UU K a ps) {P:Program} {w:World} {h:Heap} (hK:K.In h):∃vs,KV (XC ps) vs∧h.DictOf (cp P w) a vs:=by
 obtain⟨es,ep,lk,pr⟩:=k.ob
 obtain⟨vs,h1,h2,h3,h4⟩:=FN (P:=P) (w:=w) pr
 refine⟨vs,h1,_,es,ep,hK a _ lk,⟨rfl,rfl,rfl⟩,rfl,(fun e he=>h3 e (by simpa using he)),h2,?_⟩
 rw[h4]
 have e:(ps.map fun p=>(Sum.inl p.1:Key))=(ps.map fun p=>p.1).map Sum.inl:=by rw[map_map];rfl
 rw[e]
 exact List.Pairwise.map _ (fun a b n z=>n (by injection z)) k.nd
section
variable {X:Cx} {a:Addr} {XD:List (Int×Int)} {o i:Expr} {ty:TE} {pos:Pos}
def ahG (XD:List (Int×Int)) (ty:TE):TE:=fun σ H Q=>ty σ H fun y H1=>∃k:Int,y = .int k∧Q (.bl (jt (XC XD) (Sum.inl k)).isSome) H1
theorem XE (hk:UU X.K a XD) (hi:PE X i ty) (ho:PE X o (tC (.ref a))):PC X .In i o (ahG XD ty):=by
 intro pp s σ H Q I h
 refine dq (hi pp s σ H _ I h) fun iv s1 ⟨y,H1,I1,ry,k,ey,q1⟩=>dq (ho pp s1 σ H1 (fun x H2=>x = .ref a∧H2=H1) I1 ⟨rfl,rfl⟩) fun u s2 ⟨x,H2,I2,rx,ex,eH⟩=>?_
 subst ex ey eH
 obtain rfl:u=Value.ref a:=rx
 obtain⟨vs,rel,dd⟩:=hk.dict (P:=X.prog) (w:=X.w) I2.Fi
 refine wpAny_in_of (Ae (k:=Sum.inl k) ry) hk.sys dd.mapOf ?_
 rw[←(rel.val (Sum.inl k)).nB]
 exact⟨.bl (jt (XC XD) (Sum.inl k)).isSome,H2,I2.tok _,rfl,q1⟩
def ad7 (XD:List (Int×Int)) (ty:TE):TE:=fun σ H Q=>ty σ H fun y H1=>∃(k:Int) (v:V),y = .int k∧jt (XC XD) (Sum.inl k)=some v∧Q v H1
theorem UW (hk:UU X.K a XD) (ho:PE X o (tC (.ref a))) (hi:PE X i ty) (hs:aaX i):PE X (.Subscript o i pos) (ad7 XD ty):=by
 intro pp s σ H Q I h
 refine Q8 F.slot_dict_getitem.lookup hs (dq (ho pp s σ H (fun x H2=>x = .ref a∧H2=H) I ⟨rfl,rfl⟩) fun u s1 ⟨x,H1,I1,rx,ex,eH⟩=>?_)
 subst ex eH
 obtain rfl:u=Value.ref a:=rx
 refine dq (hi pp s1 σ H1 _ I1 h) fun iv s2 ⟨y,H2,I2,ry,k,v,ey,l,q2⟩=>?_
 subst ey
 obtain⟨vs,rel,dd⟩:=hk.dict (P:=X.prog) (w:=X.w) I2.Fi
 obtain⟨w',hw,Uv⟩:=uc.some_of (v:=v) (o:=valueAt vs (Sum.inl k)) (by rw[←l];exact rel.val (Sum.inl k))
 exact⟨dd.typeIs,wpAny_getItem_of (Ae (k:=Sum.inl k) ry) dd.mapOf hw ⟨v,H2,I2.tok _,Uv,q2⟩⟩
end
end L2
namespace MI
open PySem L2
def top (i:Nat):Stmt:=PySem.Challenge.pw_mendedimage_s01_answers.main.body.getD i (.Pass ⟨0,0,0,0⟩)
abbrev FO:Stmt:=top 6
abbrev ur:Stmt:=top 11
abbrev yG:Stmt:=top 12
abbrev pR:Stmt:=inClass (top 13) 0
abbrev nL:Stmt:=inClass (top 13) 1
abbrev pS:Stmt:=inClass (top 13) 2
abbrev me:Stmt:=inClass (top 13) 3
abbrev mf:Stmt:=inClass (top 13) 4
abbrev gB:Stmt:=inClass (top 13) 5
abbrev pT:Stmt:=inClass (top 13) 6
abbrev yH:Stmt:=inClass (top 17) 0
abbrev rG:Stmt:=inClass (top 17) 1
abbrev iY:Stmt:=inClass (top 17) 2
abbrev rH:Stmt:=inClass (top 17) 3
abbrev uu:Stmt:=top 18
abbrev pU:Stmt:=top 19
abbrev nM:Stmt:=top 20
abbrev Ah:Stmt:=top 21
abbrev uv:Stmt:=top 22
abbrev jk:Stmt:=top 23
abbrev uw:Stmt:=inClass (top 25) 0
abbrev iZ:Stmt:=inClass (top 25) 1
abbrev ju:Stmt:=inClass (top 25) 2
abbrev kU:Stmt:=inClass (top 25) 3
abbrev nN:Stmt:=inClass (top 25) 4
abbrev rJ:Stmt:=inClass (top 25) 5
abbrev gV:Stmt:=inClass (top 25) 6
abbrev yI:Stmt:=inClass (top 25) 7
abbrev ux:Stmt:=inClass (top 28) 0
abbrev nO:Stmt:=inClass (top 29) 0
abbrev i3:Stmt:=inClass (top 29) 1
abbrev jv:Stmt:=inClass (top 29) 2
abbrev i4:Stmt:=inClass (top 29) 3
abbrev uy:Stmt:=top 30
abbrev nP:Stmt:=inClass (top 48) 0
abbrev mh:Stmt:=inClass (top 49) 0
abbrev rK:Stmt:=top 50
abbrev nQ:Stmt:=top 51
abbrev nR:Stmt:=top 52
abbrev kW:Stmt:=top 53
abbrev B4:Stmt:=top 54
abbrev m5:Stmt:=top 55
abbrev nT:Stmt:=top 56
abbrev pV:Stmt:=top 57
abbrev lB:Stmt:=inClass (top 63) 0
abbrev jM:Stmt:=inClass (top 63) 1
abbrev ij:Stmt:=inClass (top 63) 2
abbrev B5:Stmt:=top 64
abbrev B6:Stmt:=top 65
abbrev B7:Stmt:=top 66
abbrev uz:Stmt:=top 67
abbrev pW:Stmt:=top 68
abbrev uA:Stmt:=top 69
abbrev yJ:Stmt:=top 72
abbrev rL:Stmt:=top 73
abbrev jN:Stmt:=inClass (top 74) 0
abbrev rM:Stmt:=inClass (top 75) 0
abbrev uB:Stmt:=inClass (top 75) 1
abbrev rN:Stmt:=inClass (top 75) 2
abbrev i5:Stmt:=inClass (top 75) 3
abbrev i6:Stmt:=inClass (top 75) 4
abbrev i7:Stmt:=inClass (top 75) 5
abbrev i8:Stmt:=inClass (top 75) 6
abbrev rO:Stmt:=inClass (top 75) 7
abbrev lC:Stmt:=inClass (top 75) 8
abbrev nU:Stmt:=inClass (top 78) 0
abbrev jw:Stmt:=inClass (top 78) 1
abbrev i9:Stmt:=inClass (top 78) 2
abbrev uC:Stmt:=top 79
abbrev uD:Stmt:=inClass (top 81) 0
abbrev rP:Stmt:=top 82
abbrev pX:Stmt:=top 83
abbrev pY:Stmt:=top 84
abbrev yL:Stmt:=top 87
abbrev nV:Stmt:=top 88
abbrev rQ:Stmt:=top 89
abbrev uE:Stmt:=inClass (top 92) 0
abbrev jx:Stmt:=inClass (top 92) 1
abbrev KS:Stmt:=top 93
abbrev uF:Stmt:=top 94
abbrev UX:Stmt:=top 95
abbrev O4:Stmt:=top 96
abbrev O5:Stmt:=top 97
abbrev O6:Stmt:=top 98
abbrev O7:Stmt:=top 99
abbrev KU:Stmt:=top 100
abbrev FP:Stmt:=top 102
abbrev uG:Stmt:=top 103
abbrev nE:Stmt:=top 104
theorem fk {N P:List Str} {sc:Scope} (k:sc.kind = .function:=by rfl) (c:sc.isCoroutine=false:=by rfl) (g:sc.isGenerator=false:=by rfl) (n:N.Nodup:=by decide +kernel) (p:N.take P.length=P:=by rfl) (q:∀x∈P,sc.names.lookup x=some .local∨sc.names.lookup x=some .cell:=by decide +kernel) (r:∀y∈sc.names,y.2≠.free:=by decide +kernel):ay N P sc:=⟨k,c,g,n,p,q,r⟩
theorem Ss:ay ["held"] ["held"] (ao FO):=fk
theorem m6:ay ["row","at","size","value","byte"] ["row","at","size"] (ao ur):=fk
theorem oY:ay ["digits","beginning","value","digit"] ["digits","beginning"] (ao yG):=fk
theorem FQ:ay ["self","row","at"] ["self","row","at"] (ao pR):=fk
theorem Ej:ay ["self"] ["self"] (ao nL):=fk
theorem FR:ay ["self"] ["self"] (ao pS):=fk
theorem gh:ay ["self","found","more","byte"] ["self"] (ao me):=fk
theorem qz:ay ["self","value"] ["self"] (ao mf):=fk
theorem gi:ay ["self","digits","beginning"] ["self"] (ao gB):=fk
theorem jO:ay ["self","letters","letter"] ["self"] (ao pT):=fk
theorem MT:ay ["self","place","count","stride"] ["self","place","count","stride"] (ao yH):=fk
theorem Ia:ay ["self"] ["self"] (ao rG):=fk
theorem uH:ay ["self","k"] ["self","k"] (ao iY):=fk
theorem Ib:ay ["self"] ["self"] (ao rH):=fk
theorem Ai:ay ["count","between","stride"] ["count","between"] (ao uu):=fk
theorem FT:ay ["run","bound"] ["run","bound"] (ao pU):=fk
theorem Ek:ay ["run","span"] ["run","span"] (ao nM):=fk
theorem wD:ay ["ground","place","count","between","run","span"] ["ground","place","count","between"] (ao Ah):=fk
theorem rR:ay ["runs","places","run"] ["runs"] (ao uv):=fk
theorem eB:ay ["runs","length","places","close","run","before","after"] ["runs","length"] (ao jk):=fk
theorem KW:ay ["self","part","ground"] ["self","part","ground"] (ao uw):=fk
theorem lR:ay ["self","byte"] ["self"] (ao iZ):=fk
theorem wO:ay ["self"] ["self"] (ao ju):=fk
theorem Aj:ay ["self","n"] ["self","n"] (ao kU):=fk
theorem El:ay ["self","n"] ["self","n"] (ao nN):=fk
theorem Ic:ay ["self","far"] ["self","far"] (ao rJ):=fk
theorem gC:ay ["self","count","between"] ["self"] (ao gV):=fk
theorem Dp:ay ["self","count","between","run"] ["self","count","between"] (ao yI):=fk
theorem KY:ay ["self","run","library","library_name","name","added"] ["self","run","library","library_name","name","added"] (ao ux):=fk
theorem Em:ay ["self","part","ground","libraries"] ["self","part","ground","libraries"] (ao nO):=fk
theorem uI:ay ["self"] ["self"] (ao i3):=fk
theorem ja:ay ["self","count","between","run","library_name"] ["self","count","between"] (ao jv):=fk
theorem uJ:ay ["self","what","n"] ["self","what","n"] (ao i4):=fk
theorem Ak:ay ["part","ground","libraries","walk"] ["part","ground","libraries"] (ao uy):=fk
theorem En:ay ["self","command"] ["self","command"] (ao nP):=fk
theorem B8:ay ["self"] ["self"] (ao mh):=fk
theorem Ie:ay ["file"] ["file"] (ao rK):=fk
theorem tD:ay ["contents","command","file","segment"] ["contents","command","file"] (ao nQ):=fk
theorem Eo:ay ["contents","command"] ["contents","command"] (ao nR):=fk
theorem Al:ay ["contents","command"] ["contents","command"] (ao kW):=fk
theorem yM:ay ["command","at","file","place","size"] ["command","at","file"] (ao B4):=fk
theorem pZ:ay ["contents","command","file","at"] ["contents","command","file"] (ao m5):=fk
theorem tE:ay ["contents","command","file","kind"] ["contents","command","file"] (ao nT):=fk
theorem ik:ay ["file","contents","end","turn","length"] ["file"] (ao pV):=fk
theorem nW:ay ["self","segments","laid","segment"] ["self","segments","laid"] (ao lB):=fk
theorem nX:ay ["self","index","segment"] ["self","index"] (ao jM):=fk
theorem dw:ay ["self","file","held","segment","begin","k"] ["self","file"] (ao ij):=fk
theorem O8:ay ["segment","home"] ["segment","home"] (ao B5):=fk
theorem O9:ay ["segment"] ["segment"] (ao B6):=fk
theorem Pa:ay ["segments"] ["segments"] (ao B7):=fk
theorem m7:ay ["laid","end","segment"] ["laid"] (ao uz):=fk
theorem FU:ay ["first","contents"] ["first","contents"] (ao pW):=fk
theorem Am:ay ["contents","laid"] ["contents"] (ao uA):=fk
theorem uK:ay ["row","at","value","k"] ["row","at","value"] (ao yJ):=fk
theorem Ig:ay ["letters"] ["letters"] (ao rL):=fk
theorem yN:ay ["self","place","want"] ["self","place","want"] (ao jN):=fk
theorem Ih:ay ["self","ground","beginning","held","mended","wanted","names"] ["self","ground","beginning","held","mended","wanted","names"] (ao rM):=fk
theorem KZ:ay ["self","base"] ["self","base"] (ao uB):=fk
theorem p6:ay ["self","at","most","found","place"] ["self","at","most"] (ao rN):=fk
theorem uL:ay ["self","place"] ["self","place"] (ao i5):=fk
theorem uM:ay ["self","name"] ["self","name"] (ao i6):=fk
theorem fm:ay ["self","k","behind","want"] ["self","k"] (ao i7):=fk
theorem fo:ay ["self","k","word","want","numbers"] ["self","k"] (ao i8):=fk
theorem xD:ay ["self","k","value","word"] ["self","k","value"] (ao rO):=fk
theorem il:ay ["self","lies","wanted","want"] ["self"] (ao lC):=fk
theorem Ep:ay ["self","part","ground"] ["self","part","ground"] (ao nU):=fk
theorem wQ:ay ["self","count","between"] ["self","count","between"] (ao jw):=fk
theorem uN:ay ["self","what","n"] ["self","what","n"] (ao i9):=fk
theorem An:ay ["part","ground","walk"] ["part","ground"] (ao uC):=fk
theorem K0:ay ["self","at","name"] ["self","at","name"] (ao uD):=fk
theorem lD:ay ["cursor","node","given","length","size","end","place"] ["cursor","node","given","length"] (ao rP):=fk
theorem ip:ay ["cursor","node","below","turn","letters","name"] ["cursor","node"] (ao pX):=fk
theorem eE:ay ["part","length","given","waiting","met","node","cursor","below"] ["part","length"] (ao pY):=fk
theorem MU:ay ["contents"] ["contents"] (ao yL):=fk
theorem Er:ay ["contents"] ["contents"] (ao nV):=fk
theorem dG:ay ["file","contents","ground","parts","runs_mended","wanted","names","places","mended","want"] ["file"] (ao rQ):=fk
theorem K1:ay ["self"] ["self"] (ao uE):=fk
theorem wR:ay ["self"] ["self"] (ao jx):=fk
theorem UY:ay ["desk","call"] ["desk","call"] (ao KS):=fk
theorem K2:ay ["desk","call"] ["desk","call"] (ao uF):=fk
theorem abd:ay ["desk","call"] ["desk","call"] (ao UX):=fk
theorem Rg:ay ["desk","call","found"] ["desk","call"] (ao O4):=fk
theorem XF:ay ["desk","call"] ["desk","call"] (ao O5):=fk
theorem XG:ay ["desk","call"] ["desk","call"] (ao O6):=fk
theorem XH:ay ["desk","call"] ["desk","call"] (ao O7):=fk
theorem UZ:ay ["desk","call"] ["desk","call"] (ao KU):=fk
theorem Su:ay ["desk","call"] ["desk","call"] (ao FP):=fk
theorem K3:ay ["calls","at"] ["calls","at"] (ao uG):=fk
theorem jy:ay ["calls","desk","answered","at","length","told"] ["calls"] (ao nE):=fk
set_option genInjectivity false in
set_option genSizeOf false in
structure Ad0 where
 cv:Addr
 aE:Addr
 dM:Addr
 bK:Addr
 bM:Addr
 bA:Addr
 tF:Addr
 jb:Addr
 mi:Addr
 aP:Addr
 cD:Addr
 bV:Addr
 c9:Addr
 fq:Addr
 bS:Addr
 a9:Addr
 kX:Addr
 fC:Addr
 Pb:Addr
 B9:Addr
 FV:Addr
 uO:Addr
 rS:Addr
 uP:Addr
 p7:Addr
 p8:Addr
 iq:Addr
 uQ:Addr
 FW:Addr
 yO:Addr
 jP:Addr
 yQ:Addr
 Ca:Addr
 uR:Addr
 rT:Addr
 Pc:Addr
 Cb:Addr
 uS:Addr
 wF:Addr
 cA:Addr
 d7:Addr
 gj:Addr
 iF:Addr
 kY:Addr
 bU:Addr
 qA:Addr
 Cc:Addr
 rV:Addr
 jQ:Addr
 iG:Addr
 jR:Addr
 Cd:Addr
 rW:Addr
 p9:Addr
 yR:Addr
 rX:Addr
 rY:Addr
 nY:Addr
 part_of:Addr
 yS:Addr
 rZ:Addr
 uT:Addr
 uU:Addr
 mj:Addr
 jz:Addr
 K4:Addr
 K5:Addr
 K6:Addr
 Ce:Addr
 uV:Addr
 Cf:Addr
 FX:Addr
 yT:Addr
 mm:Addr
 yU:Addr
 Cg:Addr
 yV:Addr
 jS:Addr
 jT:Addr
 jU:Addr
 jV:Addr
 yW:Addr
 uW:Addr
 r6:Addr
 iH:Addr
 jW:Addr
 Ci:Addr
 Cj:Addr
 yX:Addr
 uX:Addr
 uY:Addr
 FY:Addr
 r9:Addr
 Ao:Addr
 Ck:Addr
 kZ:Addr
 begin:Addr
 qB:Addr
 lay:Addr
 read:Addr
 find:Addr
 want:Addr
 fill:Addr
 about:Addr
 answer:Addr
 Cm:Addr
 answers:Addr
 da:Addr
 jX:Addr
 de:Addr
 oZ:Addr
 nF:Addr
structure Ad extends Ad0 where
 new:Addr→Prop
structure Tx0 (K:W.Frag) (mg:Str→Option Value) (a:Ad0):Prop where
 MV:FA K "demand" "demand" FO ["held"] a.Pb
 aA:mg "demand" = some (.ref a.Pb)
 Dq:FA K "number_at" "number_at" ur ["row","at","size"] a.B9
 a8:mg "number_at" = some (.ref a.B9)
 FZ:FA K "value_of" "value_of" yG ["digits","beginning"] a.FV
 yY:mg "value_of" = some (.ref a.FV)
 xE:FA K "__init__" "Cursor.__init__" pR ["self","row","at"] a.uO
 uZ:FA K "ended" "Cursor.ended" nL ["self"] a.rS
 xF:FA K "byte" "Cursor.byte" pS ["self"] a.uP
 tG:FA K "digits" "Cursor.digits" me ["self"] a.p7
 tH:FA K "sevens" "Cursor.sevens" mf ["self"] a.p8
 jY:FA K "signed_sevens" "Cursor.signed_sevens" gB ["self"] a.iq
 xG:FA K "text" "Cursor.text" pT ["self"] a.uQ
 F2:FA K "__init__" "Run.__init__" yH ["self","place","count","stride"] a.FW
 Ap:FA K "lowest" "Run.lowest" rG ["self"] a.yO
 mw:FA K "place_of_word" "Run.place_of_word" iY ["self","k"] a.jP
 Aq:FA K "places" "Run.places" rH ["self"] a.yQ
 Dr:FA K "stride_of" "stride_of" uu ["count","between"] a.Ca
 Ds:mg "stride_of" = some (.ref a.Ca)
 xH:FA K "words_up_to" "words_up_to" pU ["run","bound"] a.uR
 qa:mg "words_up_to" = some (.ref a.uR)
 u0:FA K "words_within" "words_within" nM ["run","span"] a.rT
 u1:mg "words_within" = some (.ref a.rT)
 MW:FA K "run_of" "run_of" Ah ["ground","place","count","between"] a.Pc
 MY:mg "run_of" = some (.ref a.Pc)
 Dt:FA K "places_of" "places_of" uv ["runs"] a.Cb
 u3:mg "places_of" = some (.ref a.Cb)
 xI:FA K "check_apart" "check_apart" jk ["runs","length"] a.uS
 xJ:mg "check_apart" = some (.ref a.uS)
 Du:FA K "__init__" "Walk.__init__" uw ["self","part","ground"] a.wF
 mx:FA K "walk_through" "Walk.walk_through" iZ ["self"] a.cA
 nZ:FA K "check_zeros" "Walk.check_zeros" ju ["self"] a.d7
 qC:FA K "tell_kind" "Walk.tell_kind" kU ["self","n"] a.gj
 u4:FA K "go_into" "Walk.go_into" nN ["self","n"] a.iF
 Ar:FA K "go_on" "Walk.go_on" rJ ["self","far"] a.kY
 kI:FA K "do_words_apart" "Walk.do_words_apart" gV ["self"] a.bU
 F3:FA K "run" "Walk.run" yI ["self","count","between"] a.qA
 Dv:FA K "__init__" "Want.__init__" ux ["self","run","library","library_name","name","added"] a.Cc
 u5:FA K "__init__" "Binding.__init__" nO ["self","part","ground","libraries"] a.rV
 my:FA K "tell_name" "Binding.tell_name" i3 ["self"] a.jQ
 n8:FA K "do_words" "Binding.do_words" jv ["self","count","between"] a.iG
 mz:FA K "take_step" "Binding.take_step" i4 ["self","what","n"] a.jR
 Dw:FA K "wanted_by" "wanted_by" uy ["part","ground","libraries"] a.Cd
 Dx:mg "wanted_by" = some (.ref a.Cd)
 u6:FA K "__init__" "Segment.__init__" nP ["self","command"] a.rW
 tI:FA K "__init__" "Contents.__init__" mh ["self"] a.p9
 As:FA K "check_head" "check_head" rK ["file"] a.yR
 Au:mg "check_head" = some (.ref a.yR)
 u7:FA K "take_segment" "take_segment" nQ ["contents","command","file"] a.rX
 u9:mg "take_segment" = some (.ref a.rX)
 vc:FA K "take_library" "take_library" nR ["contents","command"] a.rY
 vd:mg "take_library" = some (.ref a.rY)
 qD:FA K "take_beginning" "take_beginning" kW ["contents","command"] a.nY
 qE:mg "take_beginning" = some (.ref a.nY)
 JR:FA K "part_of" "part_of" B4 ["command","at","file"] a.part_of
 JS:mg "part_of" = some (.ref a.part_of)
 Av:FA K "take_parts" "take_parts" m5 ["contents","command","file"] a.yS
 Aw:mg "take_parts" = some (.ref a.yS)
 ve:FA K "take_command" "take_command" nT ["contents","command","file"] a.rZ
 vf:mg "take_command" = some (.ref a.rZ)
 xK:FA K "contents_of" "contents_of" pV ["file"] a.uT
 xM:mg "contents_of" = some (.ref a.uT)
 xN:FA K "__init__" "Ground.__init__" lB ["self","segments","laid"] a.uU
 o3:FA K "place_of" "Ground.place_of" jM ["self","index"] a.mj
 lS:FA K "filled_with" "Ground.filled_with" ij ["self","file"] a.jz
 JT:FA K "span_of" "span_of" B5 ["segment","home"] a.K4
 JU:mg "span_of" = some (.ref a.K4)
 JV:FA K "is_bare" "is_bare" B6 ["segment"] a.K5
 Cn:mg "is_bare" = some (.ref a.K5)
 JW:FA K "laid_of" "laid_of" B7 ["segments"] a.K6
 JX:mg "laid_of" = some (.ref a.K6)
 Dy:FA K "check_row" "check_row" uz ["laid"] a.Ce
 Dz:mg "check_row" = some (.ref a.Ce)
 xO:FA K "check_first" "check_first" pW ["first","contents"] a.uV
 xP:mg "check_first" = some (.ref a.uV)
 DA:FA K "ground_of" "ground_of" uA ["contents"] a.Cf
 DB:mg "ground_of" = some (.ref a.Cf)
 F4:FA K "put_word" "put_word" yJ ["row","at","value"] a.FX
 yZ:mg "put_word" = some (.ref a.FX)
 Ax:FA K "with_zeros" "with_zeros" rL ["letters"] a.yT
 sd:mg "with_zeros" = some (.ref a.yT)
 o4:FA K "__init__" "WantedWord.__init__" jN ["self","place","want"] a.mm
 Ay:FA K "__init__" "Image.__init__" rM ["self","ground","beginning","held","mended","wanted","names"] a.yU
 DC:FA K "lay" "Image.lay" uB ["self","base"] a.Cg
 Az:FA K "read" "Image.read" rN ["self","at","most"] a.yV
 mB:FA K "mended_word" "Image.mended_word" i5 ["self","place"] a.jS
 mC:FA K "place_named" "Image.place_named" i6 ["self","name"] a.jT
 mD:FA K "wanted_word" "Image.wanted_word" i7 ["self","k"] a.jU
 mE:FA K "tell_wanted" "Image.tell_wanted" i8 ["self","k"] a.jV
 AA:FA K "fill" "Image.fill" rO ["self","k","value"] a.yW
 xQ:FA K "about" "Image.about" lC ["self"] a.uW
 vg:FA K "__init__" "Mending.__init__" nU ["self","part","ground"] a.r6
 n9:FA K "do_words" "Mending.do_words" jw ["self","count","between"] a.iH
 mF:FA K "take_step" "Mending.take_step" i9 ["self","what","n"] a.jW
 DD:FA K "mended_by" "mended_by" uC ["part","ground"] a.Ci
 DE:mg "mended_by" = some (.ref a.Ci)
 DF:FA K "__init__" "Node.__init__" uD ["self","at","name"] a.Cj
 AB:FA K "take_place" "take_place" rP ["cursor","node","given","length"] a.yX
 AD:mg "take_place" = some (.ref a.yX)
 xR:FA K "nodes_below" "nodes_below" pX ["cursor","node"] a.uX
 xS:mg "nodes_below" = some (.ref a.uX)
 xT:FA K "names_given" "names_given" pY ["part","length"] a.uY
 xU:mg "names_given" = some (.ref a.uY)
 F5:FA K "parts_of" "parts_of" yL ["contents"] a.FY
 F6:mg "parts_of" = some (.ref a.FY)
 vh:FA K "beginning_of" "beginning_of" nV ["contents"] a.r9
 vi:mg "beginning_of" = some (.ref a.r9)
 F7:FA K "image_of" "image_of" rQ ["file"] a.Ao
 F8:mg "image_of" = some (.ref a.Ao)
 DG:FA K "__init__" "Desk.__init__" uE ["self"] a.Ck
 oa:FA K "image_there" "Desk.image_there" jx ["self"] a.kZ
 Rh:FA K "begin" "begin" KS ["desk","call"] a.begin
 XI:mg "begin" = some (.ref a.begin)
 DH:FA K "take_file" "take_file" uF ["desk","call"] a.qB
 MZ:mg "take_file" = some (.ref a.qB)
 ZF:FA K "lay" "lay" UX ["desk","call"] a.lay
 ad8:mg "lay" = some (.ref a.lay)
 U0:FA K "read" "read" O4 ["desk","call"] a.read
 abe:mg "read" = some (.ref a.read)
 U1:FA K "find" "find" O5 ["desk","call"] a.find
 abf:mg "find" = some (.ref a.find)
 U2:FA K "want" "want" O6 ["desk","call"] a.want
 abg:mg "want" = some (.ref a.want)
 U3:FA K "fill" "fill" O7 ["desk","call"] a.fill
 abh:mg "fill" = some (.ref a.fill)
 Ri:FA K "about" "about" KU ["desk","call"] a.about
 XJ:mg "about" = some (.ref a.about)
 M0:FA K "answer" "answer" FP ["desk","call"] a.answer
 M1:mg "answer" = some (.ref a.answer)
 DJ:FA K "length_of" "length_of" uG ["calls","at"] a.Cm
 DK:mg "length_of" = some (.ref a.Cm)
 Co:FA K "answers" "answers" nE ["calls"] a.answers
 JY:mg "answers" = some (.ref a.answers)
 Cp:Sr K mg "NoImage" a.cv
 qF:Sr K mg "BadFile" a.aE
 Cq:Sr K mg "BadBase" a.dM
 qb:Sr K mg "UnknownName" a.bK
 vj:Sr K mg "NotWanted" a.bM
 o5:W.exmOne K (.ref a.cv) (.ref a.cv)=some true
 AE:W.exmOne K (.ref a.cv) (.ref a.aE)=some false
 AF:W.exmOne K (.ref a.cv) (.ref a.dM)=some false
 tY:W.exmOne K (.ref a.cv) (.ref a.bK)=some false
 wU:W.exmOne K (.ref a.cv) (.ref a.bM)=some false
 o6:W.exmOne K (.ref a.aE) (.ref a.cv)=some false
 o7:W.exmOne K (.ref a.aE) (.ref a.aE)=some true
 AG:W.exmOne K (.ref a.aE) (.ref a.dM)=some false
 tZ:W.exmOne K (.ref a.aE) (.ref a.bK)=some false
 wV:W.exmOne K (.ref a.aE) (.ref a.bM)=some false
 o8:W.exmOne K (.ref a.dM) (.ref a.cv)=some false
 o9:W.exmOne K (.ref a.dM) (.ref a.aE)=some false
 pb:W.exmOne K (.ref a.dM) (.ref a.dM)=some true
 t4:W.exmOne K (.ref a.dM) (.ref a.bK)=some false
 wW:W.exmOne K (.ref a.dM) (.ref a.bM)=some false
 kJ:W.exmOne K (.ref a.bK) (.ref a.cv)=some false
 kK:W.exmOne K (.ref a.bK) (.ref a.aE)=some false
 kL:W.exmOne K (.ref a.bK) (.ref a.dM)=some false
 iP:W.exmOne K (.ref a.bK) (.ref a.bK)=some true
 qG:W.exmOne K (.ref a.bK) (.ref a.bM)=some false
 mG:W.exmOne K (.ref a.bM) (.ref a.cv)=some false
 mH:W.exmOne K (.ref a.bM) (.ref a.aE)=some false
 mI:W.exmOne K (.ref a.bM) (.ref a.dM)=some false
 jD:W.exmOne K (.ref a.bM) (.ref a.bK)=some false
 kM:W.exmOne K (.ref a.bM) (.ref a.bM)=some true
 AH:mg "Cursor" = some (.ref a.bA)
 aL:Dh K a.bA
 nG:Mk K a.bA a.uO
 jZ:Meth K a.bA "ended" a.rS
 fD:Meth K a.bA "byte" a.uP
 mn:Meth K a.bA "digits" a.p7
 bq:Meth K a.bA "sevens" a.p8
 j7:Meth K a.bA "signed_sevens" a.iq
 lE:Meth K a.bA "text" a.uQ
 gR:aK K a.bA "row"
 dS:aK K a.bA "at"
 ZG:mg "Run" = some (.ref a.tF)
 dU:Dh K a.tF
 K7:Mk K a.tF a.FW
 AI:Meth K a.tF "lowest" a.yO
 fR:Meth K a.tF "place_of_word" a.jP
 AJ:Meth K a.tF "places" a.yQ
 gD:aK K a.tF "place"
 cK:aK K a.tF "count"
 dY:aK K a.tF "stride"
 Pd:mg "Walk" = some (.ref a.jb)
 XM:Dh K a.jb
 K8:Mk K a.jb a.wF
 wX:Meth K a.jb "walk_through" a.cA
 y2:Meth K a.jb "check_zeros" a.d7
 Cr:Meth K a.jb "tell_kind" a.gj
 F9:Meth K a.jb "go_into" a.iF
 K9:Meth K a.jb "go_on" a.kY
 t5:Meth K a.jb "do_words_apart" a.bU
 Pe:Meth K a.jb "run" a.qA
 og:aK K a.jb "cursor"
 oh:aK K a.jb "ground"
 j8:aK K a.jb "kind_told"
 jA:aK K a.jb "place_told"
 qc:aK K a.jb "place"
 U4:mg "Want" = some (.ref a.mi)
 eU:Dh K a.mi
 E3:Mk K a.mi a.Cc
 bC:aK K a.mi "run_wanted"
 gO:aK K a.mi "library"
 dH:aK K a.mi "library_name"
 iI:aK K a.mi "name"
 gT:aK K a.mi "added"
 JZ:mg "Binding" = some (.ref a.aP)
 aQ:Dh K a.aP
 se:Mk K a.aP a.rV
 mK:Meth K a.aP "tell_name" a.jQ
 eI:Meth K a.aP "do_words" a.iG
 mL:Meth K a.aP "take_step" a.jR
 gE:Meth K a.aP "walk_through" a.cA
 kN:Meth K a.aP "check_zeros" a.d7
 jc:Meth K a.aP "tell_kind" a.gj
 j9:Meth K a.aP "go_into" a.iF
 mq:Meth K a.aP "go_on" a.kY
 fE:Meth K a.aP "do_words_apart" a.bU
 qd:Meth K a.aP "run" a.qA
 cT:aK K a.aP "libraries"
 bO:aK K a.aP "library"
 du:aK K a.aP "name"
 d8:aK K a.aP "added"
 dN:aK K a.aP "wanted"
 g9:aK K a.aP "cursor"
 hU:aK K a.aP "ground"
 ft:aK K a.aP "kind_told"
 eV:aK K a.aP "place_told"
 iJ:aK K a.aP "place"
 J0:mg "Segment" = some (.ref a.cD)
 aG:Dh K a.cD
 sf:Mk K a.cD a.rW
 aX:aK K a.cD "place"
 cn:aK K a.cD "size"
 cB:aK K a.cD "source"
 bL:aK K a.cD "filled"
 df:aK K a.cD "rights"
 dR:aK K a.cD "sections"
 Ga:mg "Contents" = some (.ref a.bV)
 aM:Dh K a.bV
 pd:Mk K a.bV a.p9
 bB:aK K a.bV "reach"
 b8:aK K a.bV "segments"
 bW:aK K a.bV "libraries"
 bc:aK K a.bV "beginning"
 cC:aK K a.bV "parts"
 M3:mg "Ground" = some (.ref a.c9)
 bI:Dh K a.c9
 wG:Mk K a.c9 a.uU
 pf:Meth K a.c9 "place_of" a.mj
 lT:Meth K a.c9 "filled_with" a.jz
 dA:aK K a.c9 "segments"
 gq:aK K a.c9 "laid"
 cH:aK K a.c9 "home"
 cU:aK K a.c9 "length"
 gP:aK K a.c9 "spans"
 AK:mg "WantedWord" = some (.ref a.fq)
 fF:Dh K a.fq
 lF:Mk K a.fq a.mm
 dj:aK K a.fq "place"
 dB:aK K a.fq "want"
 Rj:mg "Image" = some (.ref a.bS)
 ba:Dh K a.bS
 AL:Mk K a.bS a.yU
 DL:Meth K a.bS "lay" a.Cg
 AM:Meth K a.bS "read" a.yV
 mM:Meth K a.bS "mended_word" a.jS
 mO:Meth K a.bS "place_named" a.jT
 jd:Meth K a.bS "wanted_word" a.jU
 mP:Meth K a.bS "tell_wanted" a.jV
 AN:Meth K a.bS "fill" a.yW
 xV:Meth K a.bS "about" a.uW
 dQ:aK K a.bS "ground"
 fG:aK K a.bS "base"
 eJ:aK K a.bS "beginning"
 fH:aK K a.bS "held"
 fh:aK K a.bS "mended"
 fi:aK K a.bS "wanted"
 eL:aK K a.bS "names"
 J1:mg "Mending" = some (.ref a.a9)
 cO:Dh K a.a9
 si:Mk K a.a9 a.r6
 eN:Meth K a.a9 "do_words" a.iH
 mQ:Meth K a.a9 "take_step" a.jW
 gF:Meth K a.a9 "walk_through" a.cA
 kO:Meth K a.a9 "check_zeros" a.d7
 je:Meth K a.a9 "tell_kind" a.gj
 kc:Meth K a.a9 "go_into" a.iF
 jm:Meth K a.a9 "go_on" a.kY
 fI:Meth K a.a9 "do_words_apart" a.bU
 qe:Meth K a.a9 "run" a.qA
 dO:aK K a.a9 "mended"
 hX:aK K a.a9 "cursor"
 hZ:aK K a.a9 "ground"
 fu:aK K a.a9 "kind_told"
 eW:aK K a.a9 "place_told"
 iK:aK K a.a9 "place"
 Pf:mg "Node" = some (.ref a.kX)
 lG:Dh K a.kX
 AO:Mk K a.kX a.Cj
 ir:aK K a.kX "at"
 gG:aK K a.kX "name"
 U5:mg "Desk" = some (.ref a.fC)
 jn:Dh K a.fC
 E4:Mk K a.fC a.Ck
 cP:Meth K a.fC "image_there" a.kZ
 dZ:aK K a.fC "image"
 La:ZD K a.jb a.wF "__init__"
 gU:GI mg "MODULUS" 18446744073709551616
 xW:GI mg "MOST_DIGITS" 10
 ph:GI mg "MOST_TEXT" 255
 mr:GI mg "WORD" 8
 AQ:GI mg "MOST_WORDS" 65536
 lU:GI mg "HEAD_SIZE" 32
 Rk:GI mg "MAGIC" 4277009103
 DM:GI mg "PROCESSOR" 16777223
 tJ:GI mg "MOST_COMMANDS" 256
 J2:GI mg "SEGMENT" 25
 J3:GI mg "LIBRARY" 12
 DN:GI mg "BEGINNING" 2147483688
 Rl:GI mg "PARTS" 2147483682
 Gb:GI mg "PAGE" 4096
 vk:GI mg "SEGMENT_SIZE" 72
 vm:GI mg "SECTION_SIZE" 80
 kd:GI mg "LIBRARY_NAME" 24
 qH:GI mg "MOST_LIBRARIES" 64
 qI:GI mg "BEGINNING_SIZE" 24
 AR:GI mg "PARTS_SIZE" 48
 DO:GI mg "MOST_LAID" 16
 sj:GI mg "MOST_REACH" 4194304
 U6:GI mg "TOP" 140737488355328
 J4:GI mg "WRITTEN" 2
 DP:GI mg "MOST_READ" 4194304
 DQ:GI mg "MOST_FILE" 1048576
 da:mg "STEPS_WITH_N_binding" = some (.ref a.da)
 ke:∀H,tV K H a.da [.int 1,.int 5,.int 7,.int 11]
 jX:mg "FILE_KINDS" = some (.ref a.jX)
 AS:∀H,tV K H a.jX [.int 2,.int 6,.int 8]
 de:mg "STEPS_WITH_N_mending" = some (.ref a.de)
 kf:∀H,tV K H a.de [.int 1,.int 2,.int 4,.int 5]
 oZ:mg "CALLS" = some (.ref a.oZ)
 Rm:∀H,tV K H a.oZ [.ref a.begin,.ref a.qB,.ref a.lay,.ref a.read,.ref a.find,.ref a.want,.ref a.fill,.ref a.about]
 nF:mg "LENGTHS" = some (.ref a.nF)
 y3:UU K a.nF [(0,1),(2,2),(3,3),(5,2),(6,3),(7,1)]
 U7:mg "abs" = none
 U8:mg "dict" = none
 eO:mg "len" = none
 Pg:mg "list" = none
 ZH:mg "max" = none
 U9:mg "min" = none
 sk:mg "range" = none
 y4:mg "reversed" = none
 M4:mg "sorted" = none
 Ro:mg "sum" = none
 Lb:mg "tuple" = none
 Va:mg "zip" = none
abbrev Tx (K:W.Frag) (mg:Str→Option Value) (a:Ad):Prop:=Tx0 K mg a.toAd0
def bX (x0 x1:V):List (Str×V):=("row",x0)::("at",x1)::[]
theorem sm {x0 x1:V}:(bX x0 x1).lookup ("row" : Str)=some x0:=by kernel_rfl
theorem lV {x0 x1:V}:(bX x0 x1).lookup ("at" : Str)=some x1:=by kernel_rfl
theorem Es {x0 x1:V} {y:V}:aF "at" y (bX x0 x1)=bX x0 y:=by kernel_rfl
theorem d9 {x0 x1:V}:(bX x0 x1).lookup ("byte" : Str)=none:=by kernel_rfl
theorem oi {x0 x1:V}:(bX x0 x1).lookup ("digits" : Str)=none:=by kernel_rfl
theorem kg {x0 x1:V}:(bX x0 x1).lookup ("ended" : Str)=none:=by kernel_rfl
theorem aY {x0 x1:V}:(bX x0 x1).lookup ("sevens" : Str)=none:=by kernel_rfl
theorem oO {x0 x1:V}:(bX x0 x1).lookup ("signed_sevens" : Str)=none:=by kernel_rfl
theorem k7 {x0 x1:V}:(bX x0 x1).lookup ("text" : Str)=none:=by kernel_rfl
theorem Lc {x0 x1:V}:(bX x0 x1).length=2:=rfl
theorem M5 {x0 x1:V}:(aF "at" x1 (aF "row" x0 []))=bX x0 x1:=by kernel_rfl
def xX (x0 x1 x2:V):List (Str×V):=("place",x0)::("count",x1)::("stride",x2)::[]
theorem vn {x0 x1 x2:V}:(xX x0 x1 x2).lookup ("place" : Str)=some x0:=by kernel_rfl
theorem gx {x0 x1 x2:V}:(xX x0 x1 x2).lookup ("count" : Str)=some x1:=by kernel_rfl
theorem m8 {x0 x1 x2:V}:(xX x0 x1 x2).lookup ("stride" : Str)=some x2:=by kernel_rfl
theorem Et {x0 x1 x2:V}:(xX x0 x1 x2).lookup ("lowest" : Str)=none:=by kernel_rfl
theorem gH {x0 x1 x2:V}:(xX x0 x1 x2).lookup ("place_of_word" : Str)=none:=by kernel_rfl
theorem Eu {x0 x1 x2:V}:(xX x0 x1 x2).lookup ("places" : Str)=none:=by kernel_rfl
theorem Vb {x0 x1 x2:V}:(aF "stride" x2 (aF "count" x1 (aF "place" x0 [])))=xX x0 x1 x2:=by kernel_rfl
def bE (x0 x1 x2 x3 x4:V) (ext:List (Str×V)):List (Str×V):=("cursor",x0)::("ground",x1)::("kind_told",x2)::("place_told",x3)::("place",x4)::ext
theorem bF {x0 x1 x2 x3 x4:V} {ext:List (Str×V)}:(bE x0 x1 x2 x3 x4 ext).lookup ("cursor" : Str)=some x0:=by kernel_rfl
theorem xY {x0 x1 x2 x3 x4:V} {ext:List (Str×V)}:(bE x0 x1 x2 x3 x4 ext).lookup ("ground" : Str)=some x1:=by kernel_rfl
theorem Cs {x0 x1 x2 x3 x4:V} {ext:List (Str×V)}:(bE x0 x1 x2 x3 x4 ext).lookup ("kind_told" : Str)=some x2:=by kernel_rfl
theorem vo {x0 x1 x2 x3 x4:V} {ext:List (Str×V)} {y:V}:aF "kind_told" y (bE x0 x1 x2 x3 x4 ext)=bE x0 x1 y x3 x4 ext:=by kernel_rfl
theorem AU {x0 x1 x2 x3 x4:V} {ext:List (Str×V)}:(bE x0 x1 x2 x3 x4 ext).lookup ("place_told" : Str)=some x3:=by kernel_rfl
theorem t6 {x0 x1 x2 x3 x4:V} {ext:List (Str×V)} {y:V}:aF "place_told" y (bE x0 x1 x2 x3 x4 ext)=bE x0 x1 x2 y x4 ext:=by kernel_rfl
theorem AV {x0 x1 x2 x3 x4:V} {ext:List (Str×V)}:(bE x0 x1 x2 x3 x4 ext).lookup ("place" : Str)=some x4:=by kernel_rfl
theorem qJ {x0 x1 x2 x3 x4:V} {ext:List (Str×V)} {y:V}:aF "place" y (bE x0 x1 x2 x3 x4 ext)=bE x0 x1 x2 x3 y ext:=by kernel_rfl
theorem Sv {x0 x1 x2 x3 x4:V}:(aF "place" x4 (aF "place_told" x3 (aF "kind_told" x2 (aF "ground" x1 (aF "cursor" x0 [])))))=bE x0 x1 x2 x3 x4 []:=by kernel_rfl
def so (x0 x1 x2 x3 x4:V):List (Str×V):=("run_wanted",x0)::("library",x1)::("library_name",x2)::("name",x3)::("added",x4)::[]
theorem dP {x0 x1 x2 x3 x4:V}:(so x0 x1 x2 x3 x4).lookup ("run_wanted" : Str)=some x0:=by kernel_rfl
theorem Gd {x0 x1 x2 x3 x4:V}:(so x0 x1 x2 x3 x4).lookup ("library" : Str)=some x1:=by kernel_rfl
theorem wY {x0 x1 x2 x3 x4:V}:(so x0 x1 x2 x3 x4).lookup ("library_name" : Str)=some x2:=by kernel_rfl
theorem DR {x0 x1 x2 x3 x4:V}:(so x0 x1 x2 x3 x4).lookup ("name" : Str)=some x3:=by kernel_rfl
theorem AW {x0 x1 x2 x3 x4:V}:(so x0 x1 x2 x3 x4).lookup ("added" : Str)=some x4:=by kernel_rfl
theorem Sw {x0 x1 x2 x3 x4:V}:(aF "added" x4 (aF "name" x3 (aF "library_name" x2 (aF "library" x1 (aF "run_wanted" x0 [])))))=so x0 x1 x2 x3 x4:=by kernel_rfl
def ef (x0 x1 x2 x3 x4 x5 x6 x7 x8 x9:V):List (Str×V):=bE x0 x1 x2 x3 x4 [("libraries",x5),("library",x6),("name",x7),("added",x8),("wanted",x9)]
theorem mR {x0 x1 x2 x3 x4 x5 x6 x7 x8 x9:V}:(ef x0 x1 x2 x3 x4 x5 x6 x7 x8 x9).lookup ("libraries" : Str)=some x5:=by kernel_rfl
theorem kh {x0 x1 x2 x3 x4 x5 x6 x7 x8 x9:V}:(ef x0 x1 x2 x3 x4 x5 x6 x7 x8 x9).lookup ("library" : Str)=some x6:=by kernel_rfl
theorem kP {x0 x1 x2 x3 x4 x5 x6 x7 x8 x9:V} {y:V}:aF "library" y (ef x0 x1 x2 x3 x4 x5 x6 x7 x8 x9)=ef x0 x1 x2 x3 x4 x5 y x7 x8 x9:=by kernel_rfl
theorem oj {x0 x1 x2 x3 x4 x5 x6 x7 x8 x9:V}:(ef x0 x1 x2 x3 x4 x5 x6 x7 x8 x9).lookup ("name" : Str)=some x7:=by kernel_rfl
theorem y6 {x0 x1 x2 x3 x4 x5 x6 x7 x8 x9:V} {y:V}:aF "name" y (ef x0 x1 x2 x3 x4 x5 x6 x7 x8 x9)=ef x0 x1 x2 x3 x4 x5 x6 y x8 x9:=by kernel_rfl
theorem Ew {x0 x1 x2 x3 x4 x5 x6 x7 x8 x9:V}:(ef x0 x1 x2 x3 x4 x5 x6 x7 x8 x9).lookup ("added" : Str)=some x8:=by kernel_rfl
theorem wZ {x0 x1 x2 x3 x4 x5 x6 x7 x8 x9:V} {y:V}:aF "added" y (ef x0 x1 x2 x3 x4 x5 x6 x7 x8 x9)=ef x0 x1 x2 x3 x4 x5 x6 x7 y x9:=by kernel_rfl
theorem qK {x0 x1 x2 x3 x4 x5 x6 x7 x8 x9:V}:(ef x0 x1 x2 x3 x4 x5 x6 x7 x8 x9).lookup ("wanted" : Str)=some x9:=by kernel_rfl
theorem Ld {x0 x1 x2 x3 x4 x5 x6 x7 x8 x9:V}:(aF "wanted" x9 (aF "added" x8 (aF "name" x7 (aF "library" x6 (aF "libraries" x5 (bE x0 x1 x2 x3 x4 []))))))=ef x0 x1 x2 x3 x4 x5 x6 x7 x8 x9:=by kernel_rfl
def jE (x0 x1 x2 x3 x4 x5:V):List (Str×V):=("place",x0)::("size",x1)::("source",x2)::("filled",x3)::("rights",x4)::("sections",x5)::[]
theorem bQ {x0 x1 x2 x3 x4 x5:V}:(jE x0 x1 x2 x3 x4 x5).lookup ("place" : Str)=some x0:=by kernel_rfl
theorem gu {x0 x1 x2 x3 x4 x5:V}:(jE x0 x1 x2 x3 x4 x5).lookup ("size" : Str)=some x1:=by kernel_rfl
theorem iL {x0 x1 x2 x3 x4 x5:V}:(jE x0 x1 x2 x3 x4 x5).lookup ("source" : Str)=some x2:=by kernel_rfl
theorem eg {x0 x1 x2 x3 x4 x5:V}:(jE x0 x1 x2 x3 x4 x5).lookup ("filled" : Str)=some x3:=by kernel_rfl
theorem k9 {x0 x1 x2 x3 x4 x5:V}:(jE x0 x1 x2 x3 x4 x5).lookup ("rights" : Str)=some x4:=by kernel_rfl
theorem y8 {x0 x1 x2 x3 x4 x5:V}:(jE x0 x1 x2 x3 x4 x5).lookup ("sections" : Str)=some x5:=by kernel_rfl
theorem Le {x0 x1 x2 x3 x4 x5:V}:(aF "sections" x5 (aF "rights" x4 (aF "filled" x3 (aF "source" x2 (aF "size" x1 (aF "place" x0 []))))))=jE x0 x1 x2 x3 x4 x5:=by kernel_rfl
def cQ (x0 x1 x2 x3 x4:V):List (Str×V):=("reach",x0)::("segments",x1)::("libraries",x2)::("beginning",x3)::("parts",x4)::[]
theorem dC {x0 x1 x2 x3 x4:V}:(cQ x0 x1 x2 x3 x4).lookup ("reach" : Str)=some x0:=by kernel_rfl
theorem vp {x0 x1 x2 x3 x4:V} {y:V}:aF "reach" y (cQ x0 x1 x2 x3 x4)=cQ y x1 x2 x3 x4:=by kernel_rfl
theorem jf {x0 x1 x2 x3 x4:V}:(cQ x0 x1 x2 x3 x4).lookup ("segments" : Str)=some x1:=by kernel_rfl
theorem iu {x0 x1 x2 x3 x4:V}:(cQ x0 x1 x2 x3 x4).lookup ("libraries" : Str)=some x2:=by kernel_rfl
theorem dI {x0 x1 x2 x3 x4:V}:(cQ x0 x1 x2 x3 x4).lookup ("beginning" : Str)=some x3:=by kernel_rfl
theorem qf {x0 x1 x2 x3 x4:V} {y:V}:aF "beginning" y (cQ x0 x1 x2 x3 x4)=cQ x0 x1 x2 y x4:=by kernel_rfl
theorem lg {x0 x1 x2 x3 x4:V}:(cQ x0 x1 x2 x3 x4).lookup ("parts" : Str)=some x4:=by kernel_rfl
theorem vq {x0 x1 x2 x3 x4:V} {y:V}:aF "parts" y (cQ x0 x1 x2 x3 x4)=cQ x0 x1 x2 x3 y:=by kernel_rfl
theorem om {x0 x1 x2 x3 x4:V}:(cQ x0 x1 x2 x3 x4).length=5:=rfl
theorem Ii {x0 x1 x2 x3 x4:V}:(aF "parts" x4 (aF "beginning" x3 (aF "libraries" x2 (aF "segments" x1 (aF "reach" x0 [])))))=cQ x0 x1 x2 x3 x4:=by kernel_rfl
def gQ (x0 x1 x2 x3 x4:V):List (Str×V):=("segments",x0)::("laid",x1)::("home",x2)::("length",x3)::("spans",x4)::[]
theorem pj {x0 x1 x2 x3 x4:V}:(gQ x0 x1 x2 x3 x4).lookup ("segments" : Str)=some x0:=by kernel_rfl
theorem xZ {x0 x1 x2 x3 x4:V}:(gQ x0 x1 x2 x3 x4).lookup ("laid" : Str)=some x1:=by kernel_rfl
theorem lH {x0 x1 x2 x3 x4:V}:(gQ x0 x1 x2 x3 x4).lookup ("home" : Str)=some x2:=by kernel_rfl
theorem jo {x0 x1 x2 x3 x4:V}:(gQ x0 x1 x2 x3 x4).lookup ("length" : Str)=some x3:=by kernel_rfl
theorem Ge {x0 x1 x2 x3 x4:V}:(gQ x0 x1 x2 x3 x4).lookup ("spans" : Str)=some x4:=by kernel_rfl
theorem qL {x0 x1 x2 x3 x4:V}:(gQ x0 x1 x2 x3 x4).lookup ("filled_with" : Str)=none:=by kernel_rfl
theorem vt {x0 x1 x2 x3 x4:V}:(gQ x0 x1 x2 x3 x4).lookup ("place_of" : Str)=none:=by kernel_rfl
theorem M6 {x0 x1 x2 x3 x4:V}:(aF "spans" x4 (aF "length" x3 (aF "home" x2 (aF "laid" x1 (aF "segments" x0 [])))))=gQ x0 x1 x2 x3 x4:=by kernel_rfl
def ki (x0 x1:V):List (Str×V):=("place",x0)::("want",x1)::[]
theorem oo {x0 x1:V}:(ki x0 x1).lookup ("place" : Str)=some x0:=by kernel_rfl
theorem px {x0 x1:V}:(ki x0 x1).lookup ("want" : Str)=some x1:=by kernel_rfl
theorem Ex {x0 x1:V}:(aF "want" x1 (aF "place" x0 []))=ki x0 x1:=by kernel_rfl
def cM (x0 x1 x2 x3 x4 x5 x6:V):List (Str×V):=("ground",x0)::("base",x1)::("beginning",x2)::("held",x3)::("mended",x4)::("wanted",x5)::("names",x6)::[]
theorem vv {x0 x1 x2 x3 x4 x5 x6:V}:(cM x0 x1 x2 x3 x4 x5 x6).lookup ("ground" : Str)=some x0:=by kernel_rfl
theorem AX {x0 x1 x2 x3 x4 x5 x6:V}:(cM x0 x1 x2 x3 x4 x5 x6).lookup ("base" : Str)=some x1:=by kernel_rfl
theorem Ct {x0 x1 x2 x3 x4 x5 x6:V} {y:V}:aF "base" y (cM x0 x1 x2 x3 x4 x5 x6)=cM x0 y x2 x3 x4 x5 x6:=by kernel_rfl
theorem AY {x0 x1 x2 x3 x4 x5 x6:V}:(cM x0 x1 x2 x3 x4 x5 x6).lookup ("beginning" : Str)=some x2:=by kernel_rfl
theorem AZ {x0 x1 x2 x3 x4 x5 x6:V}:(cM x0 x1 x2 x3 x4 x5 x6).lookup ("held" : Str)=some x3:=by kernel_rfl
theorem vw {x0 x1 x2 x3 x4 x5 x6:V}:(cM x0 x1 x2 x3 x4 x5 x6).lookup ("mended" : Str)=some x4:=by kernel_rfl
theorem Gf {x0 x1 x2 x3 x4 x5 x6:V}:(cM x0 x1 x2 x3 x4 x5 x6).lookup ("wanted" : Str)=some x5:=by kernel_rfl
theorem ya {x0 x1 x2 x3 x4 x5 x6:V}:(cM x0 x1 x2 x3 x4 x5 x6).lookup ("names" : Str)=some x6:=by kernel_rfl
theorem Cu {x0 x1 x2 x3 x4 x5 x6:V}:(cM x0 x1 x2 x3 x4 x5 x6).lookup ("about" : Str)=none:=by kernel_rfl
theorem Ey {x0 x1 x2 x3 x4 x5 x6:V}:(cM x0 x1 x2 x3 x4 x5 x6).lookup ("fill" : Str)=none:=by kernel_rfl
theorem Gg {x0 x1 x2 x3 x4 x5 x6:V}:(cM x0 x1 x2 x3 x4 x5 x6).lookup ("lay" : Str)=none:=by kernel_rfl
theorem sr {x0 x1 x2 x3 x4 x5 x6:V}:(cM x0 x1 x2 x3 x4 x5 x6).lookup ("mended_word" : Str)=none:=by kernel_rfl
theorem sv {x0 x1 x2 x3 x4 x5 x6:V}:(cM x0 x1 x2 x3 x4 x5 x6).lookup ("place_named" : Str)=none:=by kernel_rfl
theorem Ez {x0 x1 x2 x3 x4 x5 x6:V}:(cM x0 x1 x2 x3 x4 x5 x6).lookup ("read" : Str)=none:=by kernel_rfl
theorem sx {x0 x1 x2 x3 x4 x5 x6:V}:(cM x0 x1 x2 x3 x4 x5 x6).lookup ("tell_wanted" : Str)=none:=by kernel_rfl
theorem kj {x0 x1 x2 x3 x4 x5 x6:V}:(cM x0 x1 x2 x3 x4 x5 x6).lookup ("wanted_word" : Str)=none:=by kernel_rfl
theorem M7 {x0 x1 x2 x3 x4 x5 x6:V}:(cM x0 x1 x2 x3 x4 x5 x6).length=7:=rfl
theorem Ph {x0 x1 x2 x3 x4 x5 x6:V}:(aF "names" x6 (aF "wanted" x5 (aF "mended" x4 (aF "held" x3 (aF "beginning" x2 (aF "base" x1 (aF "ground" x0 [])))))))=cM x0 x1 x2 x3 x4 x5 x6:=by kernel_rfl
def Sx (x0 x1 x2 x3 x4 x5:V):List (Str×V):=bE x0 x1 x2 x3 x4 [("mended",x5)]
theorem Lf {x0 x1 x2 x3 x4 x5:V}:(aF "mended" x5 (bE x0 x1 x2 x3 x4 []))=Sx x0 x1 x2 x3 x4 x5:=by kernel_rfl
def lh (x0 x1:V):List (Str×V):=("at",x0)::("name",x1)::[]
theorem wH {x0 x1:V}:(lh x0 x1).lookup ("at" : Str)=some x0:=by kernel_rfl
theorem vx {x0 x1:V}:(lh x0 x1).lookup ("name" : Str)=some x1:=by kernel_rfl
theorem Sy {x0 x1:V}:(aF "name" x1 (aF "at" x0 []))=lh x0 x1:=by kernel_rfl
def fJ (x0:V):List (Str×V):=("image",x0)::[]
theorem A0 {x0:V}:(fJ x0).lookup ("image" : Str)=some x0:=by kernel_rfl
theorem qM {x0:V} {y:V}:aF "image" y (fJ x0)=fJ y:=by kernel_rfl
theorem cE {x0:V}:(fJ x0).lookup ("image_there" : Str)=none:=by kernel_rfl
theorem Gh {x0:V}:(fJ x0).length=1:=rfl
theorem Sz {x0:V}:(aF "image" x0 [])=fJ x0:=by kernel_rfl
structure FnAt (K:W.Frag) (x qual:Str) (st:Stmt) (f:Addr):Prop where
 ex:∃(oc:Value) (od:Option Addr) (kV doc pm:Value) (an:Option Addr) (b6 ct:Value) (JI:Array (Option Value)),K.lookup f=some ⟨oc,od,.func (W.fnOf x qual (gZ st) (fQ st) (ao st) .none kV doc pm an b6 ct),JI⟩∧W.codeIn K b6 qual=true
 kp:W.keepIn K (.ref f)=true
theorem fnAt {K:W.Frag} {x qual:Str} {st:Stmt} {f:Addr} {oc:Value} {od:Option Addr} {kV doc pm:Value} {an:Option Addr} {b6 ct:Value} {JI:Array (Option Value)} (l:K.lookup f=some ⟨oc,od,.func (W.fnOf x qual (gZ st) (fQ st) (ao st) .none kV doc pm an b6 ct),JI⟩) (c:W.codeIn K b6 qual=true) (k:W.keepIn K (.ref f)=true):FnAt K x qual st f:=⟨⟨oc,od,kV,doc,pm,an,b6,ct,JI,l,c⟩,k⟩
theorem FnAt.fa {K:W.Frag} {x qual:Str} {st:Stmt} {ps:List Str} {f:Addr} (l:FnAt K x qual st f)
 (h:∀(kV doc pm:Value) (an:Option Addr) (b6 ct:Value) (us:List Value),us.length=ps.length→bindArgs (W.fnOf x qual (gZ st) (fQ st) (ao st) .none kV doc pm an b6 ct) ⟨us,[]⟩=pure (ps.zip us)):FA K x qual st ps f:=by
 obtain⟨oc,od,kV,doc,pm,an,b6,ct,JI,lk,c⟩:=l.ex
 exact⟨_,UR lk c l.kp,(UR lk c l.kp).binds h⟩
theorem b9 {us:List Value} {n:Nat} (h:us.length=n+1):∃a r,us=a::r∧r.length=n:=by cases us with
 |nil=>cases h
 |cons a r=>exact⟨a,r,rfl,Nat.succ.inj h⟩
theorem FnAt.A1 {K:W.Frag} {x qual:Str} {st:Stmt} {ps:List Str} {f:Addr} (l:FnAt K x qual st f) (hn:ps.length=1) (h:∀(kV doc pm:Value) (an:Option Addr) (b6 ct a0:Value),bindArgs (W.fnOf x qual (gZ st) (fQ st) (ao st) .none kV doc pm an b6 ct) ⟨[a0],[]⟩=pure (ps.zip [a0])):FA K x qual st ps f:=by
 refine l.fa fun kV doc pm an b6 ct us hl=>?_
 obtain⟨a0,us,rfl,k0⟩:=b9 (hl.trans hn)
 obtain rfl:=eq_nil_of_length_eq_zero k0
 exact h _ _ _ _ _ _ a0
theorem FnAt.wI {K:W.Frag} {x qual:Str} {st:Stmt} {ps:List Str} {f:Addr} (l:FnAt K x qual st f) (hn:ps.length=2) (h:∀(kV doc pm:Value) (an:Option Addr) (b6 ct a0 a1:Value),bindArgs (W.fnOf x qual (gZ st) (fQ st) (ao st) .none kV doc pm an b6 ct) ⟨[a0,a1],[]⟩=pure (ps.zip [a0,a1])):FA K x qual st ps f:=by
 refine l.fa fun kV doc pm an b6 ct us hl=>?_
 obtain⟨a0,us,rfl,k0⟩:=b9 (hl.trans hn)
 obtain⟨a1,us,rfl,k1⟩:=b9 k0
 obtain rfl:=eq_nil_of_length_eq_zero k1
 exact h _ _ _ _ _ _ a0 a1
theorem FnAt.J5 {K:W.Frag} {x qual:Str} {st:Stmt} {ps:List Str} {f:Addr} (l:FnAt K x qual st f) (hn:ps.length=3) (h:∀(kV doc pm:Value) (an:Option Addr) (b6 ct a0 a1 a2:Value),bindArgs (W.fnOf x qual (gZ st) (fQ st) (ao st) .none kV doc pm an b6 ct) ⟨[a0,a1,a2],[]⟩=pure (ps.zip [a0,a1,a2])):FA K x qual st ps f:=by
 refine l.fa fun kV doc pm an b6 ct us hl=>?_
 obtain⟨a0,us,rfl,k0⟩:=b9 (hl.trans hn)
 obtain⟨a1,us,rfl,k1⟩:=b9 k0
 obtain⟨a2,us,rfl,k2⟩:=b9 k1
 obtain rfl:=eq_nil_of_length_eq_zero k2
 exact h _ _ _ _ _ _ a0 a1 a2
theorem FnAt.fa4 {K:W.Frag} {x qual:Str} {st:Stmt} {ps:List Str} {f:Addr} (l:FnAt K x qual st f) (hn:ps.length=4) (h:∀(kV doc pm:Value) (an:Option Addr) (b6 ct a0 a1 a2 a3:Value),bindArgs (W.fnOf x qual (gZ st) (fQ st) (ao st) .none kV doc pm an b6 ct) ⟨[a0,a1,a2,a3],[]⟩=pure (ps.zip [a0,a1,a2,a3])):FA K x qual st ps f:=by
 refine l.fa fun kV doc pm an b6 ct us hl=>?_
 obtain⟨a0,us,rfl,k0⟩:=b9 (hl.trans hn)
 obtain⟨a1,us,rfl,k1⟩:=b9 k0
 obtain⟨a2,us,rfl,k2⟩:=b9 k1
 obtain⟨a3,us,rfl,k3⟩:=b9 k2
 obtain rfl:=eq_nil_of_length_eq_zero k3
 exact h _ _ _ _ _ _ a0 a1 a2 a3
theorem FnAt.fa6 {K:W.Frag} {x qual:Str} {st:Stmt} {ps:List Str} {f:Addr} (l:FnAt K x qual st f) (hn:ps.length=6) (h:∀(kV doc pm:Value) (an:Option Addr) (b6 ct a0 a1 a2 a3 a4 a5:Value),bindArgs (W.fnOf x qual (gZ st) (fQ st) (ao st) .none kV doc pm an b6 ct) ⟨[a0,a1,a2,a3,a4,a5],[]⟩=pure (ps.zip [a0,a1,a2,a3,a4,a5])):FA K x qual st ps f:=by
 refine l.fa fun kV doc pm an b6 ct us hl=>?_
 obtain⟨a0,us,rfl,k0⟩:=b9 (hl.trans hn)
 obtain⟨a1,us,rfl,k1⟩:=b9 k0
 obtain⟨a2,us,rfl,k2⟩:=b9 k1
 obtain⟨a3,us,rfl,k3⟩:=b9 k2
 obtain⟨a4,us,rfl,k4⟩:=b9 k3
 obtain⟨a5,us,rfl,k5⟩:=b9 k4
 obtain rfl:=eq_nil_of_length_eq_zero k5
 exact h _ _ _ _ _ _ a0 a1 a2 a3 a4 a5
theorem FnAt.fa7 {K:W.Frag} {x qual:Str} {st:Stmt} {ps:List Str} {f:Addr} (l:FnAt K x qual st f) (hn:ps.length=7) (h:∀(kV doc pm:Value) (an:Option Addr) (b6 ct a0 a1 a2 a3 a4 a5 a6:Value),bindArgs (W.fnOf x qual (gZ st) (fQ st) (ao st) .none kV doc pm an b6 ct) ⟨[a0,a1,a2,a3,a4,a5,a6],[]⟩=pure (ps.zip [a0,a1,a2,a3,a4,a5,a6])):FA K x qual st ps f:=by
 refine l.fa fun kV doc pm an b6 ct us hl=>?_
 obtain⟨a0,us,rfl,k0⟩:=b9 (hl.trans hn)
 obtain⟨a1,us,rfl,k1⟩:=b9 k0
 obtain⟨a2,us,rfl,k2⟩:=b9 k1
 obtain⟨a3,us,rfl,k3⟩:=b9 k2
 obtain⟨a4,us,rfl,k4⟩:=b9 k3
 obtain⟨a5,us,rfl,k5⟩:=b9 k4
 obtain⟨a6,us,rfl,k6⟩:=b9 k5
 obtain rfl:=eq_nil_of_length_eq_zero k6
 exact h _ _ _ _ _ _ a0 a1 a2 a3 a4 a5 a6
theorem ad9 {K:W.Frag} {h:Heap} {mg:Str→Option Value} (X:K.In h) (G:h.Ns mainGlobals mg) {cV cW cX bz bT cg gI bY fv aN cj bZ cz ck bG aW iw iy Gi vy y9 lI kl lJ jq jr dW lK sy m9 fS ng vz qg oq Gj vA qh lW dk dD eo gv iM cF lq pz km fT gJ fU vB kn js sE ot ou lr Cv sF ow qi lL ia fw Cw Cy Cz vC qj vD za sG ib nh pA ni fV fW fX fY nj lM ko gK fZ vE pB sI qk qm zb ox zc pC gL E5 pD Rp Lg Lh Li Lj E6 Gk vF CA fK oy fL CB pE:Addr}
 {Gn:Tok}
 {vG:Tok}
 {A2:Tok}
 {Rq:Tok}
 {yb:Tok}
 {A3:Tok}
 {M8:Tok}
 {A4:Tok}
 {qN:Tok}
 {Gp:Tok}
 {Gq:Tok}
 {A5:Tok}
 {M9:Tok}
 {Rr:Tok}
 {tK:Tok}
 {tL:Tok}
 {tM:Tok}
 {pF:Tok}
 {pG:Tok}
 {yd:Tok}
 {A6:Tok}
 {yf:Tok}
 {Vc:Tok}
 {Gr:Tok}
 {A7:Tok}
 {A8:Tok}
 {iQ iR iS iT:Tok}
 {qO:Option Addr} {qP:Nat} {qQ:Array (Option Value)}
 {tN tO tP:Tok}
 {Ij:Option Addr} {Ik:Nat} {Il:Array (Option Value)}
 {iU iV iW iX:Tok}
 {qR:Option Addr} {qS:Nat} {qT:Array (Option Value)}
 {Vd:Option Addr} {Ve:Nat} {Vf:Array (Option Value)}
 {A9 Ba Bb Bc Bd Be Bf Bg Bh Bi yg yh:Tok} {Pj:Nat}
 (SA:W.nsIn K mainGlobals "NoImage" = some (some (.ref cV)))
 (SD:W.nsIn K mainGlobals "BadFile" = some (some (.ref cW)))
 (SE:W.nsIn K mainGlobals "BadBase" = some (some (.ref cX)))
 (Im:W.nsIn K mainGlobals "UnknownName" = some (some (.ref bz)))
 (Na:W.nsIn K mainGlobals "NotWanted" = some (some (.ref bT)))
 (Vg:W.nsIn K mainGlobals "Cursor" = some (some (.ref cg)))
 (aea:W.nsIn K mainGlobals "Run" = some (some (.ref gI)))
 (abi:W.nsIn K mainGlobals "Walk" = some (some (.ref bY)))
 (abj:W.nsIn K mainGlobals "Want" = some (some (.ref fv)))
 (SF:W.nsIn K mainGlobals "Binding" = some (some (.ref aN)))
 (SG:W.nsIn K mainGlobals "Segment" = some (some (.ref cj)))
 (Pk:W.nsIn K mainGlobals "Contents" = some (some (.ref bZ)))
 (Vh:W.nsIn K mainGlobals "Ground" = some (some (.ref cz)))
 (Lk:W.nsIn K mainGlobals "WantedWord" = some (some (.ref ck)))
 (XN:W.nsIn K mainGlobals "Image" = some (some (.ref bG)))
 (SH:W.nsIn K mainGlobals "Mending" = some (some (.ref aW)))
 (abk:W.nsIn K mainGlobals "Node" = some (some (.ref iw)))
 (abl:W.nsIn K mainGlobals "Desk" = some (some (.ref iy)))
 (Vi:W.nsIn K mainGlobals "demand" = some (some (.ref Gi)))
 (Vj:FnAt K "demand" "demand" FO Gi)
 (Nb:W.nsIn K mainGlobals "number_at" = some (some (.ref vy)))
 (Nc:FnAt K "number_at" "number_at" ur vy)
 (Pl:W.nsIn K mainGlobals "value_of" = some (some (.ref y9)))
 (Pm:FnAt K "value_of" "value_of" yG y9)
 (Io:W.findIn K (.ref cg) "__init__" = some (some (.ref lI)))
 (Ip:W.isFn K (.ref lI)=true)
 (Iq:FnAt K "__init__" "Cursor.__init__" pR lI)
 (Gs:W.findIn K (.ref cg) "ended" = some (some (.ref kl)))
 (Gu:W.isFn K (.ref kl)=true)
 (vH:FnAt K "ended" "Cursor.ended" nL kl)
 (Ir:W.findIn K (.ref cg) "byte" = some (some (.ref lJ)))
 (Iu:W.isFn K (.ref lJ)=true)
 (yi:FnAt K "byte" "Cursor.byte" pS lJ)
 (EA:W.findIn K (.ref cg) "digits" = some (some (.ref jq)))
 (EB:W.isFn K (.ref jq)=true)
 (tQ:FnAt K "digits" "Cursor.digits" me jq)
 (EC:W.findIn K (.ref cg) "sevens" = some (some (.ref jr)))
 (ED:W.isFn K (.ref jr)=true)
 (tR:FnAt K "sevens" "Cursor.sevens" mf jr)
 (sJ:W.findIn K (.ref cg) "signed_sevens" = some (some (.ref dW)))
 (sL:W.isFn K (.ref dW)=true)
 (kq:FnAt K "signed_sevens" "Cursor.signed_sevens" gB dW)
 (Iv:W.findIn K (.ref cg) "text" = some (some (.ref lK)))
 (Iw:W.isFn K (.ref lK)=true)
 (yj:FnAt K "text" "Cursor.text" pT lK)
 (Pn:W.findIn K (.ref gI) "__init__" = some (some (.ref sy)))
 (Po:W.isFn K (.ref sy)=true)
 (Pp:FnAt K "__init__" "Run.__init__" yH sy)
 (Ll:W.findIn K (.ref gI) "lowest" = some (some (.ref m9)))
 (Lm:W.isFn K (.ref m9)=true)
 (Bj:FnAt K "lowest" "Run.lowest" rG m9)
 (w6:W.findIn K (.ref gI) "place_of_word" = some (some (.ref fS)))
 (w8:W.isFn K (.ref fS)=true)
 (mS:FnAt K "place_of_word" "Run.place_of_word" iY fS)
 (Ln:W.findIn K (.ref gI) "places" = some (some (.ref ng)))
 (Lo:W.isFn K (.ref ng)=true)
 (Bk:FnAt K "places" "Run.places" rH ng)
 (Nd:W.nsIn K mainGlobals "stride_of" = some (some (.ref vz)))
 (Nf:FnAt K "stride_of" "stride_of" uu vz)
 (Iy:W.nsIn K mainGlobals "words_up_to" = some (some (.ref qg)))
 (Iz:FnAt K "words_up_to" "words_up_to" pU qg)
 (Gv:W.nsIn K mainGlobals "words_within" = some (some (.ref oq)))
 (Gw:FnAt K "words_within" "words_within" nM oq)
 (Vk:W.nsIn K mainGlobals "run_of" = some (some (.ref Gj)))
 (Vl:FnAt K "run_of" "run_of" Ah Gj)
 (Ng:W.nsIn K mainGlobals "places_of" = some (some (.ref vA)))
 (Nh:FnAt K "places_of" "places_of" uv vA)
 (IA:W.nsIn K mainGlobals "check_apart" = some (some (.ref qh)))
 (IB:FnAt K "check_apart" "check_apart" jk qh)
 (Ni:W.findIn K (.ref bY) "__init__" = some (some (.ref lW)))
 (Nj:W.isFn K (.ref lW)=true)
 (Nl:FnAt K "__init__" "Walk.__init__" uw lW)
 (w9:W.findIn K (.ref bY) "walk_through" = some (some (.ref dk)))
 (jg:W.isFn K (.ref dk)=true)
 (f9:FnAt K "walk_through" "Walk.walk_through" iZ dk)
 (zd:W.findIn K (.ref bY) "check_zeros" = some (some (.ref dD)))
 (jB:W.isFn K (.ref dD)=true)
 (gM:FnAt K "check_zeros" "Walk.check_zeros" ju dD)
 (CC:W.findIn K (.ref bY) "tell_kind" = some (some (.ref eo)))
 (lu:W.isFn K (.ref eo)=true)
 (iN:FnAt K "tell_kind" "Walk.tell_kind" kU eo)
 (Gx:W.findIn K (.ref bY) "go_into" = some (some (.ref gv)))
 (oz:W.isFn K (.ref gv)=true)
 (kr:FnAt K "go_into" "Walk.go_into" nN gv)
 (Lp:W.findIn K (.ref bY) "go_on" = some (some (.ref iM)))
 (sM:W.isFn K (.ref iM)=true)
 (nt:FnAt K "go_on" "Walk.go_on" rJ iM)
 (t7:W.findIn K (.ref bY) "do_words_apart" = some (some (.ref cF)))
 (gW:W.isFn K (.ref cF)=true)
 (eX:FnAt K "do_words_apart" "Walk.do_words_apart" gV cF)
 (Pq:W.findIn K (.ref bY) "run" = some (some (.ref lq)))
 (zf:W.isFn K (.ref lq)=true)
 (sN:FnAt K "run" "Walk.run" yI lq)
 (Nm:W.findIn K (.ref fv) "__init__" = some (some (.ref pz)))
 (Nn:W.isFn K (.ref pz)=true)
 (Np:FnAt K "__init__" "Want.__init__" ux pz)
 (Gy:W.findIn K (.ref aN) "__init__" = some (some (.ref km)))
 (Gz:W.isFn K (.ref km)=true)
 (GB:FnAt K "__init__" "Binding.__init__" nO km)
 (xc:W.findIn K (.ref aN) "tell_name" = some (some (.ref fT)))
 (xf:W.isFn K (.ref fT)=true)
 (mT:FnAt K "tell_name" "Binding.tell_name" i3 fT)
 (zg:W.findIn K (.ref aN) "do_words" = some (some (.ref gJ)))
 (zh:W.isFn K (.ref gJ)=true)
 (oA:FnAt K "do_words" "Binding.do_words" jv gJ)
 (xg:W.findIn K (.ref aN) "take_step" = some (some (.ref fU)))
 (xh:W.isFn K (.ref fU)=true)
 (mU:FnAt K "take_step" "Binding.take_step" i4 fU)
 (Nq:W.nsIn K mainGlobals "wanted_by" = some (some (.ref vB)))
 (Nr:FnAt K "wanted_by" "wanted_by" uy vB)
 (GC:W.findIn K (.ref cj) "__init__" = some (some (.ref kn)))
 (GF:W.isFn K (.ref kn)=true)
 (GG:FnAt K "__init__" "Segment.__init__" nP kn)
 (EE:W.findIn K (.ref bZ) "__init__" = some (some (.ref js)))
 (EF:W.isFn K (.ref js)=true)
 (EG:FnAt K "__init__" "Contents.__init__" mh js)
 (Lq:W.nsIn K mainGlobals "check_head" = some (some (.ref sE)))
 (Lr:FnAt K "check_head" "check_head" rK sE)
 (GH:W.nsIn K mainGlobals "take_segment" = some (some (.ref ot)))
 (GJ:FnAt K "take_segment" "take_segment" nQ ot)
 (GK:W.nsIn K mainGlobals "take_library" = some (some (.ref ou)))
 (GL:FnAt K "take_library" "take_library" nR ou)
 (CD:W.nsIn K mainGlobals "take_beginning" = some (some (.ref lr)))
 (CF:FnAt K "take_beginning" "take_beginning" kW lr)
 (SI:W.nsIn K mainGlobals "part_of" = some (some (.ref Cv)))
 (SJ:FnAt K "part_of" "part_of" B4 Cv)
 (Ls:W.nsIn K mainGlobals "take_parts" = some (some (.ref sF)))
 (Lu:FnAt K "take_parts" "take_parts" m5 sF)
 (GN:W.nsIn K mainGlobals "take_command" = some (some (.ref ow)))
 (GO:FnAt K "take_command" "take_command" nT ow)
 (IC:W.nsIn K mainGlobals "contents_of" = some (some (.ref qi)))
 (ID:FnAt K "contents_of" "contents_of" pV qi)
 (IE:W.findIn K (.ref cz) "__init__" = some (some (.ref lL)))
 (IF:W.isFn K (.ref lL)=true)
 (IG:FnAt K "__init__" "Ground.__init__" lB lL)
 (Bl:W.findIn K (.ref cz) "place_of" = some (some (.ref ia)))
 (Bm:W.isFn K (.ref ia)=true)
 (pH:FnAt K "place_of" "Ground.place_of" jM ia)
 (vI:W.findIn K (.ref cz) "filled_with" = some (some (.ref fw)))
 (vJ:W.isFn K (.ref fw)=true)
 (lX:FnAt K "filled_with" "Ground.filled_with" ij fw)
 (SK:W.nsIn K mainGlobals "span_of" = some (some (.ref Cw)))
 (SM:FnAt K "span_of" "span_of" B5 Cw)
 (SN:W.nsIn K mainGlobals "is_bare" = some (some (.ref Cy)))
 (SO:FnAt K "is_bare" "is_bare" B6 Cy)
 (SQ:W.nsIn K mainGlobals "laid_of" = some (some (.ref Cz)))
 (SR:FnAt K "laid_of" "laid_of" B7 Cz)
 (Nt:W.nsIn K mainGlobals "check_row" = some (some (.ref vC)))
 (Nu:FnAt K "check_row" "check_row" uz vC)
 (IH:W.nsIn K mainGlobals "check_first" = some (some (.ref qj)))
 (II:FnAt K "check_first" "check_first" pW qj)
 (Nv:W.nsIn K mainGlobals "ground_of" = some (some (.ref vD)))
 (Nw:FnAt K "ground_of" "ground_of" uA vD)
 (Pt:W.nsIn K mainGlobals "put_word" = some (some (.ref za)))
 (Pu:FnAt K "put_word" "put_word" yJ za)
 (Lv:W.nsIn K mainGlobals "with_zeros" = some (some (.ref sG)))
 (Lw:FnAt K "with_zeros" "with_zeros" rL sG)
 (Bn:W.findIn K (.ref ck) "__init__" = some (some (.ref ib)))
 (Bo:W.isFn K (.ref ib)=true)
 (Bp:FnAt K "__init__" "WantedWord.__init__" jN ib)
 (Lx:W.findIn K (.ref bG) "__init__" = some (some (.ref nh)))
 (Ly:W.isFn K (.ref nh)=true)
 (Lz:FnAt K "__init__" "Image.__init__" rM nh)
 (Ny:W.findIn K (.ref bG) "lay" = some (some (.ref pA)))
 (Nz:W.isFn K (.ref pA)=true)
 (DT:FnAt K "lay" "Image.lay" uB pA)
 (LA:W.findIn K (.ref bG) "read" = some (some (.ref ni)))
 (LB:W.isFn K (.ref ni)=true)
 (Bq:FnAt K "read" "Image.read" rN ni)
 (xi:W.findIn K (.ref bG) "mended_word" = some (some (.ref fV)))
 (xj:W.isFn K (.ref fV)=true)
 (mV:FnAt K "mended_word" "Image.mended_word" i5 fV)
 (xk:W.findIn K (.ref bG) "place_named" = some (some (.ref fW)))
 (xm:W.isFn K (.ref fW)=true)
 (mW:FnAt K "place_named" "Image.place_named" i6 fW)
 (xn:W.findIn K (.ref bG) "wanted_word" = some (some (.ref fX)))
 (xo:W.isFn K (.ref fX)=true)
 (mX:FnAt K "wanted_word" "Image.wanted_word" i7 fX)
 (xp:W.findIn K (.ref bG) "tell_wanted" = some (some (.ref fY)))
 (xq:W.isFn K (.ref fY)=true)
 (mY:FnAt K "tell_wanted" "Image.tell_wanted" i8 fY)
 (LC:W.findIn K (.ref bG) "fill" = some (some (.ref nj)))
 (LD:W.isFn K (.ref nj)=true)
 (Br:FnAt K "fill" "Image.fill" rO nj)
 (IJ:W.findIn K (.ref bG) "about" = some (some (.ref lM)))
 (IK:W.isFn K (.ref lM)=true)
 (yk:FnAt K "about" "Image.about" lC lM)
 (GP:W.findIn K (.ref aW) "__init__" = some (some (.ref ko)))
 (GQ:W.isFn K (.ref ko)=true)
 (GR:FnAt K "__init__" "Mending.__init__" nU ko)
 (zi:W.findIn K (.ref aW) "do_words" = some (some (.ref gK)))
 (zj:W.isFn K (.ref gK)=true)
 (oB:FnAt K "do_words" "Mending.do_words" jw gK)
 (xt:W.findIn K (.ref aW) "take_step" = some (some (.ref fZ)))
 (xu:W.isFn K (.ref fZ)=true)
 (mZ:FnAt K "take_step" "Mending.take_step" i9 fZ)
 (NA:W.nsIn K mainGlobals "mended_by" = some (some (.ref vE)))
 (NB:FnAt K "mended_by" "mended_by" uC vE)
 (NC:W.findIn K (.ref iw) "__init__" = some (some (.ref pB)))
 (ND:W.isFn K (.ref pB)=true)
 (NF:FnAt K "__init__" "Node.__init__" uD pB)
 (LF:W.nsIn K mainGlobals "take_place" = some (some (.ref sI)))
 (LG:FnAt K "take_place" "take_place" rP sI)
 (IL:W.nsIn K mainGlobals "nodes_below" = some (some (.ref qk)))
 (IM:FnAt K "nodes_below" "nodes_below" pX qk)
 (IP:W.nsIn K mainGlobals "names_given" = some (some (.ref qm)))
 (IQ:FnAt K "names_given" "names_given" pY qm)
 (Pw:W.nsIn K mainGlobals "parts_of" = some (some (.ref zb)))
 (Px:FnAt K "parts_of" "parts_of" yL zb)
 (GS:W.nsIn K mainGlobals "beginning_of" = some (some (.ref ox)))
 (GU:FnAt K "beginning_of" "beginning_of" nV ox)
 (Py:W.nsIn K mainGlobals "image_of" = some (some (.ref zc)))
 (Pz:FnAt K "image_of" "image_of" rQ zc)
 (NG:W.findIn K (.ref iy) "__init__" = some (some (.ref pC)))
 (NH:W.isFn K (.ref pC)=true)
 (NI:FnAt K "__init__" "Desk.__init__" uE pC)
 (zk:W.findIn K (.ref iy) "image_there" = some (some (.ref gL)))
 (zl:W.isFn K (.ref gL)=true)
 (oC:FnAt K "image_there" "Desk.image_there" jx gL)
 (XO:W.nsIn K mainGlobals "begin" = some (some (.ref E5)))
 (XQ:FnAt K "begin" "begin" KS E5)
 (NJ:W.nsIn K mainGlobals "take_file" = some (some (.ref pD)))
 (NK:FnAt K "take_file" "take_file" uF pD)
 (aeb:W.nsIn K mainGlobals "lay" = some (some (.ref Rp)))
 (aec:FnAt K "lay" "lay" UX Rp)
 (abm:W.nsIn K mainGlobals "read" = some (some (.ref Lg)))
 (abn:FnAt K "read" "read" O4 Lg)
 (abo:W.nsIn K mainGlobals "find" = some (some (.ref Lh)))
 (abp:FnAt K "find" "find" O5 Lh)
 (abq:W.nsIn K mainGlobals "want" = some (some (.ref Li)))
 (abr:FnAt K "want" "want" O6 Li)
 (abt:W.nsIn K mainGlobals "fill" = some (some (.ref Lj)))
 (abu:FnAt K "fill" "fill" O7 Lj)
 (XR:W.nsIn K mainGlobals "about" = some (some (.ref E6)))
 (XS:FnAt K "about" "about" KU E6)
 (Vm:W.nsIn K mainGlobals "answer" = some (some (.ref Gk)))
 (Vn:FnAt K "answer" "answer" FP Gk)
 (NL:W.nsIn K mainGlobals "length_of" = some (some (.ref vF)))
 (NM:FnAt K "length_of" "length_of" uG vF)
 (SS:W.nsIn K mainGlobals "answers" = some (some (.ref CA)))
 (SU:FnAt K "answers" "answers" nE CA)
 (PB:W.excIn K cV Zy "Exception.__new__" = true)
 (PD:W.excIn K cW Zy "Exception.__new__" = true)
 (PF:W.excIn K cX Zy "Exception.__new__" = true)
 (GV:W.excIn K bz Zy "Exception.__new__" = true)
 (LH:W.excIn K bT Zy "Exception.__new__" = true)
 (zm:W.exmOne K (.ref cV) (.ref cV)=some true)
 (zo:W.exmOne K (.ref cV) (.ref cW)=some false)
 (zp:W.exmOne K (.ref cV) (.ref cX)=some false)
 (sO:W.exmOne K (.ref cV) (.ref bz)=some false)
 (vK:W.exmOne K (.ref cV) (.ref bT)=some false)
 (zq:W.exmOne K (.ref cW) (.ref cV)=some false)
 (zr:W.exmOne K (.ref cW) (.ref cW)=some true)
 (zt:W.exmOne K (.ref cW) (.ref cX)=some false)
 (sP:W.exmOne K (.ref cW) (.ref bz)=some false)
 (vL:W.exmOne K (.ref cW) (.ref bT)=some false)
 (zu:W.exmOne K (.ref cX) (.ref cV)=some false)
 (zw:W.exmOne K (.ref cX) (.ref cW)=some false)
 (zx:W.exmOne K (.ref cX) (.ref cX)=some true)
 (sQ:W.exmOne K (.ref cX) (.ref bz)=some false)
 (vM:W.exmOne K (.ref cX) (.ref bT)=some false)
 (sR:W.exmOne K (.ref bz) (.ref cV)=some false)
 (sS:W.exmOne K (.ref bz) (.ref cW)=some false)
 (sT:W.exmOne K (.ref bz) (.ref cX)=some false)
 (oE:W.exmOne K (.ref bz) (.ref bz)=some true)
 (qo:W.exmOne K (.ref bz) (.ref bT)=some false)
 (vN:W.exmOne K (.ref bT) (.ref cV)=some false)
 (vO:W.exmOne K (.ref bT) (.ref cW)=some false)
 (vP:W.exmOne K (.ref bT) (.ref cX)=some false)
 (qp:W.exmOne K (.ref bT) (.ref bz)=some false)
 (sU:W.exmOne K (.ref bT) (.ref bT)=some true)
 (SV:W.plainGet K cg Str.empty=true)
 (SW:W.hasDictIn K cg=true)
 (SX:W.plainOver K cg=true)
 (SY:W.findIn K (.ref cg) "__setattr__" = some (some (.builtin "object.__setattr__")))
 (nG:W.makesIn K cg=true)
 (S1:W.keepIn K (.ref cg)=true)
 (gR:W.findIn K (.ref cg) "row" = some none)
 (dS:W.findIn K (.ref cg) "at" = some none)
 (abv:W.plainGet K gI Str.empty=true)
 (abw:W.hasDictIn K gI=true)
 (abx:W.plainOver K gI=true)
 (aby:W.findIn K (.ref gI) "__setattr__" = some (some (.builtin "object.__setattr__")))
 (K7:W.makesIn K gI=true)
 (abz:W.keepIn K (.ref gI)=true)
 (gD:W.findIn K (.ref gI) "place" = some none)
 (cK:W.findIn K (.ref gI) "count" = some none)
 (dY:W.findIn K (.ref gI) "stride" = some none)
 (XT:W.plainGet K bY Str.empty=true)
 (XU:W.hasDictIn K bY=true)
 (XW:W.plainOver K bY=true)
 (XX:W.findIn K (.ref bY) "__setattr__" = some (some (.builtin "object.__setattr__")))
 (K8:W.makesIn K bY=true)
 (XY:W.keepIn K (.ref bY)=true)
 (og:W.findIn K (.ref bY) "cursor" = some none)
 (oh:W.findIn K (.ref bY) "ground" = some none)
 (j8:W.findIn K (.ref bY) "kind_told" = some none)
 (jA:W.findIn K (.ref bY) "place_told" = some none)
 (qc:W.findIn K (.ref bY) "place" = some none)
 (XZ:W.plainGet K fv Str.empty=true)
 (X0:W.hasDictIn K fv=true)
 (X1:W.plainOver K fv=true)
 (X2:W.findIn K (.ref fv) "__setattr__" = some (some (.builtin "object.__setattr__")))
 (E3:W.makesIn K fv=true)
 (X3:W.keepIn K (.ref fv)=true)
 (bC:W.findIn K (.ref fv) "run_wanted" = some none)
 (gO:W.findIn K (.ref fv) "library" = some none)
 (dH:W.findIn K (.ref fv) "library_name" = some none)
 (iI:W.findIn K (.ref fv) "name" = some none)
 (gT:W.findIn K (.ref fv) "added" = some none)
 (PJ:W.plainGet K aN Str.empty=true)
 (PK:W.hasDictIn K aN=true)
 (PL:W.plainOver K aN=true)
 (PM:W.findIn K (.ref aN) "__setattr__" = some (some (.builtin "object.__setattr__")))
 (se:W.makesIn K aN=true)
 (PN:W.keepIn K (.ref aN)=true)
 (qU:W.findIn K (.ref aN) "walk_through" = some (some (.ref dk)))
 (sV:W.findIn K (.ref aN) "check_zeros" = some (some (.ref dD)))
 (vQ:W.findIn K (.ref aN) "tell_kind" = some (some (.ref eo)))
 (zy:W.findIn K (.ref aN) "go_into" = some (some (.ref gv)))
 (CG:W.findIn K (.ref aN) "go_on" = some (some (.ref iM)))
 (oP:W.findIn K (.ref aN) "do_words_apart" = some (some (.ref cF)))
 (GW:W.findIn K (.ref aN) "run" = some (some (.ref lq)))
 (cT:W.findIn K (.ref aN) "libraries" = some none)
 (bO:W.findIn K (.ref aN) "library" = some none)
 (du:W.findIn K (.ref aN) "name" = some none)
 (d8:W.findIn K (.ref aN) "added" = some none)
 (dN:W.findIn K (.ref aN) "wanted" = some none)
 (g9:W.findIn K (.ref aN) "cursor" = some none)
 (hU:W.findIn K (.ref aN) "ground" = some none)
 (ft:W.findIn K (.ref aN) "kind_told" = some none)
 (eV:W.findIn K (.ref aN) "place_told" = some none)
 (iJ:W.findIn K (.ref aN) "place" = some none)
 (PQ:W.plainGet K cj Str.empty=true)
 (PR:W.hasDictIn K cj=true)
 (PU:W.plainOver K cj=true)
 (PV:W.findIn K (.ref cj) "__setattr__" = some (some (.builtin "object.__setattr__")))
 (sf:W.makesIn K cj=true)
 (PX:W.keepIn K (.ref cj)=true)
 (aX:W.findIn K (.ref cj) "place" = some none)
 (cn:W.findIn K (.ref cj) "size" = some none)
 (cB:W.findIn K (.ref cj) "source" = some none)
 (bL:W.findIn K (.ref cj) "filled" = some none)
 (df:W.findIn K (.ref cj) "rights" = some none)
 (dR:W.findIn K (.ref cj) "sections" = some none)
 (NN:W.plainGet K bZ Str.empty=true)
 (NO:W.hasDictIn K bZ=true)
 (NP:W.plainOver K bZ=true)
 (NQ:W.findIn K (.ref bZ) "__setattr__" = some (some (.builtin "object.__setattr__")))
 (pd:W.makesIn K bZ=true)
 (NR:W.keepIn K (.ref bZ)=true)
 (bB:W.findIn K (.ref bZ) "reach" = some none)
 (b8:W.findIn K (.ref bZ) "segments" = some none)
 (bW:W.findIn K (.ref bZ) "libraries" = some none)
 (bc:W.findIn K (.ref bZ) "beginning" = some none)
 (cC:W.findIn K (.ref bZ) "parts" = some none)
 (S3:W.plainGet K cz Str.empty=true)
 (S4:W.hasDictIn K cz=true)
 (S5:W.plainOver K cz=true)
 (S6:W.findIn K (.ref cz) "__setattr__" = some (some (.builtin "object.__setattr__")))
 (wG:W.makesIn K cz=true)
 (S7:W.keepIn K (.ref cz)=true)
 (dA:W.findIn K (.ref cz) "segments" = some none)
 (gq:W.findIn K (.ref cz) "laid" = some none)
 (cH:W.findIn K (.ref cz) "home" = some none)
 (cU:W.findIn K (.ref cz) "length" = some none)
 (gP:W.findIn K (.ref cz) "spans" = some none)
 (IS:W.plainGet K ck Str.empty=true)
 (IT:W.hasDictIn K ck=true)
 (IU:W.plainOver K ck=true)
 (IV:W.findIn K (.ref ck) "__setattr__" = some (some (.builtin "object.__setattr__")))
 (lF:W.makesIn K ck=true)
 (IW:W.keepIn K (.ref ck)=true)
 (dj:W.findIn K (.ref ck) "place" = some none)
 (dB:W.findIn K (.ref ck) "want" = some none)
 (Vo:W.plainGet K bG Str.empty=true)
 (Vp:W.hasDictIn K bG=true)
 (Vq:W.plainOver K bG=true)
 (Vr:W.findIn K (.ref bG) "__setattr__" = some (some (.builtin "object.__setattr__")))
 (AL:W.makesIn K bG=true)
 (Vs:W.keepIn K (.ref bG)=true)
 (dQ:W.findIn K (.ref bG) "ground" = some none)
 (fG:W.findIn K (.ref bG) "base" = some none)
 (eJ:W.findIn K (.ref bG) "beginning" = some none)
 (fH:W.findIn K (.ref bG) "held" = some none)
 (fh:W.findIn K (.ref bG) "mended" = some none)
 (fi:W.findIn K (.ref bG) "wanted" = some none)
 (eL:W.findIn K (.ref bG) "names" = some none)
 (PY:W.plainGet K aW Str.empty=true)
 (PZ:W.hasDictIn K aW=true)
 (P0:W.plainOver K aW=true)
 (P2:W.findIn K (.ref aW) "__setattr__" = some (some (.builtin "object.__setattr__")))
 (si:W.makesIn K aW=true)
 (P5:W.keepIn K (.ref aW)=true)
 (qV:W.findIn K (.ref aW) "walk_through" = some (some (.ref dk)))
 (sW:W.findIn K (.ref aW) "check_zeros" = some (some (.ref dD)))
 (vR:W.findIn K (.ref aW) "tell_kind" = some (some (.ref eo)))
 (zz:W.findIn K (.ref aW) "go_into" = some (some (.ref gv)))
 (CH:W.findIn K (.ref aW) "go_on" = some (some (.ref iM)))
 (oQ:W.findIn K (.ref aW) "do_words_apart" = some (some (.ref cF)))
 (GX:W.findIn K (.ref aW) "run" = some (some (.ref lq)))
 (dO:W.findIn K (.ref aW) "mended" = some none)
 (hX:W.findIn K (.ref aW) "cursor" = some none)
 (hZ:W.findIn K (.ref aW) "ground" = some none)
 (fu:W.findIn K (.ref aW) "kind_told" = some none)
 (eW:W.findIn K (.ref aW) "place_told" = some none)
 (iK:W.findIn K (.ref aW) "place" = some none)
 (X4:W.plainGet K iw Str.empty=true)
 (X5:W.hasDictIn K iw=true)
 (X6:W.plainOver K iw=true)
 (X7:W.findIn K (.ref iw) "__setattr__" = some (some (.builtin "object.__setattr__")))
 (AO:W.makesIn K iw=true)
 (X8:W.keepIn K (.ref iw)=true)
 (ir:W.findIn K (.ref iw) "at" = some none)
 (gG:W.findIn K (.ref iw) "name" = some none)
 (X9:W.plainGet K iy Str.empty=true)
 (Ya:W.hasDictIn K iy=true)
 (Yb:W.plainOver K iy=true)
 (Yc:W.findIn K (.ref iy) "__setattr__" = some (some (.builtin "object.__setattr__")))
 (E4:W.makesIn K iy=true)
 (Yd:W.keepIn K (.ref iy)=true)
 (dZ:W.findIn K (.ref iy) "image" = some none)
 (Ye:W.specialIn K (.ref bY) "__getattribute__" = some (some (.builtin "type.__getattribute__")))
 (Yf:W.readsIn K bY (.type "type")=true)
 (Yg:W.findCls K (.ref bY) (.type "type") "__init__" = some (.val (.ref lW)))
 (P6:W.nsIn K mainGlobals "MODULUS" = some (some (.int 18446744073709551616 Gn)))
 (GY:W.nsIn K mainGlobals "MOST_DIGITS" = some (some (.int 10 vG)))
 (LI:W.nsIn K mainGlobals "MOST_TEXT" = some (some (.int 255 A2)))
 (Yh:W.nsIn K mainGlobals "WORD" = some (some (.int 8 Rq)))
 (IY:W.nsIn K mainGlobals "MOST_WORDS" = some (some (.int 65536 yb)))
 (LJ:W.nsIn K mainGlobals "HEAD_SIZE" = some (some (.int 32 A3)))
 (Vt:W.nsIn K mainGlobals "MAGIC" = some (some (.int 4277009103 M8)))
 (LK:W.nsIn K mainGlobals "PROCESSOR" = some (some (.int 16777223 A4)))
 (CI:W.nsIn K mainGlobals "MOST_COMMANDS" = some (some (.int 256 qN)))
 (P7:W.nsIn K mainGlobals "SEGMENT" = some (some (.int 25 Gp)))
 (P8:W.nsIn K mainGlobals "LIBRARY" = some (some (.int 12 Gq)))
 (LL:W.nsIn K mainGlobals "BEGINNING" = some (some (.int 2147483688 A5)))
 (Vu:W.nsIn K mainGlobals "PARTS" = some (some (.int 2147483682 M9)))
 (Yi:W.nsIn K mainGlobals "PAGE" = some (some (.int 4096 Rr)))
 (EH:W.nsIn K mainGlobals "SEGMENT_SIZE" = some (some (.int 72 tK)))
 (EI:W.nsIn K mainGlobals "SECTION_SIZE" = some (some (.int 80 tL)))
 (EJ:W.nsIn K mainGlobals "LIBRARY_NAME" = some (some (.int 24 tM)))
 (Bs:W.nsIn K mainGlobals "MOST_LIBRARIES" = some (some (.int 64 pF)))
 (Bt:W.nsIn K mainGlobals "BEGINNING_SIZE" = some (some (.int 24 pG)))
 (IZ:W.nsIn K mainGlobals "PARTS_SIZE" = some (some (.int 48 yd)))
 (LM:W.nsIn K mainGlobals "MOST_LAID" = some (some (.int 16 A6)))
 (I0:W.nsIn K mainGlobals "MOST_REACH" = some (some (.int 4194304 yf)))
 (abA:W.nsIn K mainGlobals "TOP" = some (some (.int 140737488355328 Vc)))
 (P9:W.nsIn K mainGlobals "WRITTEN" = some (some (.int 2 Gr)))
 (LN:W.nsIn K mainGlobals "MOST_READ" = some (some (.int 4194304 A7)))
 (LO:W.nsIn K mainGlobals "MOST_FILE" = some (some (.int 1048576 A8)))
 (qW:W.nsIn K mainGlobals "STEPS_WITH_N_binding" = some (some (.ref fK)))
 (qX:K.lookup fK=some ⟨.type "tuple",qO,.seq #[.int 1 iQ,.int 5 iR,.int 7 iS,.int 11 iT] qP,qQ⟩)
 (Ja:W.nsIn K mainGlobals "FILE_KINDS" = some (some (.ref oy)))
 (Jb:K.lookup oy=some ⟨.type "tuple",Ij,.seq #[.int 2 tN,.int 6 tO,.int 8 tP] Ik,Il⟩)
 (qY:W.nsIn K mainGlobals "STEPS_WITH_N_mending" = some (some (.ref fL)))
 (qZ:K.lookup fL=some ⟨.type "tuple",qR,.seq #[.int 1 iU,.int 2 iV,.int 4 iW,.int 5 iX] qS,qT⟩)
 (Vv:W.nsIn K mainGlobals "CALLS" = some (some (.ref CB)))
 (Vw:K.lookup CB=some ⟨.type "tuple",Vd,.seq #[.ref E5,.ref pD,.ref Rp,.ref Lg,.ref Lh,.ref Li,.ref Lj,.ref E6] Ve,Vf⟩)
 (Qa:W.nsIn K mainGlobals "LENGTHS" = some (some (.ref pE)))
 (Qb:K.lookup pE=some ⟨.type "dict",none,.dict #[⟨0,.int 0 A9,.int 1 Ba⟩,⟨2,.int 2 Bb,.int 2 Bc⟩,⟨3,.int 3 Bd,.int 3 Be⟩,⟨5,.int 5 Bf,.int 2 Bg⟩,⟨6,.int 6 Bh,.int 3 Bi⟩,⟨7,.int 7 yg,.int 1 yh⟩] Pj,#[]⟩)
 (Qc:(pE==sysModules)=false)
 (abB:W.nsIn K mainGlobals "abs" = some none)
 (Yj:W.nsIn K mainGlobals "dict" = some none)
 (abC:W.nsIn K mainGlobals "len" = some none)
 (Yk:W.nsIn K mainGlobals "list" = some none)
 (abD:W.nsIn K mainGlobals "max" = some none)
 (abE:W.nsIn K mainGlobals "min" = some none)
 (Vx:W.nsIn K mainGlobals "range" = some none)
 (NS:W.nsIn K mainGlobals "reversed" = some none)
 (S8:W.nsIn K mainGlobals "sorted" = some none)
 (abF:W.nsIn K mainGlobals "sum" = some none)
 (Vy:W.nsIn K mainGlobals "tuple" = some none)
 (abG:W.nsIn K mainGlobals "zip" = some none)
 : ∃a:Ad,Tx K mg a:=⟨⟨⟨cV,cW,cX,bz,bT,cg,gI,bY,fv,aN,cj,bZ,cz,ck,bG,aW,iw,iy,Gi,vy,y9,lI,kl,lJ,jq,jr,dW,lK,sy,m9,fS,ng,vz,qg,oq,Gj,vA,qh,lW,dk,dD,eo,gv,iM,cF,lq,pz,km,fT,gJ,fU,vB,kn,js,sE,ot,ou,lr,Cv,sF,ow,qi,lL,ia,fw,Cw,Cy,Cz,vC,qj,vD,za,sG,ib,nh,pA,ni,fV,fW,fX,fY,nj,lM,ko,gK,fZ,vE,pB,sI,qk,qm,zb,ox,zc,pC,gL,E5,pD,Rp,Lg,Lh,Li,Lj,E6,Gk,vF,CA,fK,oy,fL,CB,pE⟩,fun _=>True⟩,{MV:=Vj.A1 rfl fun _ _ _ _ _ _ _=>rfl,aA:=W.mg_of X G Vi,Dq:=Nc.J5 rfl fun _ _ _ _ _ _ _ _ _=>rfl,a8:=W.mg_of X G Nb,FZ:=Pm.wI rfl fun _ _ _ _ _ _ _ _=>rfl,yY:=W.mg_of X G Pl,xE:=Iq.J5 rfl fun _ _ _ _ _ _ _ _ _=>rfl,uZ:=vH.A1 rfl fun _ _ _ _ _ _ _=>rfl,xF:=yi.A1 rfl fun _ _ _ _ _ _ _=>rfl,tG:=tQ.A1 rfl fun _ _ _ _ _ _ _=>rfl,tH:=tR.A1 rfl fun _ _ _ _ _ _ _=>rfl,jY:=kq.A1 rfl fun _ _ _ _ _ _ _=>rfl,xG:=yj.A1 rfl fun _ _ _ _ _ _ _=>rfl,F2:=Pp.fa4 rfl fun _ _ _ _ _ _ _ _ _ _=>rfl,Ap:=Bj.A1 rfl fun _ _ _ _ _ _ _=>rfl,mw:=mS.wI rfl fun _ _ _ _ _ _ _ _=>rfl,Aq:=Bk.A1 rfl fun _ _ _ _ _ _ _=>rfl,Dr:=Nf.wI rfl fun _ _ _ _ _ _ _ _=>rfl,Ds:=W.mg_of X G Nd,xH:=Iz.wI rfl fun _ _ _ _ _ _ _ _=>rfl,qa:=W.mg_of X G Iy,u0:=Gw.wI rfl fun _ _ _ _ _ _ _ _=>rfl,u1:=W.mg_of X G Gv,MW:=Vl.fa4 rfl fun _ _ _ _ _ _ _ _ _ _=>rfl,MY:=W.mg_of X G Vk,Dt:=Nh.A1 rfl fun _ _ _ _ _ _ _=>rfl,u3:=W.mg_of X G Ng,xI:=IB.wI rfl fun _ _ _ _ _ _ _ _=>rfl,xJ:=W.mg_of X G IA,Du:=Nl.J5 rfl fun _ _ _ _ _ _ _ _ _=>rfl,mx:=f9.A1 rfl fun _ _ _ _ _ _ _=>rfl,nZ:=gM.A1 rfl fun _ _ _ _ _ _ _=>rfl,qC:=iN.wI rfl fun _ _ _ _ _ _ _ _=>rfl,u4:=kr.wI rfl fun _ _ _ _ _ _ _ _=>rfl,Ar:=nt.wI rfl fun _ _ _ _ _ _ _ _=>rfl,kI:=eX.A1 rfl fun _ _ _ _ _ _ _=>rfl,F3:=sN.J5 rfl fun _ _ _ _ _ _ _ _ _=>rfl,Dv:=Np.fa6 rfl fun _ _ _ _ _ _ _ _ _ _ _ _=>rfl,u5:=GB.fa4 rfl fun _ _ _ _ _ _ _ _ _ _=>rfl,my:=mT.A1 rfl fun _ _ _ _ _ _ _=>rfl,n8:=oA.J5 rfl fun _ _ _ _ _ _ _ _ _=>rfl,mz:=mU.J5 rfl fun _ _ _ _ _ _ _ _ _=>rfl,Dw:=Nr.J5 rfl fun _ _ _ _ _ _ _ _ _=>rfl,Dx:=W.mg_of X G Nq,u6:=GG.wI rfl fun _ _ _ _ _ _ _ _=>rfl,tI:=EG.A1 rfl fun _ _ _ _ _ _ _=>rfl,As:=Lr.A1 rfl fun _ _ _ _ _ _ _=>rfl,Au:=W.mg_of X G Lq,u7:=GJ.J5 rfl fun _ _ _ _ _ _ _ _ _=>rfl,u9:=W.mg_of X G GH,vc:=GL.wI rfl fun _ _ _ _ _ _ _ _=>rfl,vd:=W.mg_of X G GK,qD:=CF.wI rfl fun _ _ _ _ _ _ _ _=>rfl,qE:=W.mg_of X G CD,JR:=SJ.J5 rfl fun _ _ _ _ _ _ _ _ _=>rfl,JS:=W.mg_of X G SI,Av:=Lu.J5 rfl fun _ _ _ _ _ _ _ _ _=>rfl,Aw:=W.mg_of X G Ls,ve:=GO.J5 rfl fun _ _ _ _ _ _ _ _ _=>rfl,vf:=W.mg_of X G GN,xK:=ID.A1 rfl fun _ _ _ _ _ _ _=>rfl,xM:=W.mg_of X G IC,xN:=IG.J5 rfl fun _ _ _ _ _ _ _ _ _=>rfl,o3:=pH.wI rfl fun _ _ _ _ _ _ _ _=>rfl,lS:=lX.wI rfl fun _ _ _ _ _ _ _ _=>rfl,JT:=SM.wI rfl fun _ _ _ _ _ _ _ _=>rfl,JU:=W.mg_of X G SK,JV:=SO.A1 rfl fun _ _ _ _ _ _ _=>rfl,Cn:=W.mg_of X G SN,JW:=SR.A1 rfl fun _ _ _ _ _ _ _=>rfl,JX:=W.mg_of X G SQ,Dy:=Nu.A1 rfl fun _ _ _ _ _ _ _=>rfl,Dz:=W.mg_of X G Nt,xO:=II.wI rfl fun _ _ _ _ _ _ _ _=>rfl,xP:=W.mg_of X G IH,DA:=Nw.A1 rfl fun _ _ _ _ _ _ _=>rfl,DB:=W.mg_of X G Nv,F4:=Pu.J5 rfl fun _ _ _ _ _ _ _ _ _=>rfl,yZ:=W.mg_of X G Pt,Ax:=Lw.A1 rfl fun _ _ _ _ _ _ _=>rfl,sd:=W.mg_of X G Lv,o4:=Bp.J5 rfl fun _ _ _ _ _ _ _ _ _=>rfl,Ay:=Lz.fa7 rfl fun _ _ _ _ _ _ _ _ _ _ _ _ _=>rfl,DC:=DT.wI rfl fun _ _ _ _ _ _ _ _=>rfl,Az:=Bq.J5 rfl fun _ _ _ _ _ _ _ _ _=>rfl,mB:=mV.wI rfl fun _ _ _ _ _ _ _ _=>rfl,mC:=mW.wI rfl fun _ _ _ _ _ _ _ _=>rfl,mD:=mX.wI rfl fun _ _ _ _ _ _ _ _=>rfl,mE:=mY.wI rfl fun _ _ _ _ _ _ _ _=>rfl,AA:=Br.J5 rfl fun _ _ _ _ _ _ _ _ _=>rfl,xQ:=yk.A1 rfl fun _ _ _ _ _ _ _=>rfl,vg:=GR.J5 rfl fun _ _ _ _ _ _ _ _ _=>rfl,n9:=oB.J5 rfl fun _ _ _ _ _ _ _ _ _=>rfl,mF:=mZ.J5 rfl fun _ _ _ _ _ _ _ _ _=>rfl,DD:=NB.wI rfl fun _ _ _ _ _ _ _ _=>rfl,DE:=W.mg_of X G NA,DF:=NF.J5 rfl fun _ _ _ _ _ _ _ _ _=>rfl,AB:=LG.fa4 rfl fun _ _ _ _ _ _ _ _ _ _=>rfl,AD:=W.mg_of X G LF,xR:=IM.wI rfl fun _ _ _ _ _ _ _ _=>rfl,xS:=W.mg_of X G IL,xT:=IQ.wI rfl fun _ _ _ _ _ _ _ _=>rfl,xU:=W.mg_of X G IP,F5:=Px.A1 rfl fun _ _ _ _ _ _ _=>rfl,F6:=W.mg_of X G Pw,vh:=GU.A1 rfl fun _ _ _ _ _ _ _=>rfl,vi:=W.mg_of X G GS,F7:=Pz.A1 rfl fun _ _ _ _ _ _ _=>rfl,F8:=W.mg_of X G Py,DG:=NI.A1 rfl fun _ _ _ _ _ _ _=>rfl,oa:=oC.A1 rfl fun _ _ _ _ _ _ _=>rfl,Rh:=XQ.wI rfl fun _ _ _ _ _ _ _ _=>rfl,XI:=W.mg_of X G XO,DH:=NK.wI rfl fun _ _ _ _ _ _ _ _=>rfl,MZ:=W.mg_of X G NJ,ZF:=aec.wI rfl fun _ _ _ _ _ _ _ _=>rfl,ad8:=W.mg_of X G aeb,U0:=abn.wI rfl fun _ _ _ _ _ _ _ _=>rfl,abe:=W.mg_of X G abm,U1:=abp.wI rfl fun _ _ _ _ _ _ _ _=>rfl,abf:=W.mg_of X G abo,U2:=abr.wI rfl fun _ _ _ _ _ _ _ _=>rfl,abg:=W.mg_of X G abq,U3:=abu.wI rfl fun _ _ _ _ _ _ _ _=>rfl,abh:=W.mg_of X G abt,Ri:=XS.wI rfl fun _ _ _ _ _ _ _ _=>rfl,XJ:=W.mg_of X G XR,M0:=Vn.wI rfl fun _ _ _ _ _ _ _ _=>rfl,M1:=W.mg_of X G Vm,DJ:=NM.wI rfl fun _ _ _ _ _ _ _ _=>rfl,DK:=W.mg_of X G NL,Co:=SU.A1 rfl fun _ _ _ _ _ _ _=>rfl,JY:=W.mg_of X G SS,Cp:=⟨W.mg_of X G SA,PB⟩,qF:=⟨W.mg_of X G SD,PD⟩,Cq:=⟨W.mg_of X G SE,PF⟩,qb:=⟨W.mg_of X G Im,GV⟩,vj:=⟨W.mg_of X G Na,LH⟩,o5:=zm,AE:=zo,AF:=zp,tY:=sO,wU:=vK,o6:=zq,o7:=zr,AG:=zt,tZ:=sP,wV:=vL,o8:=zu,o9:=zw,pb:=zx,t4:=sQ,wW:=vM,kJ:=sR,kK:=sS,kL:=sT,iP:=oE,qG:=qo,mG:=vN,mH:=vO,mI:=vP,jD:=qp,kM:=sU,AH:=W.mg_of X G Vg,aL:=⟨SV,SW,SX,SY⟩,nG:=⟨nG,Io,Ip,S1⟩,jZ:=⟨Gs,Gu,vH.kp⟩,fD:=⟨Ir,Iu,yi.kp⟩,mn:=⟨EA,EB,tQ.kp⟩,bq:=⟨EC,ED,tR.kp⟩,j7:=⟨sJ,sL,kq.kp⟩,lE:=⟨Iv,Iw,yj.kp⟩,gR:=gR,dS:=dS,ZG:=W.mg_of X G aea,dU:=⟨abv,abw,abx,aby⟩,K7:=⟨K7,Pn,Po,abz⟩,AI:=⟨Ll,Lm,Bj.kp⟩,fR:=⟨w6,w8,mS.kp⟩,AJ:=⟨Ln,Lo,Bk.kp⟩,gD:=gD,cK:=cK,dY:=dY,Pd:=W.mg_of X G abi,XM:=⟨XT,XU,XW,XX⟩,K8:=⟨K8,Ni,Nj,XY⟩,wX:=⟨w9,jg,f9.kp⟩,y2:=⟨zd,jB,gM.kp⟩,Cr:=⟨CC,lu,iN.kp⟩,F9:=⟨Gx,oz,kr.kp⟩,K9:=⟨Lp,sM,nt.kp⟩,t5:=⟨t7,gW,eX.kp⟩,Pe:=⟨Pq,zf,sN.kp⟩,og:=og,oh:=oh,j8:=j8,jA:=jA,qc:=qc,U4:=W.mg_of X G abj,eU:=⟨XZ,X0,X1,X2⟩,E3:=⟨E3,Nm,Nn,X3⟩,bC:=bC,gO:=gO,dH:=dH,iI:=iI,gT:=gT,JZ:=W.mg_of X G SF,aQ:=⟨PJ,PK,PL,PM⟩,se:=⟨se,Gy,Gz,PN⟩,mK:=⟨xc,xf,mT.kp⟩,eI:=⟨zg,zh,oA.kp⟩,mL:=⟨xg,xh,mU.kp⟩,gE:=⟨qU,jg,f9.kp⟩,kN:=⟨sV,jB,gM.kp⟩,jc:=⟨vQ,lu,iN.kp⟩,j9:=⟨zy,oz,kr.kp⟩,mq:=⟨CG,sM,nt.kp⟩,fE:=⟨oP,gW,eX.kp⟩,qd:=⟨GW,zf,sN.kp⟩,cT:=cT,bO:=bO,du:=du,d8:=d8,dN:=dN,g9:=g9,hU:=hU,ft:=ft,eV:=eV,iJ:=iJ,J0:=W.mg_of X G SG,aG:=⟨PQ,PR,PU,PV⟩,sf:=⟨sf,GC,GF,PX⟩,aX:=aX,cn:=cn,cB:=cB,bL:=bL,df:=df,dR:=dR,Ga:=W.mg_of X G Pk,aM:=⟨NN,NO,NP,NQ⟩,pd:=⟨pd,EE,EF,NR⟩,bB:=bB,b8:=b8,bW:=bW,bc:=bc,cC:=cC,M3:=W.mg_of X G Vh,bI:=⟨S3,S4,S5,S6⟩,wG:=⟨wG,IE,IF,S7⟩,pf:=⟨Bl,Bm,pH.kp⟩,lT:=⟨vI,vJ,lX.kp⟩,dA:=dA,gq:=gq,cH:=cH,cU:=cU,gP:=gP,AK:=W.mg_of X G Lk,fF:=⟨IS,IT,IU,IV⟩,lF:=⟨lF,Bn,Bo,IW⟩,dj:=dj,dB:=dB,Rj:=W.mg_of X G XN,ba:=⟨Vo,Vp,Vq,Vr⟩,AL:=⟨AL,Lx,Ly,Vs⟩,DL:=⟨Ny,Nz,DT.kp⟩,AM:=⟨LA,LB,Bq.kp⟩,mM:=⟨xi,xj,mV.kp⟩,mO:=⟨xk,xm,mW.kp⟩,jd:=⟨xn,xo,mX.kp⟩,mP:=⟨xp,xq,mY.kp⟩,AN:=⟨LC,LD,Br.kp⟩,xV:=⟨IJ,IK,yk.kp⟩,dQ:=dQ,fG:=fG,eJ:=eJ,fH:=fH,fh:=fh,fi:=fi,eL:=eL,J1:=W.mg_of X G SH,cO:=⟨PY,PZ,P0,P2⟩,si:=⟨si,GP,GQ,P5⟩,eN:=⟨zi,zj,oB.kp⟩,mQ:=⟨xt,xu,mZ.kp⟩,gF:=⟨qV,jg,f9.kp⟩,kO:=⟨sW,jB,gM.kp⟩,je:=⟨vR,lu,iN.kp⟩,kc:=⟨zz,oz,kr.kp⟩,jm:=⟨CH,sM,nt.kp⟩,fI:=⟨oQ,gW,eX.kp⟩,qe:=⟨GX,zf,sN.kp⟩,dO:=dO,hX:=hX,hZ:=hZ,fu:=fu,eW:=eW,iK:=iK,Pf:=W.mg_of X G abk,lG:=⟨X4,X5,X6,X7⟩,AO:=⟨AO,NC,ND,X8⟩,ir:=ir,gG:=gG,U5:=W.mg_of X G abl,jn:=⟨X9,Ya,Yb,Yc⟩,E4:=⟨E4,NG,NH,Yd⟩,cP:=⟨zk,zl,oC.kp⟩,dZ:=dZ,La:=⟨Ye,Yf,Yg⟩,gU:=⟨Gn,W.mg_of X G P6⟩,xW:=⟨vG,W.mg_of X G GY⟩,ph:=⟨A2,W.mg_of X G LI⟩,mr:=⟨Rq,W.mg_of X G Yh⟩,AQ:=⟨yb,W.mg_of X G IY⟩,lU:=⟨A3,W.mg_of X G LJ⟩,Rk:=⟨M8,W.mg_of X G Vt⟩,DM:=⟨A4,W.mg_of X G LK⟩,tJ:=⟨qN,W.mg_of X G CI⟩,J2:=⟨Gp,W.mg_of X G P7⟩,J3:=⟨Gq,W.mg_of X G P8⟩,DN:=⟨A5,W.mg_of X G LL⟩,Rl:=⟨M9,W.mg_of X G Vu⟩,Gb:=⟨Rr,W.mg_of X G Yi⟩,vk:=⟨tK,W.mg_of X G EH⟩,vm:=⟨tL,W.mg_of X G EI⟩,kd:=⟨tM,W.mg_of X G EJ⟩,qH:=⟨pF,W.mg_of X G Bs⟩,qI:=⟨pG,W.mg_of X G Bt⟩,AR:=⟨yd,W.mg_of X G IZ⟩,DO:=⟨A6,W.mg_of X G LM⟩,sj:=⟨yf,W.mg_of X G I0⟩,U6:=⟨Vc,W.mg_of X G abA⟩,J4:=⟨Gr,W.mg_of X G P9⟩,DP:=⟨A7,W.mg_of X G LN⟩,DQ:=⟨A8,W.mg_of X G LO⟩,da:=W.mg_of X G qW,ke:=fun H=>.inr ⟨_,_,_,qX,rfl,rfl,by show 4≤sizeLine;decide,.cons ⟨iQ,rfl⟩ (.cons ⟨iR,rfl⟩ (.cons ⟨iS,rfl⟩ (.cons ⟨iT,rfl⟩ (.nil))))⟩,jX:=W.mg_of X G Ja,AS:=fun H=>.inr ⟨_,_,_,Jb,rfl,rfl,by show 3≤sizeLine;decide,.cons ⟨tN,rfl⟩ (.cons ⟨tO,rfl⟩ (.cons ⟨tP,rfl⟩ (.nil)))⟩,de:=W.mg_of X G qY,kf:=fun H=>.inr ⟨_,_,_,qZ,rfl,rfl,by show 4≤sizeLine;decide,.cons ⟨iU,rfl⟩ (.cons ⟨iV,rfl⟩ (.cons ⟨iW,rfl⟩ (.cons ⟨iX,rfl⟩ (.nil))))⟩,oZ:=W.mg_of X G Vv,Rm:=fun H=>.inr ⟨_,_,_,Vw,rfl,rfl,by show 8≤sizeLine;decide,.cons rfl (.cons rfl (.cons rfl (.cons rfl (.cons rfl (.cons rfl (.cons rfl (.cons rfl (.nil))))))))⟩,nF:=W.mg_of X G Qa,y3:=⟨⟨_,_,Qb,.cons ⟨⟨A9,rfl⟩,rfl,Ba,rfl⟩ (.cons ⟨⟨Bb,rfl⟩,rfl,Bc,rfl⟩ (.cons ⟨⟨Bd,rfl⟩,rfl,Be,rfl⟩ (.cons ⟨⟨Bf,rfl⟩,rfl,Bg,rfl⟩ (.cons ⟨⟨Bh,rfl⟩,rfl,Bi,rfl⟩ (.cons ⟨⟨yg,rfl⟩,rfl,yh,rfl⟩ (.nil))))))⟩,Qc,by decide⟩,U7:=W.mg_none_of X G abB,U8:=W.mg_none_of X G Yj,eO:=W.mg_none_of X G abC,Pg:=W.mg_none_of X G Yk,ZH:=W.mg_none_of X G abD,U9:=W.mg_none_of X G abE,sk:=W.mg_none_of X G Vx,y4:=W.mg_none_of X G NS,M4:=W.mg_none_of X G S8,Ro:=W.mg_none_of X G abF,Lb:=W.mg_none_of X G Vy,Va:=W.mg_none_of X G abG}⟩
open Rc31
def bv (b:List UInt8):List V:=b.map fun c=>V.int (c.toNat:Int)
theorem bt (b:List UInt8):(bv b).length=b.length:=length_map ..
theorem zA {b:List UInt8} {i:Nat}:(bv b)[i]?=(b[i]?).map fun c=>V.int (c.toNat:Int):=getElem?_map ..
theorem Rt (n i j:Nat):HT.HY n 0 (some (i:Int))=min i n∧HT.HY n n (some ((i:Int)+(j:Int)))=min (i+j) n :=
 ⟨HT.zX n 0 i,by rw[show(i:Int)+(j:Int)=((i+j:Nat):Int) by lia];exact HT.zX n n (i+j)⟩
theorem Jc {α:Type} (l:List α) (i j:Nat):(l.drop (min i l.length)).take (min (i+j) l.length-min i l.length)=(l.drop i).take j:=by
 by_cases h:i≤l.length
 ·rw[min_eq_left h]
  by_cases h2:i+j≤l.length
  ·rw[min_eq_left h2,Nat.add_sub_cancel_left]
  ·rw[Nat.min_eq_right (by lia),take_of_length_le (by rw[length_drop];lia),take_of_length_le (by rw[length_drop];lia)]
 ·rw[Nat.min_eq_right (by lia),Nat.min_eq_right (by lia),drop_of_length_le (le_refl _),drop_of_length_le (by lia)]
  simp
theorem Ru {α:Type} (f:α→V) (l:List α) (i j:Nat):zY (l.map f) (some (i:Int)) (some ((i:Int)+(j:Int)))=((l.drop i).take j).map f:=by
 unfold zY
 have e:=Jc (l.map f) i j
 rw[(Rt _ i j).1,(Rt _ i j).2,e,List.map_take,List.map_drop]
theorem LP (b:List UInt8) (i j:Nat):zY (bv b) (some (i:Int)) (some ((i:Int)+(j:Int)))=bv ((b.drop i).take j):=Ru _ b i j
section
variable {g:Gm} {a:Ad}
theorem aB (T:Tx g.K g.mg a):Pr g 1 a.Pb ["held"] (Ag a.aE):=by
 refine Pr.on T.MV Ss fun b6 A outer s H vs Q E hr h=>?_
 obtain⟨b,rfl,k⟩:=h
 refine⟨_,ag (dt (KC (jK (pv 0) (fun _=>rfl))) (ag (nK T.qF rfl rF rfl)) gz),?_⟩
 refine⟨_,rfl,b,rfl,?_⟩
 cases b with
 |true=>exact eA k
 |false=>exact iE k
inductive GZ (vs:List V) (H:Hp) (Q:VK) (E:XK):Prop
 |mk (r:Addr) (b:List UInt8) (i n:Nat) (q0:vs=[.ref r,.int i,.int n]) (q1:H r=some (.lst (bv b))) (q2:∀H',ax H H'→Q (.int (num b i n:Nat)) H'):GZ  vs H Q E
def Vz (b:List UInt8):Nat:=b.foldr (fun c x=>c.toNat+256*x) 0
theorem cw (T:Tx g.K g.mg a):Pr g 1 a.B9 ["row","at","size"] GZ:=by
 refine Pr.on T.Dq m6 fun b6 A outer s H vs Q E hr h=>?_
 obtain⟨r,b,i,n,rfl,hb,k⟩:=h
 refine⟨_,ae (aI (i:=3) m6.nd rfl (Or.inl rfl) ak)
  (ae (ma tX rfl (Dm rfl T.y4 (aa (jL m4 (pv 0) (gY (pv 1)) (gY (aO cq (pv 1) (pv 2)))) ai)) (dJ (i:=4) m6.nd rfl (Or.inl rfl))
   (ag (aI (i:=3) m6.nd rfl (Or.inl rfl) (aO cq (aO yC (pv 3) ak) (pv 4)))))
  (ag (aS (pv 3)))),?_⟩
 refine⟨_,rfl,_,rfl,_,rfl,_,rfl,_,rfl,_,_,rfl,rfl,_,rfl,r,_,rfl,bP.of hb,fun p hp=>?_⟩
 rw[LP]
 have s1:ax H (upd H p (.lst (bv ((b.drop i).take n)))):=ax.upd hp
 refine⟨p,_,rfl,bP.of af,Rf (K:=g.K) (a:=p) (xs:=bv ((b.drop i).take n)) (fun j σ H2=>∃v,σ=[some (.ref r),some (.int i),some (.int n),some (.int (Vz (((b.drop i).take n).drop j):Nat)),v]∧H2=upd H p (.lst (bv ((b.drop i).take n))))
  ⟨none,?_,rfl⟩ (fun j σ H2 _ ⟨_,_,e⟩=>by rw[e];exact bP.of af) ?_ ?_⟩
 ·rw[bt,drop_of_length_le (le_refl _)]
  rfl
 ·rintro j x σ H2 hx ⟨v,rfl,rfl⟩
  rw[zA]at hx
  cases e:((b.drop i).take n)[j]? with
  |none=>rw[e]at hx;cases hx
  |some c =>
   rw[e]at hx
   obtain rfl:V.int (c.toNat:Int)=x:=Option.some.inj hx
   refine⟨_,rfl,_,_,rfl,rfl,.inr ⟨by decide,by decide⟩,_,rfl,_,_,rfl,rfl,?_⟩
   refine⟨some (.int (c.toNat:Int)),?_,rfl⟩
   obtain⟨hj,e'⟩:=List.getElem?_eq_some_iff.mp e
   have e2:Vz (((b.drop i).take n).drop j)=c.toNat+256*Vz (((b.drop i).take n).drop (j+1)):=by
    rw[drop_eq_getElem_cons hj,e']
    rfl
   rw[e2]
   have e3:((Vz (((b.drop i).take n).drop (j+1)):Nat):Int)*256+(c.toNat:Int)=((c.toNat+256*Vz (((b.drop i).take n).drop (j+1)):Nat):Int):=by lia
   rw[←e3]
   rfl
 ·rintro σ H2 ⟨v,rfl,rfl⟩
  exact⟨_,rfl,k _ s1⟩
def fz (ds:List Nat) (z:Int):Int:=ds.foldr (fun(c:Nat) (x:Int)=>(c:Int)+128*x) z
def nv (ds:List Nat):List V:=ds.map fun(d:Nat)=>V.int (d:Int)
theorem ly (b:List Nat):(nv b).length=b.length:=length_map ..
theorem VA {b:List Nat} {i:Nat}:(nv b)[i]?=(b[i]?).map fun(c:Nat)=>V.int (c:Int):=getElem?_map ..
inductive J6 (vs:List V) (H:Hp) (Q:VK) (E:XK):Prop
 |mk (r:Addr) (ds:List Nat) (z:Int) (q0:vs=[.ref r,.int z]) (q1:H r=some (.lst (nv ds))) (q2:Q (.int (fz ds z)) H):J6  vs H Q E
theorem DU (T:Tx g.K g.mg a):Pr g 1 a.FV ["digits","beginning"] J6:=by
 refine Pr.on T.FZ oY fun b6 A outer s H vs Q E hr h=>?_
 obtain⟨r,b,z,rfl,hb,k⟩:=h
 refine⟨_,ae (aI (i:=2) oY.nd rfl (Or.inl rfl) (pv 1))
  (ae (ma tX rfl (Dm rfl T.y4 (aa (pv 0) ai)) (dJ (i:=3) oY.nd rfl (Or.inl rfl))
   (ag (aI (i:=2) oY.nd rfl (Or.inl rfl) (aO cq (aO yC (pv 2) ak) (pv 3)))))
  (ag (aS (pv 2)))),?_⟩
 refine⟨_,rfl,_,rfl,r,_,rfl,bP.of hb,Rf (K:=g.K) (a:=r) (xs:=nv b) (fun j σ H2=>∃v,σ=[some (.ref r),some (.int z),some (.int (fz (b.drop j) z)),v]∧H2=H)
  ⟨none,?_,rfl⟩ (fun j σ H2 _ ⟨_,_,e⟩=>by rw[e];exact bP.of hb) ?_ ?_⟩
 ·rw[ly,drop_of_length_le (le_refl _)]
  rfl
 ·rintro j x σ H2 hx ⟨v,rfl,rfl⟩
  rw[VA]at hx
  cases e:b[j]? with
  |none=>rw[e]at hx;cases hx
  |some c =>
   rw[e]at hx
   obtain rfl:V.int (c:Int)=x:=Option.some.inj hx
   refine⟨_,rfl,_,_,rfl,rfl,.inr ⟨by decide,by decide⟩,_,rfl,_,_,rfl,rfl,?_⟩
   refine⟨some (.int (c:Int)),?_,rfl⟩
   obtain⟨hj,e'⟩:=List.getElem?_eq_some_iff.mp e
   have e2:fz (b.drop j) z=fz (b.drop (j+1)) z*128+(c:Int):=by
    rw[drop_eq_getElem_cons hj,e']
    show(c:Int)+128*fz (b.drop (j+1)) z=_
    lia
   rw[e2]
   rfl
 ·rintro σ H2 ⟨v,rfl,rfl⟩
  exact⟨_,rfl,k⟩
def oF (C:Addr) (H:Hp) (c r:Addr) (i:Nat):Prop:=∃dx,H c=some (.ins C dx (bX (.ref r) (.int (i:Int))))
inductive Bu (C:Addr) (vs:List V) (H:Hp) (Q:VK) (E:XK):Prop
 |mk (c dx r:Addr) (i:Nat) (q0:vs=[.ref c,.ref r,.int i]) (q1:H c=some (.ins C dx [])) (q2:∀H',oF C H' c r i→Kp (At c) H H'→Q .dh H'):Bu C vs H Q E
theorem oG (T:Tx g.K g.mg a):Pr g 1 a.uO ["self","row","at"] (Bu a.bA):=by
 refine Pr.on T.xE FQ fun b6 A outer s H vs Q E hr h=>?_
 obtain⟨c,dx,r,i,rfl,hc,k⟩:=h
 refine⟨_,ae (aT (pv 0) (pv 1) rfl) (ag (aT (pv 0) (pv 2) rfl)),?_⟩
 refine⟨_,rfl,_,rfl,c,_,dx,_,rfl,hc,T.aL,T.gR,(by show 0<1000;decide),_,rfl,_,rfl,c,_,dx,_,rfl,af,T.aL,T.dS,(by show 1<1000;decide),?_⟩
 rw[bN,M5]
 exact k _ ⟨dx,af⟩ (Kp.upd (.inl rfl))
inductive Rv (C:Addr) (vs:List V) (H:Hp) (Q:VK) (E:XK):Prop
 |mk (c r:Addr) (b:List UInt8) (i:Nat) (q0:vs=[.ref c]) (q1:oF C H c r i) (q2:H r=some (.lst (bv b))) (q3:Q (.bl (decide (b.length≤i))) H):Rv C vs H Q E
theorem mv (T:Tx g.K g.mg a):Pr g 1 a.rS ["self"] (Rv a.bA):=by
 refine Pr.on T.uZ Ej fun b6 A outer s H vs Q E hr h=>?_
 obtain⟨c,r,b,i,rfl,⟨dx,hc⟩,hb,k⟩:=h
 refine⟨_,ag (aS (aH zV (ar (pv 0) rfl) (aV aJ (by rfl) T.eO boot_len (aa (ar (pv 0) rfl) ai)) (aC _))),?_⟩
 refine⟨_,rfl,c,_,dx,_,_,rfl,hc,T.aL,T.dS,lV,_,rfl,c,_,dx,_,_,rfl,hc,T.aL,T.gR,sm,r,_,rfl,.inl (bP.of hb),_,_,rfl,rfl,?_⟩
 show Q (V.bl (decide (((bv b).length:Int)≤(i:Int)))) H
 have e:decide (((bv b).length:Int)≤(i:Int))=decide (b.length≤i):=by rw[bt];simp
 rw[e]
 exact k
inductive S9 {α:Type} (a:Ad) (f:List UInt8→Option (α×List UInt8)) (R:Hp→Hp→α→V→Prop) (vs:List V) (H:Hp) (Q:VK) (E:XK):Prop
 |mk (c r:Addr) (b:List UInt8) (i:Nat) (q0:vs=[.ref c]) (q1:oF a.bA H c r i) (q2:H r=some (.lst (bv b))) (q3:(f (b.drop i)=none→∀H',Kp (At c) H H'→E (.ref a.aE) none H')) (q4:∀x rest,f (b.drop i)=some (x,rest)→∀v H' i',R H H' x v→oF a.bA H' c r i'→i<i'→i'≤b.length→b.drop i'=rest→Kp (At c) H H'→Q v H'):S9 a f R vs H Q E
def VB:List UInt8→Option (UInt8×List UInt8)
 | []=>none
 |c::r=>some (c,r)
theorem iz (T:Tx g.K g.mg a):Pr g 2 a.uP ["self"] (S9 a VB fun _ _ x v=>v = .int (x.toNat:Int)):=by
 have D:=aB T
 have N:=mv T
 refine Pr.on T.xF FR fun b6 A outer s H vs Q E hr h=>?_
 obtain⟨c,r,b,i,rfl,⟨dx,hc⟩,hb,k0,k1⟩:=h
 refine⟨_,ae (az D au hr (by decide) T.aA (Uc (a7 (pv 0) N T.aL T.jZ au hr (by decide))))
  (ae (JD (pv 0) ak Ur) (ag (aS (fN cJ (ar (pv 0) rfl) (aO gA (ar (pv 0) rfl) ak) (fun _ _=>rfl))))),?_⟩
 refine⟨_,rfl,c,dx,_,rfl,hc,kg,c,r,b,i,rfl,⟨dx,hc⟩,hb,_,rfl,_,rfl,?_⟩
 by_cases hi:b.length≤i
 ·rw[decide_eq_true hi]
  refine eA (k0 ?_ _ Kp.refl)
  rw[drop_of_length_le hi]
  rfl
 ·rw[decide_eq_false hi]
  refine iE ?_
  have hi:i<b.length:=by lia
  have hbi:b[i]?=some b[i]:=getElem?_eq_getElem hi
  have nrc:r≠c:=cS hb hc (by intro z;cases z)
  refine⟨_,rfl,c,_,dx,_,_,rfl,hc,T.aL,T.dS,lV,_,_,rfl,rfl,dx,_,hc,(by rw[Lc];decide),?_⟩
  rw[Es]
  refine⟨_,rfl,c,_,dx,_,_,rfl,af,T.aL,T.gR,sm,_,rfl,c,_,dx,_,_,rfl,af,T.aL,T.dS,lV,_,_,rfl,rfl,r,_,_,_,rfl,rfl,bP.of (by rw[aj nrc];exact hb),at_of (j:=i) (v:=V.int (b[i].toNat:Int)) (by lia) (by rw[zA,hbi];rfl),?_⟩
  refine k1 b[i] (b.drop (i+1)) ?_ _ _ (i+1) rfl ⟨dx,?_⟩ (lt_succ_self _) hi rfl (Kp.upd (.inl rfl))
  ·rw[drop_eq_getElem_cons hi]
   rfl
  ·rw[af]
   rfl
def oR:Nat→List UInt8→Option (List Nat×List UInt8)
 |0,_=>none
 |_+1,[]=>none
 |f+1,c::r=>if c.toNat<128 then some ([c.toNat],r) else(oR f r).map fun x=>(c.toNat%128::x.1,x.2)
abbrev aed (xs:List V):Hp→Hp→V→Prop:=fun H H' v=>∃l,v = .ref l∧H l=none∧H' l=some (.lst xs)
theorem rb (T:Tx g.K g.mg a):Pr g 3 a.p7 ["self"] (S9 a (oR 10) fun H H' ds v=>aed (nv ds) H H' v):=by
 have D:=aB T
 have B:=iz T
 refine Pr.on T.tG gh fun b6 A outer s H vs Q E hr h=>?_
 obtain⟨c,r,b,i,rfl,C0,hb,k0,k1⟩:=h
 refine⟨_,ae (aI (i:=1) gh.nd rfl (Or.inl rfl) (cy ai))
  (ae (aI (i:=2) gh.nd rfl (Or.inl rfl) Fn)
  (ae (qw tX (jK (pv 2) (fun _=>rfl))
   (ae (az D au hr (by decide) T.aA (aH nH (aV aJ (by rfl) T.eO boot_len (aa (pv 1) ai)) (pk T.xW) (aC _)))
   (ae (aI (i:=3) gh.nd rfl (Or.inl rfl) (a7 (pv 0) B T.aL T.fD au hr (by decide)))
   (ae (aR (uh F.plainAttrs_list F.slot_list_append F.type_list_append iC (pv 1) (aa (aO jJ (pv 3) ak) ai)))
   (ag (aI (i:=2) gh.nd rfl (Or.inl rfl) (aH zV (pv 3) ak (aC _))))))))
  (ag (aS (pv 1))))),?_⟩
 refine⟨zero_le _,fun l hl=>?_⟩
 refine⟨fun m σ H2=>∃(ds:List Nat) (j:Nat) (more:Bool) (v:Option V),σ=[some (.ref c),some (.ref l),some (.bl more),v]∧H2 l=some (.lst (nv ds))∧oF a.bA H2 c r j∧H2 r=some (.lst (bv b))∧Kp (At c) H H2∧i≤j∧ds.length≤10 ∧
  (more=true→m=10-ds.length+1∧oR 10 (b.drop i)=(oR (10-ds.length) (b.drop j)).map fun x=>(ds++x.1,x.2))∧(more=false→m=0∧i<j∧j≤b.length∧oR 10 (b.drop i)=some (ds,b.drop j)),?_,?_⟩
 ·refine⟨_,[],i,true,none,rfl,af,?_,?_,Kp.upd (.inr hl),le_refl _,by decide,fun _=>⟨rfl,?_⟩,fun z=>by cases z⟩
  ·obtain⟨dx,hc⟩:=C0
   exact⟨dx,by rw[aj (aq hc hl)];exact hc⟩
  ·rw[aj (aq hb hl)]
   exact hb
  ·show oR 10 (b.drop i)=(oR 10 (b.drop i)).map fun x=>([]++x.1,x.2)
   cases oR 10 (b.drop i) with
   |none=>rfl
   |some x=>rfl
 ·rintro m σ H2 ⟨ds,j,more,v,rfl,hL,C2,hb2,kp,hij,VC,ht,hf⟩
  refine⟨_,rfl,more,rfl,?_⟩
  cases more with
  |false =>
   obtain⟨_,lt,le,e⟩:=hf rfl
   exact eA ⟨_,rfl,k1 _ _ e _ _ j ⟨l,rfl,hl,hL⟩ C2 lt le rfl kp⟩
  |true =>
   obtain⟨em,e⟩:=ht rfl
   refine iE ⟨fun σ' H'=>∃m',m'<m∧_,fun σ' H' q=>q,?_⟩
   refine⟨_,rfl,l,_,rfl,.inl (bP.of hL),_,_,rfl,rfl,_,rfl,?_⟩
   show if decide (((nv ds).length:Int)<10)=true then _ else _
   refine aw (fun h=>?_) (fun h=>?_)
   ·rw[ly]at h
    have h9:ds.length<10:=by lia
    obtain⟨dx,hc⟩:=C2
    refine⟨_,rfl,c,dx,_,rfl,hc,d9,c,r,b,j,rfl,⟨dx,hc⟩,hb2,fun hn H3 k3=>?_,fun x rest hx v3 H3 j3 ev C3 lt3 ZI er k3=>?_⟩
    ·refine k0 ?_ _ (kp.step k3 fun _ z=>.inl z)
     rw[e,show 10-ds.length=(10-ds.length-1)+1 by lia]
     cases hd:b.drop j with
     |nil=>rfl
     |cons y ys=>rw[hd]at hn;cases hn
    ·subst ev
     have hL3:H3 l=some (.lst (nv ds)):=k3.lst hL hc
     have hb3:H3 r=some (.lst (bv b)):=k3.lst hb2 hc
     refine⟨_,rfl,.inl ⟨rfl,_,bP.of hL3⟩,_,rfl,_,_,rfl,rfl,(by show(0:Int)<128;decide),l,_,_,rfl,rfl,hL3,(by rw[ly];exact lt_of_lt_of_le h9 (by decide)),_,rfl,_,_,rfl,rfl,?_⟩
     have WM:c≠l:=fun z=>by
      subst z
      rw[hL]at hc;cases hc
     have hdj:b.drop j=x::rest:=by
      cases hd:b.drop j with
      |nil=>rw[hd]at hx;cases hx
      |cons y ys =>
       rw[hd]at hx
       cases hx
       rfl
     have eD:oR (10-ds.length) (b.drop j)=if x.toNat<128 then some ([x.toNat],rest) else(oR (10-(ds.length+1)) rest).map fun z=>(x.toNat%128::z.1,z.2):=by
      rw[hdj,show 10-ds.length=(10-(ds.length+1))+1 by lia]
      rfl
     have en:nv ds++[V.int ((x.toNat:Int)%128)]=nv (ds++[x.toNat%128]):=by
      unfold nv
      rw[map_append]
      rfl
     obtain⟨dx3,hc3⟩:=C3
     have alK:(fun i j:Int=>V.int (i%j)) (x.toNat:Int) 128=V.int ((x.toNat:Int)%128):=rfl
     refine⟨if x.toNat<128 then 0 else 10-(ds.length+1)+1,?_,ds++[x.toNat%128],j3,decide ((128:Int)≤(x.toNat:Int)),_,rfl,?_,⟨dx3,by rw[aj WM];exact hc3⟩,?_,?_,by lia,by rw[length_append];simp;lia,fun z=>?_,fun z=>?_⟩
     ·rw[em]
      split<;>lia
     ·rw[af,←en]
     ·rw[aj (aq hb hl)]
      exact hb3
     ·exact(kp.step k3 fun _ z=>.inl z).step (Kp.upd (S:=At l) (.inl rfl)) fun y z=>by
       obtain rfl:y=l:=z
       exact .inr hl
     ·have z:(128:Int)≤(x.toNat:Int):=of_decide_eq_true z
      rw[IN (by lia)]
      refine⟨by rw[length_append];rfl,?_⟩
      rw[e,eD,IN (by lia),er,length_append]
      show _=(oR (10-(ds.length+1)) rest).map _
      cases oR (10-(ds.length+1)) rest with
      |none=>rfl
      |some w =>
       show some (ds++(x.toNat%128::w.1),w.2)=some ((ds++[x.toNat%128])++w.1,w.2)
       rw[append_assoc]
       rfl
     ·have z:¬(128:Int)≤(x.toNat:Int):=of_decide_eq_false z
      have z2:x.toNat<128:=by lia
      rw[iPp z2]
      refine⟨rfl,by lia,ZI,?_⟩
      rw[e,eD,iPp z2,er,mod_eq_of_lt z2]
      rfl
   ·rw[ly]at h
    refine k0 ?_ _ kp
    rw[e,show 10-ds.length=0 by lia]
    rfl
theorem vS:∀(f:Nat) (b:List UInt8),sevens f b=(oR f b).map fun x=>((fz x.1 0).toNat,x.2)
 |0,_=>rfl
 |_+1,[]=>rfl
 |f+1,c::r=>by
  unfold sevens oR
  by_cases h:c.toNat<128
  ·rw[iPp h,iPp h]
   show some (c.toNat,r)=some ((fz [c.toNat] 0).toNat,r)
   have e:fz [c.toNat] 0=(c.toNat:Int):=by
    show(c.toNat:Int)+128*0=_
    lia
   rw[e]
   rfl
  ·rw[IN h,IN h,vS f r]
   cases e:oR f r with
   |none=>rfl
   |some x =>
    show some (c.toNat-128+128*(fz x.1 0).toNat,x.2)=some ((fz (c.toNat%128::x.1) 0).toNat,x.2)
    have h0:0≤fz x.1 0:=by
     generalize x.1=l
     induction l with
     |nil=>exact Int.le_refl _
     |cons d l ih =>
      show 0≤(d:Int)+128*fz l 0
      lia
    have hb:=c.toNat_lt
    have e2:fz (c.toNat%128::x.1) 0=((c.toNat%128:Nat):Int)+128*fz x.1 0:=rfl
    rw[e2,show c.toNat%128=c.toNat-128 by lia]
    congr 2
    lia
theorem Rw (ds:List Nat):0≤fz ds 0:=by
 induction ds with
 |nil=>exact Int.le_refl _
 |cons d l ih =>
  show 0≤(d:Int)+128*fz l 0
  lia
theorem CJ (b:List UInt8):uleb b=(oR 10 b).bind fun x=>if (fz x.1 0).toNat<W64 then some ((fz x.1 0).toNat,x.2) else none:=by
 unfold uleb
 rw[vS]
 cases oR 10 b with
 |none=>rfl
 |some x=>rfl
abbrev isNat:Hp→Hp→Nat→V→Prop:=fun _ _ n v=>v = .int (n:Int)
theorem bo (T:Tx g.K g.mg a):Pr g 4 a.p8 ["self"] (S9 a uleb isNat):=by
 have D:=aB T
 have G:=rb T
 have W:=DU T
 refine Pr.on T.tH qz fun b6 A outer s H vs Q E hr h=>?_
 obtain⟨c,r,b,i,rfl,⟨dx,hc⟩,hb,k0,k1⟩:=h
 refine⟨_,ae (aI (i:=1) qz.nd rfl (Or.inl rfl) (aU W au hr (by decide) T.yY (aa (a7 (pv 0) G T.aL T.mn au hr (by decide)) (aa ak ai))))
  (ae (az D au hr (by decide) T.aA (aH nH (pv 1) (pk T.gU) (aC _)))
  (ag (aS (pv 1)))),?_⟩
 refine⟨_,rfl,c,dx,_,rfl,hc,oi,c,r,b,i,rfl,⟨dx,hc⟩,hb,fun hn H1 kp=>k0 (by rw[CJ,hn];rfl) _ kp,fun ds rest hx v H1 i1 hv C1 lt1 le1 er kp=>?_⟩
 obtain⟨l,rfl,hl,hL⟩:=hv
 refine⟨l,ds,0,rfl,hL,_,rfl,_,_,rfl,rfl,_,rfl,?_⟩
 have e0:=Rw ds
 refine aw (fun h=>?_) (fun h=>?_)
 ·refine⟨_,rfl,k1 (fz ds 0).toNat rest ?_ _ H1 i1 ?_ C1 lt1 le1 er kp⟩
  ·rw[CJ,hx]
   show(if (fz ds 0).toNat<W64 then _ else _)=_
   rw[iPp (by unfold W64;lia)]
  ·show V.int (fz ds 0)=V.int (((fz ds 0).toNat:Nat):Int)
   rw[Int.toNat_of_nonneg e0]
 ·refine k0 ?_ _ kp
  rw[CJ,hx]
  show(if (fz ds 0).toNat<W64 then _ else _)=_
  rw[IN (by unfold W64;lia)]
end
theorem G4:∀{f:Nat} {b:List UInt8} {ds:List Nat} {r:List UInt8},oR f b=some (ds,r)→b.length=r.length+ds.length∧ds.length≤f∧ds≠[]∧∀d∈ds,d<128
 |0,_,_,_,h=>by cases h
 |_+1,[],_,_,h=>by cases h
 |f+1,c::r,ds,r',h=>by
  unfold oR at h
  by_cases hc:c.toNat<128
  ·rw[iPp hc]at h
   cases h
   refine⟨rfl,by simp,by simp,fun d hd=>?_⟩
   obtain rfl:d=c.toNat:=by simpa using hd
   exact hc
  ·rw[IN hc]at h
   cases e:oR f r with
   |none=>rw[e]at h;cases h
   |some x =>
    rw[e]at h
    cases h
    obtain⟨h1,h2,h3,h4⟩:=G4 (ds:=x.1) (r:=x.2) e
    refine⟨by simp only[length_cons];lia,by simp only[length_cons];lia,by simp,fun d hd=>?_⟩
    rcases mem_cons.mp hd with rfl|hd
    ·exact mod_lt _ (by decide)
    ·exact h4 d hd
theorem G5 (ds:List Nat) (z:Int):fz ds z=fz ds 0+128^ds.length*z:=by
 induction ds with
 |nil=>show z=0+1*z;lia
 |cons d l ih =>
  show(d:Int)+128*fz l z=(d:Int)+128*fz l 0+128^(l.length+1)*z
  rw[ih,Int.pow_succ,mul_add,Int.mul_comm ((128:Int)^l.length) 128,Int.mul_assoc]
  lia
theorem VD (ds:List Nat) (d:Nat):fz (ds++[d]) 0=fz ds 0+128^ds.length*(d:Int):=by
 have e:fz (ds++[d]) 0=fz ds (fz [d] 0):=by
  unfold fz
  rw[List.foldr_append]
 rw[e,G5,show fz [d] 0=(d:Int) by show(d:Int)+128*0=_;lia]
theorem Yl (ds:List Nat) (h:∀d∈ds,d<128):fz ds 0<128^ds.length:=by
 induction ds with
 |nil=>decide
 |cons d l ih =>
  have h1:=ih fun x hx=>h x (mem_cons_of_mem _ hx)
  have h2:=h d mem_cons_self
  show(d:Int)+128*fz l 0<128^(l.length+1)
  rw[Int.pow_succ]
  lia
theorem J7 (b:List UInt8):sleb b=(oR 10 b).map fun x=>((fz x.1 (if 64≤x.1.getLast?.getD 0 then -1 else 0)%18446744073709551616).toNat,x.2):=by
 unfold sleb
 rw[vS]
 cases e:oR 10 b with
 |none=>rfl
 |some x =>
  obtain⟨ds,r⟩:=x
  obtain⟨h1,h2,h3,h4⟩:=G4 e
  show some (_,r)=some (_,r)
  congr 2
  have ek:b.length-r.length=ds.length:=by lia
  show(if 2^(7*(b.length-r.length)-1)≤(fz ds 0).toNat then _ else _)=_
  dsimp only
  rw[ek]
  obtain⟨pI,d,rfl⟩:∃pI d,ds=pI++[d]:=⟨ds.dropLast,ds.getLast h3,(dropLast_concat_getLast h3).symm⟩
  have hd:d<128:=h4 d (by simp)
  have hi:∀x∈pI,x<128:=fun x hx=>h4 x (mem_append_left _ hx)
  have a1:=VD pI d
  have a2:=Yl pI hi
  have a3:=Rw pI
  have aeg:(pI++[d]).getLast?.getD 0=d:=by simp
  have hlen:(pI++[d]).length=pI.length+1:=by simp
  rw[hlen]at h2
  rw[aeg,hlen]
  have p1:(2:Nat)^(7*(pI.length+1)-1)=64*128^pI.length:=by
   rw[show 7*(pI.length+1)-1=6+7*pI.length by lia,Nat.pow_add,Nat.pow_mul]
  have p2:(2:Nat)^(7*(pI.length+1))=128^(pI.length+1):=by
   rw[Nat.pow_mul]
  have p3:((128^pI.length:Nat):Int)=128^pI.length:=by
   rw[Int.natCast_pow]
   rfl
  have p4:((128^(pI.length+1):Nat):Int)=128*((128^pI.length:Nat):Int):=by
   rw[pow_succ]
   lia
  have p5:128^(pI.length+1)≤128^10:=Nat.pow_le_pow_right (by decide) h2
  rw[←p3]at a1 a2
  generalize 128^pI.length=p at *
  have e5:fz (pI++[d]) (-1)=fz (pI++[d]) 0-((128^(pI.length+1):Nat):Int):=by
   rw[G5,hlen,Int.natCast_pow]
   show _+128^(pI.length+1) * -1=_-128^(pI.length+1)
   lia
  have m0:0≤(p:Int)*(d:Int):=mul_nonneg (by lia) (by lia)
  rw[p1,p2]
  generalize hq:128^(pI.length+1)=q at *
  generalize hv:fz (pI++[d]) 0=v at *
  by_cases Qe:64≤d
  ·have m1:((p:Int))*64≤(p:Int)*(d:Int):=Int.mul_le_mul_of_nonneg_left (by lia) (by lia)
   rw[iPp (by lia),iPp Qe,e5]
   unfold W64
   lia
  ·have m1:((p:Int))*(d:Int)≤(p:Int)*63:=Int.mul_le_mul_of_nonneg_left (by lia) (by lia)
   rw[IN (by lia),IN Qe,hv]
   unfold W64
   lia
section
variable {g:Gm} {a:Ad}
theorem rf (T:Tx g.K g.mg a):Pr g 4 a.iq ["self"] (S9 a sleb isNat):=by
 have G:=rb T
 have W:=DU T
 refine Pr.on T.jY gi fun b6 A outer s H vs Q E hr h=>?_
 obtain⟨c,r,b,i,rfl,⟨dx,hc⟩,hb,k0,k1⟩:=h
 refine⟨_,ae (aI (i:=1) gi.nd rfl (Or.inl rfl) (a7 (pv 0) G T.aL T.mn au hr (by decide)))
  (ae (aI (i:=2) gi.nd rfl (Or.inl rfl) (Fp (bH zV (fN cJ (pv 1) (zU rD ak) (fun _ _=>rfl)) ak (aC _)) (zU rD ak) ak))
  (ag (aS (aO jJ (aU W au hr (by decide) T.yY (aa (pv 1) (aa (pv 2) ai))) (pk T.gU))))),?_⟩
 refine⟨_,rfl,c,dx,_,rfl,hc,oi,c,r,b,i,rfl,⟨dx,hc⟩,hb,fun hn H1 kp=>k0 (by rw[J7,hn];rfl) _ kp,fun ds rest hx v H1 i1 hv C1 lt1 le1 er kp=>?_⟩
 obtain⟨l,rfl,hl,hL⟩:=hv
 obtain⟨h1,h2,h3,h4⟩:=G4 hx
 obtain⟨pI,d,rfl⟩:∃pI d,ds=pI++[d]:=⟨ds.dropLast,ds.getLast h3,(dropLast_concat_getLast h3).symm⟩
 have en:nv (pI++[d])=nv pI++[V.int (d:Int)]:=by
  unfold nv
  rw[map_append]
  rfl
 have fin:∀z:Int,z=(if 64≤d then -1 else 0)→Q (V.int (fz (pI++[d]) z%18446744073709551616)) H1:=fun z ez=>by
  refine k1 (fz (pI++[d]) z%18446744073709551616).toNat rest ?_ _ H1 i1 ?_ C1 lt1 le1 er kp
  ·rw[J7,hx]
   show some ((fz (pI++[d]) (if 64≤(pI++[d]).getLast?.getD 0 then -1 else 0)%18446744073709551616).toNat,rest)=_
   rw[show(pI++[d]).getLast?.getD 0=d by simp,←ez]
  ·show V.int _=V.int (((_:Int).toNat:Nat):Int)
   rw[Int.toNat_of_nonneg (Int.emod_nonneg _ (by decide))]
 refine⟨_,rfl,_,rfl,l,_,_,_,rfl,rfl,bP.of hL,(by rw[en];exact MK _ _),_,_,rfl,rfl,_,rfl,?_⟩
 refine aw (fun h=>?_) (fun h=>?_)
 ·refine⟨_,rfl,_,rfl,_,rfl,l,_,_,rfl,hL,_,_,rfl,rfl,(by show(0:Int)<18446744073709551616;decide),?_⟩
  exact fin _ (by rw[iPp (by lia)])
 ·refine⟨_,rfl,_,rfl,l,_,_,rfl,hL,_,_,rfl,rfl,(by show(0:Int)<18446744073709551616;decide),?_⟩
  exact fin _ (by rw[IN (by lia)])
end
def txt:Nat→List UInt8→Option (List UInt8×List UInt8)
 |_,[]=>none
 |n,c::r=>if c=0 then some ([],r) else if (33≤c.toNat∧c.toNat≤126)∧n<255 then(txt (n+1) r).map fun x=>(c::x.1,x.2) else none
theorem Qg:∀(b:List UInt8) (n:Nat),n≤255→txt n b=(let t:=b.takeWhile fun c=>c != 0;if t.length<b.length∧n+t.length≤255∧(t.all fun c=>decide (33≤c.toNat∧c.toNat≤126))=true then some (t,b.drop (t.length+1)) else none)
 | [],n,h=>rfl
 |c::r,n,h=>by
  unfold txt
  by_cases hc:c=0
  ·subst hc
   rw[iPp rfl]
   have e:(0::r:List UInt8).takeWhile (fun c=>c != 0)=[]:=by simp
   simp only[e]
   rw[iPp ⟨by simp,by simpa using h,rfl⟩]
   rfl
  ·rw[IN hc]
   have e:(c::r).takeWhile (fun c=>c != 0)=c::r.takeWhile (fun c=>c != 0):=by simp[hc]
   simp only[e]
   by_cases h1:(33≤c.toNat∧c.toNat≤126)∧n<255
   ·rw[iPp h1,Qg r (n+1) (by lia)]
    simp only[length_cons,all_cons,and_eq_true,decide_eq_true_eq]
    by_cases h2:(r.takeWhile fun c=>c != 0).length<r.length∧n+1+(r.takeWhile fun c=>c != 0).length≤255∧((r.takeWhile fun c=>c != 0).all fun c=>decide (33≤c.toNat∧c.toNat≤126))=true
    ·rw[iPp h2,iPp ⟨by lia,by lia,h1.1,h2.2.2⟩]
     rfl
    ·rw[IN h2,IN (fun z=>h2 ⟨by lia,by lia,z.2.2.2⟩)]
     rfl
   ·rw[IN h1,IN]
    simp only[length_cons,all_cons,and_eq_true,decide_eq_true_eq]
    exact fun z=>h1 ⟨z.2.2.1,by lia⟩
theorem G6 (b:List UInt8):textIn b=txt 0 b:=by
 rw[Qg b 0 (by decide)]
 unfold textIn
 simp only[zero_add]
section
variable {g:Gm} {a:Ad}
theorem oH (T:Tx g.K g.mg a):Pr g 3 a.uQ ["self"] (S9 a textIn fun H H' t v=>aed (bv t) H H' v):=by
 have D:=aB T
 have B:=iz T
 refine Pr.on T.xG jO fun b6 A outer s H vs Q E hr h=>?_
 obtain⟨c,r,b,i,rfl,⟨dx,hc⟩,hb,k0,k1⟩:=h
 simp only[G6]at k0 k1
 refine⟨_,ae (aI (i:=1) jO.nd rfl (Or.inl rfl) (cy ai))
  (ae (aI (i:=2) jO.nd rfl (Or.inl rfl) (a7 (pv 0) B T.aL T.fD au hr (by decide)))
  (ae (qw tX (bH Ul (pv 2) ak (aC _))
   (ae (az D au hr (by decide) T.aA (KD (zW iO iO ak (pv 2) ak) (ue (aH nH (aV aJ (by rfl) T.eO boot_len (aa (pv 1) ai)) (pk T.ph) (aC _)))))
   (ae (aR (uh F.plainAttrs_list F.slot_list_append F.type_list_append iC (pv 1) (aa (pv 2) ai)))
   (ag (aI (i:=2) jO.nd rfl (Or.inl rfl) (a7 (pv 0) B T.aL T.fD au hr (by decide)))))))
  (ag (aS (pv 1))))),?_⟩
 refine⟨zero_le _,fun l hl=>?_⟩
 have WM:c≠l:=aq hc hl
 have J8:upd H l (.lst []) c=some (.ins a.bA dx (bX (.ref r) (.int (i:Int)))):=by rw[aj WM];exact hc
 have Ym:upd H l (.lst []) r=some (.lst (bv b)):=by rw[aj (aq hb hl)];exact hb
 have xw:Kp (At c) H (upd H l (.lst [])):=Kp.upd (.inr hl)
 have ZJ:∀{x:UInt8} {rest:List UInt8} {j:Nat},VB (b.drop j)=some (x,rest)→b.drop j=x::rest:=fun{x rest j} hx=>by
  cases hd:b.drop j with
  |nil=>rw[hd]at hx;cases hx
  |cons y ys =>
   rw[hd]at hx
   cases hx
   rfl
 have ZK:∀{j:Nat},VB (b.drop j)=none→b.drop j=[]:=fun{j} hx=>by
  cases hd:b.drop j with
  |nil=>rfl
  |cons y ys=>rw[hd]at hx;cases hx
 refine⟨_,rfl,c,dx,_,rfl,J8,d9,c,r,b,i,rfl,⟨dx,J8⟩,Ym,fun hn H3 k3=>?_,fun x rest hx v3 H3 j3 ev C3 lt3 ZI er k3=>?_⟩
 ·refine k0 ?_ _ (xw.step k3 fun _ z=>.inl z)
  rw[ZK hn]
  rfl
 ·subst ev
  refine⟨fun m σ H2=>∃(t:List UInt8) (j:Nat) (x:UInt8),σ=[some (.ref c),some (.ref l),some (.int (x.toNat:Int))]∧H2 l=some (.lst (bv t))∧oF a.bA H2 c r j∧H2 r=some (.lst (bv b))∧Kp (At c) H H2∧i<j∧j≤b.length∧t.length≤255∧m=b.length-j ∧
   txt 0 (b.drop i)=(txt t.length (x::b.drop j)).map fun z=>(t++z.1,z.2),?_,?_⟩
  ·refine⟨_,[],j3,x,rfl,k3.lst af J8,C3,k3.lst Ym J8,xw.step k3 fun _ z=>.inl z,lt3,ZI,by decide,rfl,?_⟩
   rw[ZJ hx,er]
   show txt 0 (x::rest)=(txt 0 (x::rest)).map fun z=>([]++z.1,z.2)
   cases txt 0 (x::rest) with
   |none=>rfl
   |some x=>rfl
  ·rintro m σ H2 ⟨t,j,x,rfl,hL,⟨dx2,Mv⟩,hb2,kp,hij,hjb,ht,rfl,e⟩
   refine⟨_,rfl,rfl,_,rfl,?_⟩
   have ne:(!decide (V.int (x.toNat:Int)=V.int 0))=decide (x≠0):=by
    by_cases NU:x=0
    ·subst NU
     rfl
    ·have h1:¬(V.int (x.toNat:Int)=V.int 0):=fun z=>by
      injection z with z
      exact NU (toNat.inj (by show x.toNat=0;lia))
     rw[decide_eq_false h1,decide_eq_true NU]
     rfl
   rw[ne]
   refine aw (fun h0=>?_) (fun h0=>?_)
   ·refine⟨fun σ' H'=>∃m',m'<b.length-j∧_,fun σ' H' q=>q,?_⟩
    refine⟨_,rfl,_,_,rfl,rfl,_,rfl,?_⟩
    have fail:¬((33≤x.toNat∧x.toNat≤126)∧t.length<255)→E (.ref a.aE) none H2:=fun hn=>k0 (by
     rw[e]
     unfold txt
     rw[IN h0,IN hn]
     rfl) _ kp
    refine aw (fun h1=>?_) (fun h1=>?_)
    ·refine⟨_,_,rfl,rfl,_,rfl,?_⟩
     refine aw (fun h2=>?_) (fun h2=>?_)
     ·refine⟨_,rfl,l,_,rfl,.inl (bP.of hL),_,_,rfl,rfl,_,rfl,?_⟩
      show if decide (((bv t).length:Int)<255)=true then _ else _
      refine aw (fun h3=>?_) (fun h3=>?_)
      ·rw[bt]at h3
       have cG:(33≤x.toNat∧x.toNat≤126)∧t.length<255:=⟨⟨by lia,by lia⟩,by lia⟩
       refine⟨_,rfl,.inl ⟨rfl,_,bP.of hL⟩,_,rfl,l,_,_,rfl,rfl,hL,(by rw[bt];exact lt_of_lt_of_le cG.2 (by decide)),?_⟩
       have en:bv t++[V.int (x.toNat:Int)]=bv (t++[x]):=by
        unfold bv
        rw[map_append]
        rfl
       rw[en]
       have WN:upd H2 l (.lst (bv (t++[x]))) c=some (.ins a.bA dx2 (bX (.ref r) (.int (j:Int)))):=by rw[aj WM];exact Mv
       have hb4:upd H2 l (.lst (bv (t++[x]))) r=some (.lst (bv b)):=by rw[aj (aq hb hl)];exact hb2
       have kp4:Kp (At c) H (upd H2 l (.lst (bv (t++[x])))):=kp.step (Kp.upd (S:=At l) (.inl rfl)) fun y z=>by
        obtain rfl:y=l:=z
        exact .inr hl
       have e4:txt 0 (b.drop i)=(txt (t++[x]).length (b.drop j)).map fun z=>((t++[x])++z.1,z.2):=by
        rw[e]
        conv=>lhs;unfold txt
        rw[IN h0,iPp cG,length_append]
        show map _ (map _ (txt (t.length+1) (b.drop j)))=_
        cases txt (t.length+1) (b.drop j) with
        |none=>rfl
        |some w =>
         show some (t++(x::w.1),w.2)=some ((t++[x])++w.1,w.2)
         rw[append_assoc]
         rfl
       refine⟨_,rfl,c,dx2,_,rfl,WN,d9,c,r,b,j,rfl,⟨dx2,WN⟩,hb4,fun hn H5 k5=>?_,fun x5 ajs hx5 v5 H5 j5 ev C5 lt5 le5 er5 k5=>?_⟩
       ·refine k0 ?_ _ (kp4.step k5 fun _ z=>.inl z)
        rw[e4,ZK hn]
        rfl
       ·subst ev
        refine⟨b.length-j5,by lia,t++[x],j5,x5,rfl,k5.lst af WN,C5,k5.lst hb4 WN,kp4.step k5 fun _ z=>.inl z,by lia,le5,by rw[length_append];exact cG.2,rfl,?_⟩
        rw[e4,ZJ hx5,er5]
      ·rw[bt]at h3
       exact fail fun z=>h3 (by lia)
     ·exact⟨false,rfl,eA (fail fun z=>h2 (by lia))⟩
    ·exact⟨false,rfl,eA ⟨false,rfl,eA (fail fun z=>h1 (by lia))⟩⟩
   ·have NU:x=0:=by
     by_cases z:x=0
     ·exact z
     ·exact absurd z h0
    subst NU
    refine⟨_,rfl,k1 t (b.drop j) ?_ _ H2 j ⟨l,rfl,hl,hL⟩ ⟨dx2,Mv⟩ hij hjb rfl kp⟩
    rw[e]
    show some (t++[],b.drop j)=_
    rw[append_nil]
end
end MI
namespace L2
open PySem PySem.Spec PyProof.Rows
def yl (B:Heap) (l:List Env) (e:Addr) (cls a0 fl:Value) (h:Heap):Prop:=B.StaysIn h∧B.get? e=none∧h.FunFrames B l∧h.TracedAtW B e cls a0 fl
theorem EK {e:Value} {ce env:Env} (h:ce.frame=env.frame):noteFrame e ce=noteFrame e env:=by
 unfold noteFrame PySem.frameOf
 rw[h]
theorem FunFrames.at_ {h h' B B':Heap} (hB:∀b,B.get? b=none→B'.get? b=none):∀{l:List Env},(∀b∈wz l,∀o,h.get? b=some o→h'.get? b=some o)→h.FunFrames B l→h'.FunFrames B' l
 | [],_,_=>trivial
 |env::rest,k,hl=>by
  obtain⟨hk,⟨L,o,hf,hn,ho,hd⟩,hr⟩:=hl
  have hm:L∈wz (env::rest):=mem_filterMap.mpr ⟨env,mem_cons_self,hf⟩
  refine⟨hk,⟨L,o,hf,hB L hn,k L hm o ho,hd⟩,FunFrames.at_ hB (fun b hb o e=>k b ?_ o e) hr⟩
  obtain⟨v,hv,e'⟩:=mem_filterMap.mp hb
  exact mem_filterMap.mpr ⟨v,mem_cons_of_mem _ hv,e'⟩
theorem yl.less {B:Heap} {l:List Env} {e c:Addr} {cls a0 fl:Value} {h h':Heap} {oc:Obj} {es:Array DictEntry} {ep:Nat} (x:yl B l e cls a0 fl h) (hc:h.get? c=some oc) (hd:oc.data = .dict es ep) (hl:c∉wz l) (sb:Heap.SameBut c h h'):yl (W.hideAll B [c]) l e cls a0 fl h':=by
 obtain⟨x1,x2,x3,oe,vs,T,oT,ts,he,Mz,hdv,h1,hnT,hTe,hT,Ta,h3⟩:=x
 have less:∀b,B.get? b=none→(W.hideAll B [c]).get? b=none:=fun b n=>by
  cases q:(W.hideAll B [c]).get? b with
  |none=>rfl
  |some o=>rw[W.of_hideAll _ q]at n;cases n
 have nec:e≠c:=fun z=>by subst z;rw[he]at hc;cases hc;rw[hd]at hdv;cases hdv
 have nTc:T≠c:=fun z=>by subst z;rw[hT]at hc;cases hc;rw[hd]at Ta;cases Ta
 refine⟨fun b o q=>?_,less e x2,FunFrames.at_ less (fun b hb o q=>(sb.2 b (fun z=>hl (by rw[←z];exact hb))).trans q) x3,oe,vs,T,oT,ts,(sb.2 e nec).trans he,Mz,hdv,h1,less T hnT,hTe,(sb.2 T nTc).trans hT,Ta,h3⟩
 have hbc:b≠c:=fun z=>by
  subst z
  rw[W.hideAll_none _ (by simp)]at q;cases q
 exact(sb.2 b hbc).trans (x1 b o (W.of_hideAll _ q))
section
variable {M:Model} {A:Around} {E:Value→Shared→Prop} {s:Shared}
abbrev mark (fr:Option Addr):Value:=fr.elim Value.none fun f=>rawInt f
theorem Jd {B:Heap} {l:List Env} {e:Addr} {cls a0 fl:Value} {fr:Option Addr} {Q:Unit→Shared→Prop} (x:yl B l e cls a0 fl s.heap) (h:∀h',yl B l e cls a0 (mark fr) h'→s.heap.UpToSlots h'→Q () {s with heap:=h'}):wpAny M A (setFlight (.ref e) fr) Q E s:=by
 obtain⟨hkb,hen,hl,oe,vs,T,oT,ts,he,Mz,hd,h1,hnT,hTe,hT,Ta,h3⟩:=x
 have aei:3<ts.size:=(Array.getElem?_eq_some_iff.mp h3).1
 have other:∀b,b≠T→(s.heap.update T (Obj.mapFields (·.setIfInBounds 3 (mark fr)))).get? b=s.heap.get? b:=fun b hb=>Heap.get?_update_other _ _ (Ne.symm hb)
 have vT:∀b o,s.heap.get? b=some o→(∀vs,o.data≠.fields vs)→b≠T:=fun b o hb T3 q=>by
  rw[q,hT]at hb;injection hb with hb;subst hb;exact T3 ts Ta
 unfold setFlight
 refine wpAny_bind (wpAny_field he hd h1 ?_)
 rw[iPp (show(Value.ref T != Value.none)=true from by simp)]
 refine wpAny_setField hT Ta aei (h _ ⟨fun b o hbo=>(other b fun q=>by rw[q,hnT]at hbo;cases hbo).trans (hkb b o hbo),hen,
  hl.of_keeps fun b o hb T3=>⟨o,(other b (vT b o hb T3)).trans hb,rfl⟩,?_⟩ fun b o hb T3=>⟨o.slots,(other b (vT b o hb T3)).trans hb⟩)
 exact⟨oe,vs,T,_,_,(other e (Ne.symm hTe)).trans he,Mz,hd,h1,hnT,hTe,Heap.get?_update_self _ hT (Obj.isFreed_of_fields (Obj.data_mapFields Ta _)),Obj.data_mapFields Ta _,by simp[aei]⟩
theorem Qh {α:Type} {B:Heap} {l:List Env} {e:Addr} {cls a0 fl:Value} {ahJ:String} {env:Env} {Q:α→Shared→Prop} (x:yl B l e cls a0 fl s.heap) (h:∀h',yl B l e cls a0 (mark env.frame) h'→s.heap.UpToSlots h'→E (.ref e) {s with heap:=h'}):wpAny M A (PySem.passOn ahJ (.ref e) env:Sem α) Q E s:=by
 obtain⟨hkb,hen,hl,oe,vs,T,oT,ts,he,Mz,hd,h1,hnT,hTe,hT,Ta,h3⟩:=id x
 unfold PySem.passOn
 refine wpAny_bind (wpAny_field he hd h1 ?_)
 rw[IN (show ¬((Value.ref T==Value.none)=true) from by simp)]
 exact wpAny_bind (Jd x fun h' f up=>wpAny_throw (h h' f up))
theorem NV {B:Heap} {env:Env} {outer:List Env} {L e:Addr} {cls a0:Value} {fr:Option Addr} {Q:Unit→Shared→Prop} (Eh:A.frames=some (env::outer)) (hf:env.frame=some L) (x:yl B (env::outer) e cls a0 (mark fr) s.heap)
 (hQ:∀h',Heap.FlyingW B outer e cls a0 h'→s.heap.UpToSlots h'→Q () {s with heap:=h'}):wpAny M A (leaving env (.ref e)) Q E s:=by
 by_cases hm:mark fr=rawInt L
 ·rw[hm]at x
  unfold leaving
  refine wpAny_bind (wpAny_noteFrame_againW hf x.2.2.2 ?_)
  refine wpAny_landsW (L:=L) x fun h' Tb up=>?_
  obtain⟨k1,k2,⟨_,_,k3⟩,k4⟩:=Tb
  exact hQ h' ⟨k1,k2,k3,k4⟩ up
 ·obtain⟨hkb,hen,hl,oe,vs,T,oT,ts,he,⟨Mz,h0⟩,hd,h1,hnT,hTe,hT,Ta,h3⟩:=x
  subst Mz
  unfold leaving noteFrame
  simp only[hf]
  refine wpAny_bind (wpAny_bind (wpAny_field he hd h1 ?_))
  rw[iPp (show(Value.ref T != Value.none)=true from by simp)]
  refine wpAny_bind (wpAny_field hT Ta h3 ?_)
  rw[IN (show ¬((mark fr==rawInt L)=true) from by simpa using hm)]
  refine wpAny_bind (wpAny_setField hT Ta (Array.getElem?_eq_some_iff.mp h3).1 ?_)
  have other:∀b,b≠T→(s.heap.update T (Obj.mapFields (·.setIfInBounds 3 Value.none))).get? b=s.heap.get? b:=fun b hb=>Heap.get?_update_other _ _ (Ne.symm hb)
  have vT:∀b o,s.heap.get? b=some o→(∀vs,o.data≠.fields vs)→b≠T:=fun b o hb T3 q=>by
   rw[q,hT]at hb;injection hb with hb;subst hb;exact T3 ts Ta
  refine wpAny_newEntryW Eh (hl.of_keeps fun b o hb T3=>⟨o,(other b (vT b o hb T3)).trans hb,rfl⟩) hf ((other e (Ne.symm hTe)).trans he)
   (fun b o hbo=>(other b fun q=>by rw[q,hnT]at hbo;cases hbo).trans (hkb b o hbo)) hen hd (Array.getElem?_eq_some_iff.mp h1).1 h0
   fun h' ⟨x1,⟨_,_,x2⟩,x3,x4⟩=>hQ h' ⟨x1,hen,x2,x3⟩ fun b o hb T3=>x4 b o ((other b (vT b o hb T3)).trans hb) T3
end
theorem Inv.ahK {X:Cx} {pp:List (Addr×Obj)} {σ:St} {H:Hp} {s:Shared} (I:Inv X pp σ H s) (hex:X.ex=[]) {B h'':Heap} (KR:∀b o,s.heap.get? b=some o→b∉wz X.stack→(X.s₀.heap.get? b).isSome=true→∃o',B.get? b=some o') (yE:∀b o,H b=some o→∃o',B.get? b=some o')
 (st:B.StaysIn s.heap) (KG:B.StaysIn h'') (up:∀b∈X.fs,∀o,s.heap.get? b=some o→∃sl,h''.get? b=some {o with slots:=sl}):Un X.fs [] X.H₀ H X.s₀.heap h''∧t9 X.prog X.w H h'':=by
 have inB:∀b o,s.heap.get? b=some o→(∃o',B.get? b=some o')→h''.get? b=some o:=fun b o e ⟨o',q⟩=>by
  have q1:=st b o' q
  rw[e]at q1
  cases q1
  exact KG b o q
 have OM:∀b,b∉X.fs→(X.s₀.heap.get? b).isSome=true→b∉wz X.stack:=fun b n hs hb=>by
  rcases mem_cons.mp (I.rq b hb) with rfl|q
  ·cases e:X.s₀.heap.get? X.env.locals with
   |none=>rw[e]at hs;cases hs
   |some o=>exact absurd (Heap.lt_size e) (not_lt.mpr I.ok.above)
  ·exact n q
 refine⟨⟨fun b o q n hb _=>?_,fun b o q n hb _=>?_,fun b o q n _=>?_,fun b o q _=>?_,I.base.HV,I.base.Fh,I.base.HW⟩,?_⟩
 ·have hx:b∉X.ex:=by rw[hex];simp
  have e:=I.base.keep b o q n hb hx
  have hs:(X.s₀.heap.get? b).isSome=true:=by rw[q];rfl
  exact inB b o e (KR b o e (OM b hb hs) hs)
 ·have hx:b∉X.ex:=by rw[hex];simp
  obtain⟨sl,e⟩:=I.base.slot b o q n hb hx
  obtain⟨sl',e'⟩:=up b hb _ e
  exact⟨sl',e'⟩
 ·exact I.base.free b o q n (by rw[hex];simp)
 ·have hx:b∉X.ex:=by rw[hex];simp
  obtain⟨o1,e⟩:=I.base.there b o q hx
  have hs:(X.s₀.heap.get? b).isSome=true:=by rw[q];rfl
  by_cases hb:b∈X.fs
  ·obtain⟨sl,e'⟩:=up b hb o1 e
   exact⟨_,e'⟩
  ·exact⟨o1,inB b o1 e (KR b o1 e (OM b hb hs) hs)⟩
 ·exact I.cG.Zv fun b u ⟨o,ho⟩ e=>inB b u e (yE b o ho)
structure VE (X:Cx) (E:XK):Prop where
 xe:∀e s',wpAny (model X.prog X.w) X.A (leaving X.env e) (fun _ Xh=>ua X.prog X.w X.outer X.H₀ X.s₀ E e Xh) (fun e' Xh=>ua X.prog X.w X.outer X.H₀ X.s₀ E e' Xh) s'→X.xe e s'
 ex:X.ex=[]
 st:X.stack=X.env::X.outer
 fr:X.env.frame=some X.env.locals
theorem J9 {P:Program} {w:World} {K:W.Frag} {mg:Str→Option Value} {base:Heap} {N:List Str} {qual:Str} {scope:Scope} {f:Addr} {cd:Value} {A:Around} {outer:List Env} {s₀:Shared} {H₀:Hp} {E:XK}:VE (nI (ua P w) P w K mg base N qual scope f cd A outer s₀ H₀ E) E:=⟨fun _ _ h=>h,rfl,rfl,rfl⟩
theorem abM {X:Cx} {E:XK} (bx:VE X E) {pp:List (Addr×Obj)} {σ:St} {H3:Hp} {s3:Shared} (I3:Inv X pp σ H3 s3) {abN:Scope} {ce:Env} {fp:List Addr} (hce:ce.frame=X.env.frame) (cL:ce.locals=s3.heap.objs.size) (f3:∀b∈fp,yB X pp H3 b∧b<s3.heap.objs.size)
 {use:Option (Value→Sem Unit)} {Qf:Value→Shared→Prop} {D:Addr} :
 Passes (ua X.prog X.w) ((X.HN s3 H3 abN ce fp).Eg (notedBy (model X.prog X.w) X.A ce fun e s'=>compPost (model X.prog X.w) X.A X.xe use Qf (.ref D) s3.heap.objs.size (.error e) s')) E:=by
 intro Fj σ' H1 s1 e s2 I hc
 obtain⟨a,C,a0,B,H',rfl,fl,os,bare,un,cG,KR,yE,hE⟩:=hc
 have I2:=I.Jy (H':=H') (s':=s2) (ch:=[]) os un cG bare (fun b z=>absurd z (by simp))
 have IX:Inv X pp σ H' s2:=I3.Jy (ch:=fp) I2.os I2.base I2.cG I2.bare fun b hb=>⟨(f3 b hb).1.2.2.2.1,(f3 b hb).1.2.1,(f3 b hb).1.2.2.2.2.1,(f3 b hb).1.2.2.2.2.2⟩
 show wpAny (model X.prog X.w) X.A (noteFrame (.ref a) ce) (fun _ Xh=>compPost (model X.prog X.w) X.A X.xe use Qf (.ref D) s3.heap.objs.size (.error (.ref a)) Xh) _ s2
 rw[EK hce]
 have fl1:Heap.FlyingW B (X.env::X.outer) a (.ref C) a0 s2.heap:=by rw[←bx.st];exact fl
 have Eh:X.A.frames=some (X.env::X.outer):=by rw[IX.ok.frames,bx.st]
 refine wpAny_looks_onW Eh bx.fr fl1 fun h1 hh up1=>?_
 obtain⟨m,hm,_⟩:=I2.loc
 have hm:s2.heap.Ns ce.locals m:=hm
 have hm1:h1.Ns ce.locals m:=up1.ns hm
 have nfr:ce.locals∉wz (X.env::X.outer):=fun hb=>by
  rw[←bx.st]at hb
  rcases mem_cons.mp (I3.rq _ hb) with z|z
  ·have:=I3.lt
   rw[←z,cL]at this
   exact lt_irrefl _ this
  ·exact I3.aam (le_of_eq cL.symm) z
 have nfs:∀b∈X.fs,b≠ce.locals:=fun b hb z=>I3.aam (le_of_eq cL.symm) (by rw[←z];exact hb)
 have free:H' ce.locals=none:=I2.free
 have key:∃m,h1.Ns s3.heap.objs.size m∧∀h',Heap.SameBut s3.heap.objs.size h1 h'→∀iD:Env,iD.locals=s3.heap.objs.size→wpAny (model X.prog X.w) X.A (PySem.passOn "comprehension.variables-let-go" (.ref a) iD:Sem Value) (fun _ _=>False) X.xe {s2 with heap:=h'}:=by
  rw[←cL]
  refine⟨m,hm1,fun h' sb iD hl=>?_⟩
  obtain⟨oc,es,ep,hoc,hdc,_⟩:=hm1
  have fa:yl (W.hideAll B [ce.locals]) (X.env::X.outer) a (.ref C) a0 (rawInt X.env.locals) h':=yl.less hh hoc hdc nfr sb
  refine Qh (s:={s2 with heap:=h'}) fa fun h2 f2 up2=>bx.xe _ _ ?_
  refine NV (s:={s2 with heap:=h2}) Eh bx.fr f2 fun h4 f4 up4=>?_
  have aej:∀b,b≠ce.locals→(∃o',B.get? b=some o')→∃o',(W.hideAll B [ce.locals]).get? b=some o':=fun b n ⟨o',q⟩=>⟨o',W.hideAll_get _ q (by simpa using n)⟩
  have ZL:∀b o,H' b=some o→∃o',(W.hideAll B [ce.locals]).get? b=some o':=fun b o q=>aej b (fun z=>by rw[z,free]at q;cases q) (yE b o q)
  have old:∀b,(X.s₀.heap.get? b).isSome=true→b≠ce.locals:=fun b hs z=>by
   cases q:X.s₀.heap.get? b with
   |none=>rw[q]at hs;cases hs
   |some o =>
    have h1:=Heap.lt_size q
    have h2:=I3.sz
    rw[z,cL]at h1
    exact absurd h1 (not_lt.mpr h2)
  have aek:∀b,(X.s₀.heap.get? b).isSome=true→b∉wz X.stack→∃o',(W.hideAll B [ce.locals]).get? b=some o':=fun b hs n=>by
   refine aej b (old b hs) ?_
   cases q:X.s₀.heap.get? b with
   |none=>rw[q]at hs;cases hs
   |some o0 =>
    obtain⟨o1,e1⟩:=I3.base.there b o0 q (by rw[bx.ex];simp)
    have hbf:b∉fp:=fun hb=>by
     rcases(f3 b hb).1.2.2.2.1 with z|z
     ·rw[bx.ex]at z;cases z
     ·exact absurd (Heap.lt_size q) (not_lt.mpr z)
    obtain⟨o2,e2⟩:=I.base.there b o1 e1 hbf
    exact KR b o2 e2 n
  have stB:(W.hideAll B [ce.locals]).StaysIn s2.heap:=fun b o q=>fl.1 b o (W.of_hideAll _ q)
  obtain⟨u,k⟩:=IX.ahK bx.ex (B:=W.hideAll B [ce.locals]) (h'':=h4) (fun b o _ n hs=>aek b hs n) ZL stB f4.1 (fun b hb o e=>by
   obtain⟨_,o',e',nf⟩:=IX.yz.mem hb
   rw[e]at e'
   cases e'
   obtain⟨sl1,e1⟩:=up1 b o e nf
   have e2:h'.get? b=some {o with slots:=sl1}:=(sb.2 b (nfs b hb)).trans e1
   obtain⟨sl3,e3⟩:=up2 b _ e2 nf
   obtain⟨sl4,e4⟩:=up4 b _ e3 nf
   exact⟨sl4,e4⟩)
  refine⟨a,C,a0,_,H',rfl,f4,IX.os,IX.bare,u,k,fun b o q n=>?_,ZL,hE⟩
  refine aek b (by rw[q];rfl) fun hb=>?_
  rw[bx.st]at hb
  have hb':b∈wz (X.env::X.outer):=hb
  unfold wz at hb'
  rw[filterMap_cons,bx.fr]at hb'
  rcases mem_cons.mp hb' with z|z
  ·have h1:=Heap.lt_size q
   rw[z]at h1
   exact absurd h1 (not_lt.mpr I3.ok.above)
  ·exact n z
 cases use<;>exact key
section
variable {X:Cx}
abbrev Tc (X:Cx) (s:Shared) (H:Hp) (scope:Scope) (cl:List (Str×Addr)) (C:Addr) (fp:List Addr) (W:Value→Shared→Prop):Cx:=(X.HN s H scope (compEnvC scope cl C X.env) fp).Eg W
theorem CK {E:XK} {elt tg iter:Expr} {ifs:List Expr} {scope:Scope} {own:List (Str×Nat)} {pos:Pos} {wi:TI} {g:TG} {tt:TT} {te:TE} (bx:VE X E) (hc:X.calm=true) (hN:X.N.Nodup) (hi:PI X tg iter wi) (ok:MM X.N X.env.scope scope own)
 (hg:∀s H C cl fp W,PG (Tc X s H scope cl C fp W) tg g) (ht:∀s H C cl fp W,Passes (ua X.prog X.w) (Tc X s H scope cl C fp W) E→PTs (Tc X s H scope cl C fp W) ifs tt)
 (he:∀s H C cl fp W,Passes (ua X.prog X.w) (Tc X s H scope cl C fp W) E→PE (Tc X s H scope cl C fp W) elt te) (hs:∀x,foldedSetIterable iter X.env x=pure x:=by intro _;rfl) :
 PE X (.ListComp elt [⟨tg,iter,ifs,0⟩] scope pos) (tLc wi g tt te (own.map (·.2))):=by
 intro pp s σ H Q I h
 rw[eval_ListComp]
 have Dg:∀y∈scope.names,y.2 = .free→∃c,X.env.cells.lookup y.1=some c:=fun y hy e=>by
  rcases ok.free y hy e with k|k
  ·exact I.ok.has _ (.inl k)
  ·exact I.ok.has _ (.inr k)
 refine wpAny_comprehension_free (use:=none) rfl hs (FH Dg) ok.kind (fun y hy e=>by rw[ok.uniq y hy,e])
  (dq (hi pp s σ H _ I h) fun xv s1 hx=>dq hx fun itv s2 h2=>?_)
 obtain⟨it,fp,tn,J,H2,e,I2,T,st2,f2,q⟩:=h2
 subst e
 refine wpAny_newObj_type (Dk ?_) (by show 0≤sizeLine;decide)
 generalize hD:s2.heap.objs.size=D
 have hDn:H2 D=none:=I2.cG.fresh (le_of_eq hD)
 obtain⟨W,⟨m0,w0⟩,turn⟩:=q D hDn
 generalize O2:({s2 with heap:=s2.heap.push {cls:=.type "list",data:=.seq ([]:List Value).toArray}}:Shared)=s3
 have I3:Inv X pp σ (upd H2 D (.lst [])) s3:=by
  rw[←O2]
  refine I2.laid (t':=s2.toks) (fun b o e=>Heap.get?_push_of_some _ e) (le_of_eq hD) ⟨zero_le _,[],0,.nil,?_⟩
  rw[←hD]
  exact Heap.get?_push_size _ rfl
 have h3:s3.heap=s2.heap.push {cls:=.type "list",data:=.seq ([]:List Value).toArray}:=by rw[←O2]
 have sz:∀b∈fp,b<s2.heap.objs.size:=fun b hb=>by
  obtain⟨o,e,_⟩:=T.obj _ _ st2 b hb
  exact Heap.lt_size e
 have f3:∀b∈fp,yB X pp (upd H2 D (.lst [])) b∧b<s3.heap.objs.size:=fun b hb=>by
  have oU:=sz b hb
  refine⟨⟨?_,(f2 b hb).2⟩,by rw[h3,Heap.size_push];exact lt_succ_of_lt oU⟩
  rw[aj (by rw[←hD];exact ne_of_lt oU)]
  exact(f2 b hb).1
 have st3:tn 0 s3.heap:=T.keep _ _ _ st2 fun b _ o e=>by rw[h3];exact Heap.get?_push_of_some _ e
 have I4:=Dl I3 ok hN f3
 show codeAny _ _ (.compStart (.ListComp elt [⟨tg,iter,ifs,0⟩] scope pos) 0 (.ref it) (.ref D) (compEnvC scope (cellsFrom (s3.heap.objs.size+1) scope.names (cZ X.env.cells scope.names [])) s3.heap.objs.size X.env)) (compPost (model X.prog X.w) X.A X.xe none (EP X pp σ Q) (.ref D) s3.heap.objs.size) {s3 with heap:=pushCells (s3.heap.push {cls:=.type "dict",data:=.dict #[]}) scope.names}
 generalize oN:cellsFrom (s3.heap.objs.size+1) scope.names (cZ X.env.cells scope.names [])=cl at I4 ⊢
 generalize hW:(notedBy (model X.prog X.w) X.A (compEnvC scope cl s3.heap.objs.size X.env) fun e s'=>compPost (model X.prog X.w) X.A X.xe none (EP X pp σ Q) (.ref D) s3.heap.objs.size (.error e) s')=WX
 have pass:Passes (ua X.prog X.w) (Tc X s3 (upd H2 D (.lst [])) scope cl s3.heap.objs.size fp WX) E:=by
  rw[←hW]
  exact abM bx I3 (ce:=compEnvC scope cl s3.heap.objs.size X.env) rfl rfl f3
 have I4:=I4.Eg WX
 have pg:PG ((X.HN s3 (upd H2 D (.lst [])) scope (compEnvC scope cl s3.heap.objs.size X.env) fp).Eg WX) tg g:=hg s3 (upd H2 D (.lst [])) s3.heap.objs.size cl fp WX
 have pt:PTs ((X.HN s3 (upd H2 D (.lst [])) scope (compEnvC scope cl s3.heap.objs.size X.env) fp).Eg WX) ifs tt:=ht s3 (upd H2 D (.lst [])) s3.heap.objs.size cl fp WX pass
 have pe:PE ((X.HN s3 (upd H2 D (.lst [])) scope (compEnvC scope cl s3.heap.objs.size X.env) fp).Eg WX) elt te:=he s3 (upd H2 D (.lst [])) s3.heap.objs.size cl fp WX pass
 have nfp:∀b∈fp,(upd H2 D (.lst [])) b=none:=fun b hb=>(f3 b hb).1.1
 generalize hce:compEnvC scope cl s3.heap.objs.size X.env=ce at I4 pg pt pe pass hW ⊢
 have cL:ce.locals=s3.heap.objs.size:=by subst hce;rfl
 generalize hH3:upd H2 D (.lst [])=H3 at I3 I4 pg pt pe w0 nfp f3
 generalize hs4:({s3 with heap:=pushCells (s3.heap.push {cls:=.type "dict",data:=.dict #[]}) scope.names}:Shared)=s4 at I4 ⊢
 have st4:tn 0 s4.heap:=T.keep _ _ _ st3 fun b _ o e=>by rw[←hs4];exact pushCells_keeps _ _ _ _ (Heap.get?_push_of_some _ e)
 generalize hY:(X.HN s3 H3 scope ce fp).Eg WX=Y at I4 pg pt pe
 have yP:Y.prog=X.prog:=by subst hY;rfl
 have yw:Y.w=X.w:=by subst hY;rfl
 have yK:Y.K=X.K:=by subst hY;rfl
 have yA:Y.A=X.A:=by subst hY;rfl
 have yc:Y.calm=true:=by subst hY;exact hc
 have yx:Y.xe=WX:=by subst hY;rfl
 have ye:Y.env=ce:=by subst hY;rfl
 have Fq:∀{σ':St} {H':Hp} {s':Shared},Inv Y [] σ' H' s'→(∀b∈fp,H' b=none)→∀b∈fp,yB Y [] H' b:=fun{σ' H' s'} I' hn b hb=>by
  have hbx:b∈Y.ex:=by subst hY;exact hb
  refine⟨hn b hb,(I'.ok.exf b hbx).1,I'.ok.OL b hbx,.inl hbx,fun x c e=>(I'.ok.exf b hbx).2 x c e,fun p hp=>?_⟩
  have hp:p∈([]:List (Addr×Obj))++[]:=by subst hY;exact hp
  exact absurd hp (by simp)
 have back:∀{σ':St} {H':Hp} {s':Shared},Inv Y [] σ' H' s'→Inv X pp σ H' s':=fun{σ' H' s'} I'=>by
  subst hY
  exact I3.Jy (ch:=fp) I'.os I'.base I'.cG I'.bare fun b hb=>⟨(f3 b hb).1.2.2.2.1,(f3 b hb).1.2.1,(f3 b hb).1.2.2.2.2.1,(f3 b hb).1.2.2.2.2.2⟩
 have loop:codeAny (model X.prog X.w) X.A (.compLoop (.ListComp elt [⟨tg,iter,ifs,0⟩] scope pos) 0 (.ref it) (.ref D) ce) (compPost (model X.prog X.w) X.A X.xe none (EP X pp σ Q) (.ref D) s3.heap.objs.size) s4:=by
  refine Ab (fun n s'=>∃i H',Inv Y [] (wipe σ (own.map (·.2))) H' s'∧tn i s'.heap∧(∀b∈fp,H' b=none)∧W i n H') ?_ m0 ⟨0,H3,I4,st4,nfp,w0⟩
  rintro n s5 ⟨i,H5,I5,W8,n5,w5⟩
  rw[hW]
  rcases turn i n H5 w5 with⟨stop,qq⟩|⟨go,Nx,hNx,step⟩
  ·have td:=T.done Y yP yw yK yc i [] s5 _ H5 WX I5 (Fq I5 n5) W8 stop
   rw[yA]at td
   refine dq td fun r s6 ⟨hr,I6⟩=>?_
   subst hr
   have I7:Inv X pp σ H5 s6:=back I6
   have nC:H5 s3.heap.objs.size=none:=by
    have z:H5 Y.env.locals=none:=I6.free
    rw[ye,cL]at z
    exact z
   obtain⟨m,hn,_⟩:=I6.loc
   have hn:s6.heap.Ns Y.env.locals m:=hn
   rw[ye,cL]at hn
   obtain⟨f0,f1,f2,f3,f4,f5⟩:=I3.MC (le_refl _) nC
   refine⟨m,hn,fun h'' sb=>⟨.ref D,H5,I7.turned (t':=s6.toks) (fun b o hb e=>(sb.2 b hb).trans e) f0 f1 f3 f4 f5,rfl,qq⟩⟩
  ·have ti:=T.item Y yP yw yK yc i [] s5 _ H5 WX I5 (Fq I5 n5) W8 go
   rw[yA]at ti
   refine dq ti fun r s6 ⟨u,hr,h6⟩=>?_
   subst hr
   refine dq h6 fun _ s7 ⟨x,H7,I7,r7,y7,st7,n7⟩=>?_
   have I7':=I7.pinned (Fq I7 n7) (T.obj _ _ st7)
   have a1:=pg _ s7 _ H7 x u _ I7' r7 (step x H7 y7)
   rw[yP,yw,yA,yx,ye]at a1
   refine dq a1 fun _ s8 ⟨σ8,H8,I8,Q7,q8⟩=>?_
   have a2:=pt _ s8 σ8 H8 _ I8 q8
   rw[yP,yw,yA,yx,ye]at a2
   refine dq a2 fun b s9 ⟨H9,I9,q9⟩=>?_
   have fin:∀{s':Shared} {H':Hp},Inv Y ([]++BV fp s7.heap) σ8 H' s'→Nx H'→∃m,m<n∧∃i H',Inv Y [] (wipe σ (own.map (·.2))) H' s'∧tn i s'.heap∧(∀b∈fp,H' b=none)∧W i m H':=fun{s' H'} I' nx=>by
    obtain⟨m',hm,w'⟩:=hNx H' nx
    have UG:∀b∈fp,∀o,s7.heap.get? b=some o→s'.heap.get? b=some o∧H' b=none:=fun b hb o e =>
     let z:=I'.pin (b,o) (mem_append_right _ (mem_append_right _ (rC hb e)))
     ⟨z.1,z.2.1⟩
    have hl:(wipe σ (own.map (·.2))).length=σ8.length:=by rw[←Q7,oX]
    refine⟨m',hm,i+1,H',(I'.uf (pp:=[])).weak hl (fun j v e=>?_),T.keep _ _ _ st7 fun b hb o e=>(UG b hb o e).1,fun b hb=>?_,w'⟩
    ·rw[←Q7]at e
     exact(wC e).1
    ·obtain⟨o,e,_⟩:=T.obj _ _ st7 b hb
     exact(UG b hb o e).2
   cases b with
   |false =>
    simp only[false_eq_true,if_false]at q9 ⊢
    exact fin I9 q9
   |true =>
    simp only[if_true]at q9 ⊢
    have a3:=pe _ s9 σ8 H9 _ I9 q9
    rw[yP,yw,yA,yx,ye]at a3
    refine dq a3 fun z s10 ⟨yv,H10,I10,r10,acc,aaR,aaS,nx⟩=>?_
    have a4:=UE (E:=WX) (Q:=fun _ s11=>∃m,m<n∧∃i H',Inv Y [] (wipe σ (own.map (·.2))) H' s11∧tn i s11.heap∧(∀b∈fp,H' b=none)∧W i m H') I10 aaR aaS r10 fun s11 I11=>fin I11 nx
    rw[yP,yw,yA]at a4
    exact a4
 exact codeAny_compStart_list loop (T.self X.A 0 _ _ _ st4 loop)
end
end L2
namespace MI
open PySem L2 Rc31
def ym (a:Ad) (H:Hp) (x:Addr) (s:Segment) (n:Nat):Prop:=∃dx,H x=some (.ins a.cD dx (jE (.int (s.at_:Int)) (.int (s.size:Int)) (.int (s.file:Int)) (.int (s.raw:Int)) (.int (s.rights:Int)) (.int (n:Int))))
def ku (c:List UInt8):Segment:=⟨num c 24 8,num c 32 8,num c 40 8,num c 48 8,num c 60 4⟩
theorem ax.tS {H H1:Hp} {x dx C:Addr} (nx:H x=none) (nd:H dx=none) (k:Kp (At x) (upd (upd H dx (.own x)) x (.ins C dx [])) H1):ax H H1:=ax.made nx nd fun b o e n=>k b o e n
section
variable {g:Gm} {a:Ad}
inductive yn (a:Ad) (vs:List V) (H:Hp) (Q:VK) (E:XK):Prop
 |mk (x dx r:Addr) (c:List UInt8) (q0:vs=[.ref x,.ref r]) (q1:H x=some (.ins a.cD dx [])) (q2:H r=some (.lst (bv c))) (q3:∀H',ym a H' x (ku c) (num c 64 4)→Kp (At x) H H'→Q .dh H'):yn a vs H Q E
theorem EL (T:Tx g.K g.mg a):Pr g 2 a.rW ["self","command"] (yn a):=by
 have N:=cw T
 refine Pr.on T.u6 En fun b6 A outer s H vs Q E hr h=>?_
 obtain⟨x,dx,r,c,rfl,hx,hc,k⟩:=h
 refine⟨_,ae (aT (pv 0) (aU N au hr (by decide) T.a8 (aa (pv 1) (aa ak (aa ak ai)))) rfl)
  (ae (aT (pv 0) (aU N au hr (by decide) T.a8 (aa (pv 1) (aa ak (aa ak ai)))) rfl)
  (ae (aT (pv 0) (aU N au hr (by decide) T.a8 (aa (pv 1) (aa ak (aa ak ai)))) rfl)
  (ae (aT (pv 0) (aU N au hr (by decide) T.a8 (aa (pv 1) (aa ak (aa ak ai)))) rfl)
  (ae (aT (pv 0) (aU N au hr (by decide) T.a8 (aa (pv 1) (aa ak (aa ak ai)))) rfl)
  (ag (aT (pv 0) (aU N au hr (by decide) T.a8 (aa (pv 1) (aa ak (aa ak ai)))) rfl)))))),?_⟩
 have nrx:r≠x:=cS hc hx (by intro z;cases z)
 have st:∀{H0 H1:Hp} {u:HO},Kp (At x) H H0→H0 r=some (.lst (bv c))→ax H0 H1→Kp (At x) H (upd H1 x u)∧(upd H1 x u) r=some (.lst (bv c)):=fun{H0 H1 u} k0 h0 s1 =>
  ⟨(k0.step (Kp.same (S:=At x) s1) fun _ z=>.inl z).step (Kp.upd (S:=At x) (.inl rfl)) fun _ z=>.inl z,by rw[aj nrx];exact s1 _ _ h0⟩
 refine⟨_,rfl,r,c,24,8,rfl,hc,fun H1 s1=>⟨_,rfl,x,_,dx,_,rfl,s1 _ _ hx,T.aG,T.aX,(by show 0<1000;decide),?_⟩⟩
 obtain⟨k1,c1⟩:=st Kp.refl hc s1 (u:=.ins a.cD dx (aF "place" (.int (num c 24 8:Nat)) []))
 refine⟨_,rfl,r,c,32,8,rfl,c1,fun H2 s2=>⟨_,rfl,x,_,dx,_,rfl,s2 _ _ af,T.aG,T.cn,(by show 1<1000;decide),?_⟩⟩
 obtain⟨k2,c2⟩:=st k1 c1 s2 (u:=.ins a.cD dx (aF "size" (.int (num c 32 8:Nat)) (aF "place" (.int (num c 24 8:Nat)) [])))
 refine⟨_,rfl,r,c,40,8,rfl,c2,fun H3 s3=>⟨_,rfl,x,_,dx,_,rfl,s3 _ _ af,T.aG,T.cB,?_,?_⟩⟩
 ·rw[Rc,abb (by decide),Rc];show 2<1000;decide
 obtain⟨k3,c3⟩:=st k2 c2 s3 (u:=.ins a.cD dx (aF "source" (.int (num c 40 8:Nat)) (aF "size" (.int (num c 32 8:Nat)) (aF "place" (.int (num c 24 8:Nat)) []))))
 refine⟨_,rfl,r,c,48,8,rfl,c3,fun H4 s4=>⟨_,rfl,x,_,dx,_,rfl,s4 _ _ af,T.aG,T.bL,?_,?_⟩⟩
 ·exact lt_of_le_of_lt (bj _ _ _) (lt_of_le_of_lt (succ_le_succ (bj _ _ _)) (lt_of_le_of_lt (succ_le_succ (succ_le_succ (bj _ _ _))) (by show 0+1+1+1<1000;decide)))
 obtain⟨k4,c4⟩:=st k3 c3 s4 (u:=.ins a.cD dx (aF "filled" (.int (num c 48 8:Nat)) (aF "source" (.int (num c 40 8:Nat)) (aF "size" (.int (num c 32 8:Nat)) (aF "place" (.int (num c 24 8:Nat)) [])))))
 have l4:(aF "filled" (.int (num c 48 8:Nat)) (aF "source" (.int (num c 40 8:Nat)) (aF "size" (.int (num c 32 8:Nat)) (aF "place" (.int (num c 24 8:Nat)) [])))).length<900 :=
  lt_of_le_of_lt (bj _ _ _) (lt_of_le_of_lt (succ_le_succ (bj _ _ _)) (lt_of_le_of_lt (succ_le_succ (succ_le_succ (bj _ _ _))) (lt_of_le_of_lt (succ_le_succ (succ_le_succ (succ_le_succ (bj _ _ _)))) (by show 0+1+1+1+1<900;decide))))
 refine⟨_,rfl,r,c,60,4,rfl,c4,fun H5 s5=>⟨_,rfl,x,_,dx,_,rfl,s5 _ _ af,T.aG,T.df,lt_trans l4 (by decide),?_⟩⟩
 obtain⟨k5,c5⟩:=st k4 c4 s5 (u:=.ins a.cD dx (aF "rights" (.int (num c 60 4:Nat)) (aF "filled" (.int (num c 48 8:Nat)) (aF "source" (.int (num c 40 8:Nat)) (aF "size" (.int (num c 32 8:Nat)) (aF "place" (.int (num c 24 8:Nat)) []))))))
 refine⟨_,rfl,r,c,64,4,rfl,c5,fun H6 s6=>⟨_,rfl,x,_,dx,_,rfl,s6 _ _ af,T.aG,T.dR,lt_of_le_of_lt (bj _ _ _) (lt_of_lt_of_le (Nat.succ_lt_succ l4) (by decide)),?_⟩⟩
 obtain⟨k6,c6⟩:=st k5 c5 s6 (u:=.ins a.cD dx (aF "sections" (.int (num c 64 4:Nat)) (aF "rights" (.int (num c 60 4:Nat)) (aF "filled" (.int (num c 48 8:Nat)) (aF "source" (.int (num c 40 8:Nat)) (aF "size" (.int (num c 32 8:Nat)) (aF "place" (.int (num c 24 8:Nat)) [])))))))
 refine k _ ⟨dx,?_⟩ k6
 refine Eq.trans af ?_
 exact congrArg (fun q=>some (HO.ins a.cD dx q)) Le
end
theorem jl {f:Str} {v:V} {fs:List (Str×V)} {n:Nat} (h:fs.length≤n):(aF f v fs).length≤n+1:=le_trans (bj _ _ _) (succ_le_succ h)
theorem pl1 {f0:Str} {v0:V}:(aF f0 v0 []).length<1000:=lt_of_le_of_lt (jl (le_refl 0)) (by decide)
theorem pl2 {f0 f1:Str} {v0 v1:V}:(aF f1 v1 (aF f0 v0 [])).length<1000:=lt_of_le_of_lt (jl (jl (le_refl 0))) (by decide)
theorem pl3 {f0 f1 f2:Str} {v0 v1 v2:V}:(aF f2 v2 (aF f1 v1 (aF f0 v0 []))).length<1000:=lt_of_le_of_lt (jl (jl (jl (le_refl 0)))) (by decide)
theorem pl4 {f0 f1 f2 f3:Str} {v0 v1 v2 v3:V}:(aF f3 v3 (aF f2 v2 (aF f1 v1 (aF f0 v0 [])))).length<1000:=lt_of_le_of_lt (jl (jl (jl (jl (le_refl 0))))) (by decide)
theorem pl5 {f0 f1 f2 f3 f4:Str} {v0 v1 v2 v3 v4:V}:(aF f4 v4 (aF f3 v3 (aF f2 v2 (aF f1 v1 (aF f0 v0 []))))).length<1000:=lt_of_le_of_lt (jl (jl (jl (jl (jl (le_refl 0)))))) (by decide)
theorem pl6 {f0 f1 f2 f3 f4 f5:Str} {v0 v1 v2 v3 v4 v5:V}:(aF f5 v5 (aF f4 v4 (aF f3 v3 (aF f2 v2 (aF f1 v1 (aF f0 v0 [])))))).length<1000:=lt_of_le_of_lt (jl (jl (jl (jl (jl (jl (le_refl 0))))))) (by decide)
def Rx:Option Nat→V→Prop
 |none,v=>v = .dh
 |some e,v=>v = .int (e:Int)
def sX (H:Hp) (b:List UInt8) (as:List Addr):Option (Rc31.Dir×Rc31.Dir×Rc31.Dir)→V→Prop
 |none,v=>v = .dh∧as=[]
 |some (d1,d2,d3),v=>∃p q1 q2 q3,v = .ref p∧as=[p,q1,q2,q3]∧H p=some (.lst [.ref q1,.ref q2,.ref q3])∧H q1=some (.lst (bv (Rc31.part b d1)))∧H q2=some (.lst (bv (Rc31.part b d2)))∧H q3=some (.lst (bv (Rc31.part b d3)))
theorem sX.keep {H H':Hp} {b:List UInt8} {as:List Addr}:∀{i:Option (Rc31.Dir×Rc31.Dir×Rc31.Dir)} {v:V},sX H b as i v→(∀y∈as,∀xs,H y=some (.lst xs)→H' y=some (.lst xs))→sX H' b as i v
 |none,v,h,_=>h
 |some (d1,d2,d3),v,⟨p,q1,q2,q3,e,ea,h0,h1,h2,h3⟩,k=>⟨p,q1,q2,q3,e,ea,k p (by rw[ea];simp) _ h0,k q1 (by rw[ea];simp) _ h1,k q2 (by rw[ea];simp) _ h2,k q3 (by rw[ea];simp) _ h3⟩
abbrev jh (a:Ad) (H:Hp) (sa:List Addr) (ss:List Segment):Prop:=Paired (fun x s=>∃n,ym a H x s n) sa ss
abbrev abO (H:Hp) (la:List Addr) (ls:List (List UInt8)):Prop:=Paired (fun x l=>H x=some (.lst (bv l))) la ls
theorem bf {α β:Type} {F G:α→β→Prop}:∀{l:List α} {m:List β},Paired F l m→(∀x∈l,∀y,F x y→G x y)→Paired G l m
 |_,_,.nil,_=>.nil
 |_,_,.cons r t,f=>.cons (f _ mem_cons_self _ r) (bf t fun x hx=>f x (mem_cons_of_mem _ hx))
theorem gy {α β:Type} {F:α→β→Prop}:∀{l:List α} {m:List β} {x:α} {y:β},Paired F l m→F x y→Paired F (l++[x]) (m++[y])
 |_,_,_,_,.nil,h=>.cons h .nil
 |_,_,_,_,.cons r t,h=>.cons r (gy t h)
theorem bw {α β:Type} {F:α→β→Prop}:∀{l:List α} {m:List β},Paired F l m→l.length=m.length
 |_,_,.nil=>rfl
 |_,_,.cons _ t=>congrArg (·+1) (bw t)
structure zB (a:Ad) (H:Hp) (p ls ll:Addr) (b:List UInt8) (reach:Nat) (t:Told) (dx:Addr) (bg pt:V) (sa la as:List Addr):Prop where
 ob:H p=some (.ins a.bV dx (cQ (.int (reach:Int)) (.ref ls) (.ref ll) bg pt))
 bg:Rx t.entry bg
 pt:sX H b as t.info pt
 hs:H ls=some (.lst (sa.map V.ref))
 oI:jh a H sa t.segments
 hl:H ll=some (.lst (la.map V.ref))
 libs:abO H la t.libraries
 ne:ls≠ll
 off:∀y∈la++as,y≠ls∧y≠ll
 fresh:∀z,H z=none→a.new z
 FG:∀y∈la,a.new y
theorem fA {H:Hp} {x z:Addr} {o:HO} (e:upd H x o z=none):H z=none:=by
 by_cases h:z=x
 ·rw[h,af]at e
  cases e
 ·rw[aj h]at e
  exact e
inductive kQ (a:Ad) (H:Hp) (p ls ll:Addr) (b:List UInt8) (reach:Nat) (t:Told):Prop
 |mk (dx:_) (bg:_) (pt:_) (sa:_) (la:_) (as:_) (q0:zB a H p ls ll b reach t dx bg pt sa la as):kQ a H p ls ll b reach t
abbrev In3 (p q r:Addr):Addr→Prop:=fun b=>b=p∨b=q∨b=r
section
variable {a:Ad} {H H':Hp} {p ls ll:Addr} {b:List UInt8} {reach:Nat} {t:Told} {dx:Addr} {bg pt:V} {sa la as:List Addr}
theorem ym.keep {x:Addr} {s:Segment} {n:Nat} (h:ym a H x s n) (k:∀C d fs,H x=some (.ins C d fs)→H' x=some (.ins C d fs)):ym a H' x s n:=by
 obtain⟨d,e⟩:=h
 exact⟨d,k _ _ _ e⟩
theorem zB.same (h:zB a H p ls ll b reach t dx bg pt sa la as) (s:ax H H'):zB a H' p ls ll b reach t dx bg pt sa la as :=
 ⟨s _ _ h.ob,h.bg,h.pt.keep fun _ _ _ e=>s _ _ e,s _ _ h.hs,bf h.oI fun x _ y ⟨n,q⟩=>⟨n,q.keep fun _ _ _ e=>s _ _ e⟩,s _ _ h.hl,bf h.libs fun x _ y q=>s _ _ q,h.ne,h.off,fun z e=>h.fresh z (s.free e),h.FG⟩
theorem kQ.same (h:kQ a H p ls ll b reach t) (s:ax H H'):kQ a H' p ls ll b reach t:=by
 obtain⟨dx,bg,pt,sa,la,as,h⟩:=h
 exact⟨dx,bg,pt,sa,la,as,h.same s⟩
theorem zB.lsp (h:zB a H p ls ll b reach t dx bg pt sa la as):ls≠p:=cS h.hs h.ob (by intro z;cases z)
theorem zB.llp (h:zB a H p ls ll b reach t dx bg pt sa la as):ll≠p:=cS h.hl h.ob (by intro z;cases z)
theorem zB.abP (h:zB a H p ls ll b reach t dx bg pt sa la as) {x:Addr} {s:Segment} {n:Nat} (hx:ym a H x s n):kQ a (upd H ls (.lst (sa.map V.ref++[.ref x]))) p ls ll b reach {t with segments:=t.segments++[s]}:=by
 have Ry:∀{y C d:Addr} {fs:List (Str×V)},H y=some (.ins C d fs)→y≠ls:=fun e=>cS e h.hs (by intro z;cases z)
 refine⟨dx,bg,pt,sa++[x],la,as,⟨by rw[aj h.lsp.symm];exact h.ob,h.bg,h.pt.keep fun y hy xs e=>by rw[aj (h.off y (mem_append_right _ hy)).1];exact e,by rw[af,map_append];rfl,?_,by rw[aj h.ne.symm];exact h.hl,
  bf h.libs fun y hy l e=>by rw[aj (h.off y (mem_append_left _ hy)).1];exact e,h.ne,h.off,fun z e=>h.fresh z (fA e),h.FG⟩⟩
 refine gy (bf h.oI fun y _ s ⟨n,q⟩=>⟨n,q.keep fun _ _ _ e=>by rw[aj (Ry e)];exact e⟩) ⟨n,hx.keep fun _ _ _ e=>by rw[aj (Ry e)];exact e⟩
theorem zB.abQ (h:zB a H p ls ll b reach t dx bg pt sa la as) {x:Addr} {l:List UInt8} (hx:H x=some (.lst (bv l))) (hn:a.new x) (n1:x≠ls) (n2:x≠ll):kQ a (upd H ll (.lst (la.map V.ref++[.ref x]))) p ls ll b reach {t with libraries:=t.libraries++[l]}:=by
 have Ry:∀{y C d:Addr} {fs:List (Str×V)},H y=some (.ins C d fs)→y≠ll:=fun e=>cS e h.hl (by intro z;cases z)
 refine⟨dx,bg,pt,sa,la++[x],as,⟨by rw[aj h.llp.symm];exact h.ob,h.bg,h.pt.keep fun y hy xs e=>by rw[aj (h.off y (mem_append_right _ hy)).2];exact e,by rw[aj h.ne];exact h.hs,?_,by rw[af,map_append];rfl,
  ?_,h.ne,fun y hy=>?_,fun z e=>h.fresh z (fA e),fun y hy=>(mem_append.mp hy).elim (h.FG y) fun q=>by rw[mem_singleton.mp q];exact hn⟩⟩
 ·exact bf h.oI fun y _ s ⟨n,q⟩=>⟨n,q.keep fun _ _ _ e=>by rw[aj (Ry e)];exact e⟩
 ·exact gy (bf h.libs fun y hy l e=>by rw[aj (h.off y (mem_append_left _ hy)).2];exact e) (by rw[aj n2];exact hx)
 ·rw[append_assoc]at hy
  rcases mem_append.mp hy with q|q
  ·exact h.off y (mem_append_left _ q)
  ·rcases mem_append.mp q with q|q
   ·obtain rfl:y=x:=by simpa using q
    exact⟨n1,n2⟩
   ·exact h.off y (mem_append_right _ q)
theorem zB.Qi (h:zB a H p ls ll b reach t dx bg pt sa la as) {reach':Nat} {bg' pt':V} {as':List Addr} {t':Told} (e1:t'.segments=t.segments) (e2:t'.libraries=t.libraries) (hb:Rx t'.entry bg') (hp:sX H b as' t'.info pt') (ho:∀y∈as',y≠ls∧y≠ll) :
 kQ a (upd H p (.ins a.bV dx (cQ (.int (reach':Int)) (.ref ls) (.ref ll) bg' pt'))) p ls ll b reach' t':=by
 have ZM:∀{y:Addr} {xs:List V},H y=some (.lst xs)→y≠p:=fun e=>cS e h.ob (by intro z;cases z)
 refine⟨dx,bg',pt',sa,la,as',⟨af,hb,hp.keep fun y hy xs e=>by rw[aj (ZM e)];exact e,by rw[aj h.lsp];exact h.hs,?_,by rw[aj h.llp];exact h.hl,?_,h.ne,fun y hy=>?_,fun z e=>h.fresh z (fA e),h.FG⟩⟩
 ·rw[e1]
  exact bf h.oI fun y _ s ⟨n,d,e⟩=>⟨n,d,by rw[aj (cS e h.ob (by intro z;injection z with _ _ z;have:=congrArg length z;cases this))];exact e⟩
 ·rw[e2]
  exact bf h.libs fun y hy l e=>by rw[aj (ZM e)];exact e
 ·rcases mem_append.mp hy with q|q
  ·exact h.off y (mem_append_left _ q)
  ·exact ho y q
end
section
variable {g:Gm} {a:Ad}
inductive vU (a:Ad) (vs:List V) (H:Hp) (Q:VK) (E:XK):Prop
 |mk (p dx:Addr) (q0:vs=[.ref p]) (q1:H p=some (.ins a.bV dx [])) (q2:(∀z,H z=none→a.new z)) (q3:∀H' ls ll,(∀b,kQ a H' p ls ll b 32 {})→H ls=none→H ll=none→Kp (At p) H H'→Q .dh H'):vU a vs H Q E
theorem CL (T:Tx g.K g.mg a):Pr g 1 a.p9 ["self"] (vU a):=by
 refine Pr.on T.tI B8 fun b6 A outer s H vs Q E hr h=>?_
 obtain⟨p,dx,rfl,hp,Eh,k⟩:=h
 refine⟨_,ae (aT (pv 0) (pk T.lU) rfl) (ae (aT (pv 0) (cy ai) rfl) (ae (aT (pv 0) (cy ai) rfl) (ae (aT (pv 0) KA rfl) (ag (aT (pv 0) KA rfl))))),?_⟩
 refine⟨_,rfl,p,_,dx,_,rfl,hp,T.aM,T.bB,(by show 0<1000;decide),zero_le _,fun l1 n1=>?_⟩
 have np1:p≠l1:=aq af n1
 have h1:H l1=none:=by rw[aj np1.symm]at n1;exact n1
 refine⟨_,rfl,p,_,dx,_,rfl,(by rw[aj np1];exact af),T.aM,T.b8,(by show 1<1000;decide),zero_le _,fun l2 n2=>?_⟩
 have np2:p≠l2:=aq af n2
 have n12:l1≠l2:=aq (o:=.lst []) (by rw[aj np1.symm];exact af) n2
 have h2:H l2=none:=by rw[aj np2.symm,aj n12.symm,aj np2.symm]at n2;exact n2
 refine⟨_,rfl,p,_,dx,_,rfl,(by rw[aj np2];exact af),T.aM,T.bW,pl2,_,rfl,p,_,dx,_,rfl,af,T.aM,T.bc,pl3,_,rfl,p,_,dx,_,rfl,af,T.aM,T.cC,pl4,?_⟩
 have d:∀b,zB a (upd (upd (upd (upd (upd (upd (upd H p (.ins a.bV dx (aF "reach" (.int 32) []))) l1 (.lst [])) p (.ins a.bV dx (aF "segments" (.ref l1) (aF "reach" (.int 32) [])))) l2 (.lst [])) p (.ins a.bV dx (aF "libraries" (.ref l2) (aF "segments" (.ref l1) (aF "reach" (.int 32) []))))) p (.ins a.bV dx (aF "beginning" .dh (aF "libraries" (.ref l2) (aF "segments" (.ref l1) (aF "reach" (.int 32) [])))))) p (.ins a.bV dx (aF "parts" .dh (aF "beginning" .dh (aF "libraries" (.ref l2) (aF "segments" (.ref l1) (aF "reach" (.int 32) []))))))) p l1 l2 b 32 {} dx .dh .dh [] [] []:=fun b =>
  ⟨Eq.trans af (congrArg (fun q=>some (HO.ins a.bV dx q)) Ii),rfl,⟨rfl,rfl⟩,by rw[aj np1.symm,aj np1.symm,aj np1.symm,aj n12,aj np1.symm,af];rfl,.nil,by rw[aj np2.symm,aj np2.symm,aj np2.symm,af];rfl,.nil,n12,(fun y hy=>by cases hy),(fun z e=>Eh z (fA (fA (fA (fA (fA (fA (fA e)))))))),(fun y hy=>by cases hy)⟩
 refine k _ l1 l2 (fun b=>⟨_,_,_,_,_,_,d b⟩) h1 h2 ?_
 refine(((((Kp.upd (S:=At p) (.inl rfl)).step (Kp.upd (S:=At l1) (.inl rfl)) ?_).step (Kp.upd (S:=At p) (.inl rfl)) fun _ z=>.inl z).step (Kp.upd (S:=At l2) (.inl rfl)) ?_).step (Kp.upd (S:=At p) (.inl rfl)) fun _ z=>.inl z).step (Kp.upd (S:=At p) (.inl rfl)) (fun _ z=>.inl z) |>.step (Kp.upd (S:=At p) (.inl rfl)) fun _ z=>.inl z
 ·rintro _ rfl
  exact .inr h1
 ·rintro _ rfl
  exact .inr h2
end
theorem bp {i j:Int} (h:V.int i=V.int j):i=j:=by injection h
theorem br {i j:Int} (h:¬V.int i=V.int j):i≠j:=fun z=>h (by rw[z])
section
variable {g:Gm} {a:Ad}
def zC (b:List UInt8):Prop:=32≤b.length∧num b 0 4=0xFEEDFACF∧num b 4 4=0x01000007∧(num b 12 4=2∨num b 12 4=6∨num b 12 4=8)∧num b 16 4≤256∧32+num b 20 4≤b.length
inductive DV (a:Ad) (vs:List V) (H:Hp) (Q:VK) (E:XK):Prop
 |mk (f:Addr) (b:List UInt8) (q0:vs=[.ref f]) (q1:H f=some (.lst (bv b))) (q2:(zC b→∀H',ax H H'→Q .dh H')) (q3:(¬zC b→∀H',ax H H'→E (.ref a.aE) none H')):DV a vs H Q E
theorem Je (T:Tx g.K g.mg a):Pr g 2 a.yR ["file"] (DV a):=by
 have N:=cw T
 have D:=aB T
 refine Pr.on T.As Ie fun b6 A outer s H vs Q E hr h=>?_
 obtain⟨f,b,rfl,hf,k1,k0⟩:=h
 refine⟨_,ae (az D au hr (by decide) T.aA (aH zV (aV aJ (by rfl) T.eO boot_len (aa (pv 0) ai)) (pk T.lU) (aC _)))
  (ae (az D au hr (by decide) T.aA (aH b7 (aU N au hr (by decide) T.a8 (aa (pv 0) (aa ak (aa ak ai)))) (pk T.Rk) (aC _)))
  (ae (az D au hr (by decide) T.aA (aH b7 (aU N au hr (by decide) T.a8 (aa (pv 0) (aa ak (aa ak ai)))) (pk T.DM) (aC _)))
  (ae (az D au hr (by decide) T.aA (aH BX (aU N au hr (by decide) T.a8 (aa (pv 0) (aa ak (aa ak ai)))) (pkr T.jX) (by with_unfolding_all rfl)))
  (ae (az D au hr (by decide) T.aA (aH iO (aU N au hr (by decide) T.a8 (aa (pv 0) (aa ak (aa ak ai)))) (pk T.tJ) (aC _)))
  (ag (az D au hr (by decide) T.aA (aH iO (aO cq (pk T.lU) (aU N au hr (by decide) T.a8 (aa (pv 0) (aa ak (aa ak ai))))) (aV aJ (by rfl) T.eO boot_len (aa (pv 0) ai)) (aC _)))))))),?_⟩
 refine⟨_,rfl,f,_,rfl,.inl (bP.of hf),_,_,rfl,rfl,_,rfl,aw (fun c1=>?_) fun c1=>k0 (fun z=>c1 (by rw[bt];have:=z.1;lia)) _ (ax.refl _)⟩
 rw[bt]at c1
 refine⟨_,rfl,f,b,0,4,rfl,hf,fun H1 s1=>⟨rfl,_,rfl,aw (fun c2=>?_) fun c2=>k0 (fun z=>br c2 (by rw[z.2.1];rfl)) _ s1⟩⟩
 have c2:=bp c2
 have OJ:=s1 _ _ hf
 refine⟨_,rfl,f,b,4,4,rfl,OJ,fun H2 s2=>⟨rfl,_,rfl,aw (fun c3=>?_) fun c3=>k0 (fun z=>br c3 (by rw[z.2.2.1];rfl)) _ (s1.trans s2)⟩⟩
 have c3:=bp c3
 have hf2:=s2 _ _ OJ
 refine⟨_,rfl,f,b,12,4,rfl,hf2,fun H3 s3=>⟨_,_,rfl,.inr (T.AS _),rfl,rfl,_,rfl,?_⟩⟩
 have s3:=(s1.trans s2).trans s3
 have hf3:=s3 _ _ hf
 have R8:(Uy (V.int ((num b 12 4:Nat):Int)) [.int 2,.int 6,.int 8])=decide (num b 12 4=2∨num b 12 4=6∨num b 12 4=8):=by
  generalize num b 12 4=n
  rw[Bool.eq_iff_iff]
  simp[Uy,Uw]
  lia
 show if Uy (V.int ((num b 12 4:Nat):Int)) [.int 2,.int 6,.int 8]=true then _ else _
 rw[R8]
 refine aw (fun c4=>?_) fun c4=>k0 (fun z=>c4 z.2.2.2.1) _ s3
 refine⟨_,rfl,f,b,16,4,rfl,hf3,fun H4 s4=>⟨_,_,rfl,rfl,_,rfl,aw (fun c5=>?_) fun c5=>k0 (fun z=>c5 (by have:=z.2.2.2.2.1;lia)) _ (s3.trans s4)⟩⟩
 have s4:=s3.trans s4
 refine⟨_,rfl,f,b,20,4,rfl,s4 _ _ hf,fun H5 s5=>⟨_,_,rfl,rfl,_,rfl,f,_,rfl,.inl (bP.of ((s4.trans s5) _ _ hf)),_,_,rfl,rfl,_,rfl,aw (fun c6=>?_) fun c6=>k0 (fun z=>c6 (by rw[bt];have:=z.2.2.2.2.2;lia)) _ (s4.trans s5)⟩⟩
 rw[bt]at c6
 exact k1 ⟨by lia,by lia,by lia,c4,by lia,by lia⟩ _ (s4.trans s5)
inductive CM (a:Ad) (withFile:Bool) (f:List UInt8→List UInt8→Told→Option Told) (vs:List V) (H:Hp) (Q:VK) (E:XK):Prop
 |mk (p ls ll c fa:Addr) (b cb:List UInt8) (reach:Nat) (t:Told) (q0:vs=(if withFile=true then[.ref p,.ref c,.ref fa] else[.ref p,.ref c])) (q1:kQ a H p ls ll b reach t) (q2:t.segments.length<300) (q3:t.libraries.length≤64) (q4:H c=some (.lst (bv cb))) (q5:H fa=some (.lst (bv b))) (q6:(f b cb t=none→∀H',Kp (In3 p ls ll) H H'→E (.ref a.aE) none H')) (q7:∀t',f b cb t=some t'→∀H',kQ a H' p ls ll b reach t'→Kp (In3 p ls ll) H H'→Q .dh H'):CM a withFile f vs H Q E
def Qj (b c:List UInt8) (t:Told):Option Told :=
 if c.length=72+80*num c 64 4∧(ku c).at_%4096=0∧(ku c).size%4096=0∧(ku c).file%4096=0∧(ku c).raw≤(ku c).size∧within b ((ku c).file,(ku c).raw)=true∧(ku c).rights<8 then some {t with segments:=t.segments++[ku c]} else none
theorem EM (T:Tx g.K g.mg a):Pr g 4 a.rX ["contents","command","file"] (CM a true Qj):=by
 have D:=aB T
 have S:=EL T
 refine Pr.on T.u7 tD fun b6 A outer s H vs Q E hr h=>?_
 obtain⟨p,ls,ll,c,fa,b,cb,reach,t,rfl,⟨dx,bg,pt,sa,la,as,C⟩,O2,NW,hc,hf,k0,k1⟩:=h
 refine⟨_,ae (aI (i:=3) tD.nd rfl (Or.inl rfl) (kT S T.sf au hr (by decide) T.J0 (aa (pv 1) ai)))
  (ae (az D au hr (by decide) T.aA (aH b7 (aV aJ (by rfl) T.eO boot_len (aa (pv 1) ai)) (aO cq (pk T.vk) (aO yC (pk T.vm) (ar (pv 3) rfl))) (aC _)))
  (ae (az D au hr (by decide) T.aA (aH nH (ar (pv 3) rfl) ak (aC _)))
  (ae (az D au hr (by decide) T.aA (aH b7 (aO jJ (ar (pv 3) rfl) (pk T.Gb)) ak (aC _)))
  (ae (az D au hr (by decide) T.aA (aH b7 (aO jJ (ar (pv 3) rfl) (pk T.Gb)) ak (aC _)))
  (ae (az D au hr (by decide) T.aA (aH b7 (aO jJ (ar (pv 3) rfl) (pk T.Gb)) ak (aC _)))
  (ae (az D au hr (by decide) T.aA (aH iO (ar (pv 3) rfl) (ar (pv 3) rfl) (aC _)))
  (ae (az D au hr (by decide) T.aA (aH iO (aO cq (ar (pv 3) rfl) (ar (pv 3) rfl)) (aV aJ (by rfl) T.eO boot_len (aa (pv 2) ai)) (aC _)))
  (ag (aR (uh F.plainAttrs_list F.slot_list_append F.type_list_append iC (ar (pv 0) rfl) (aa (pv 3) ai))))))))))),?_⟩
 refine⟨_,rfl,fun x d nx nd nex=>⟨x,d,c,cb,rfl,af,?_,fun H1 sg k=>⟨rfl,?_⟩⟩⟩
 ·rw[aj (aq hc nx),aj (aq hc nd)]
  exact hc
 have s1:ax H H1:=ax.tS nx nd k
 have C1:=C.same s1
 obtain⟨d1,hx⟩:=id sg
 have J8:=s1 _ _ hc
 have OJ:=s1 _ _ hf
 have fail:¬(cb.length=72+80*num cb 64 4∧(ku cb).at_%4096=0∧(ku cb).size%4096=0∧(ku cb).file%4096=0∧(ku cb).raw≤(ku cb).size∧within b ((ku cb).file,(ku cb).raw)=true∧(ku cb).rights<8)→E (.ref a.aE) none H1:=fun z=>k0 (by unfold Qj;rw[IN z]) _ (Kp.same s1)
 refine⟨_,rfl,c,_,rfl,.inl (bP.of J8),_,rfl,x,_,d1,_,_,rfl,hx,T.aG,T.dR,y8,_,_,rfl,rfl,.inl ⟨by decide,by decide⟩,_,_,rfl,rfl,rfl,_,rfl,aw (fun c1=>?_) fun c1=>fail fun z=>br c1 (by rw[bt];have:=z.1;lia)⟩
 have c1:=bp c1
 rw[bt]at c1
 refine⟨_,rfl,x,_,d1,_,_,rfl,hx,T.aG,T.df,k9,_,_,rfl,rfl,_,rfl,aw (fun c2=>?_) fun c2=>fail fun z=>c2 (by have:=z.2.2.2.2.2.2;lia)⟩
 refine⟨_,rfl,x,_,d1,_,_,rfl,hx,T.aG,T.aX,bQ,_,_,rfl,rfl,(by show(0:Int)<4096;decide),rfl,_,rfl,aw (fun c3=>?_) fun c3=>fail fun z=>br c3 (by have:=z.2.1;lia)⟩
 have c3:=bp c3
 refine⟨_,rfl,x,_,d1,_,_,rfl,hx,T.aG,T.cn,gu,_,_,rfl,rfl,(by show(0:Int)<4096;decide),rfl,_,rfl,aw (fun c4=>?_) fun c4=>fail fun z=>br c4 (by have:=z.2.2.1;lia)⟩
 have c4:=bp c4
 refine⟨_,rfl,x,_,d1,_,_,rfl,hx,T.aG,T.cB,iL,_,_,rfl,rfl,(by show(0:Int)<4096;decide),rfl,_,rfl,aw (fun c5=>?_) fun c5=>fail fun z=>br c5 (by have:=z.2.2.2.1;lia)⟩
 have c5:=bp c5
 refine⟨_,rfl,x,_,d1,_,_,rfl,hx,T.aG,T.bL,eg,_,rfl,x,_,d1,_,_,rfl,hx,T.aG,T.cn,gu,_,_,rfl,rfl,_,rfl,aw (fun c6=>?_) fun c6=>fail fun z=>c6 (by have:=z.2.2.2.2.1;lia)⟩
 refine⟨_,rfl,x,_,d1,_,_,rfl,hx,T.aG,T.cB,iL,_,rfl,x,_,d1,_,_,rfl,hx,T.aG,T.bL,eg,_,_,rfl,rfl,_,rfl,fa,_,rfl,.inl (bP.of OJ),_,_,rfl,rfl,_,rfl,aw (fun c7=>?_) fun c7=>fail fun z=>c7 (by rw[bt];have:=of_decide_eq_true z.2.2.2.2.2.1;dsimp only at this;lia)⟩
 rw[bt]at c7
 refine⟨_,rfl,p,_,dx,_,_,rfl,C1.ob,T.aM,T.b8,jf,.inl ⟨rfl,_,bP.of C1.hs⟩,_,rfl,ls,_,_,rfl,rfl,C1.hs,?_,?_⟩
 ·rw[length_map,bw C1.oI]
  exact lt_trans O2 (by decide)
 refine k1 _ (by unfold Qj;rw[iPp ⟨by lia,by lia,by lia,by lia,by lia,decide_eq_true (by dsimp only;lia),by lia⟩]) _ (C1.abP sg) ?_
 exact(Kp.same s1).step (Kp.upd (S:=At ls) (.inl rfl)) fun y z=>.inl (.inr (.inl z))
def LQ (b c:List UInt8) (t:Told):Option Told :=
 if c.length<25∨num c 8 4≠24 then none else(textIn (c.drop 24)).bind fun x=>if t.libraries.length<64 then some {t with libraries:=t.libraries++[x.1]} else none
theorem EN (T:Tx g.K g.mg a):Pr g 4 a.rY ["contents","command"] (CM a false LQ):=by
 refine Pr.on T.vc Eo fun b6 A outer s H vs Q E hr h=>?_
 obtain⟨p,ls,ll,c,fa,b,cb,reach,t,rfl,⟨dx,bg,pt,sa,la,as,C⟩,O2,NW,hc,hf,k0,k1⟩:=h
 refine⟨_,ae (az (aB T) au hr (by decide) T.aA (aH JB (aV aJ (by rfl) T.eO boot_len (aa (pv 1) ai)) (pk T.kd) (aC _)))
  (ae (az (aB T) au hr (by decide) T.aA (aH b7 (aU (cw T) au hr (by decide) T.a8 (aa (pv 1) (aa ak (aa ak ai)))) (pk T.kd) (aC _)))
  (ae (az (aB T) au hr (by decide) T.aA (aH nH (aV aJ (by rfl) T.eO boot_len (aa (ar (pv 0) rfl) ai)) (pk T.qH) (aC _)))
  (ag (aR (uh F.plainAttrs_list F.slot_list_append F.type_list_append iC (ar (pv 0) rfl) (aa (a7 (kT (oG T) T.nG au hr (by decide) T.AH (aa (pv 1) (aa (pk T.kd) ai))) (oH T) T.aL T.lE au hr (by decide)) ai)))))),?_⟩
 refine⟨_,rfl,c,_,rfl,.inl (bP.of hc),_,_,rfl,rfl,_,rfl,aw (fun c1=>?_) fun c1=>k0 (by unfold LQ;rw[iPp (.inl (by rw[bt]at c1;lia))]) _ Kp.refl⟩
 rw[bt]at c1
 refine⟨_,rfl,c,cb,8,4,rfl,hc,fun H1 s1=>⟨rfl,_,rfl,aw (fun c2=>?_) fun c2=>k0 (by unfold LQ;rw[iPp (.inr fun z=>br c2 (by rw[z];rfl))]) _ (Kp.same s1)⟩⟩
 have c2:=bp c2
 have C1:=C.same s1
 have J8:=s1 _ _ hc
 have eF:LQ b cb t=(textIn (cb.drop 24)).bind fun x=>if t.libraries.length<64 then some {t with libraries:=t.libraries++[x.1]} else none:=by
  unfold LQ
  rw[IN (by rintro(z|z)<;>lia)]
 refine⟨_,rfl,p,_,dx,_,_,rfl,C1.ob,T.aM,T.bW,iu,ll,_,rfl,.inl (bP.of C1.hl),_,_,rfl,rfl,_,rfl,aw (fun c3=>?_) fun c3=>k0 (by
  rw[eF]
  rw[length_map,bw C1.libs]at c3
  cases textIn (cb.drop 24) with
  |none=>rfl
  |some x =>
   show(if _ then _ else _)=_
   rw[IN (by lia)]) _ (Kp.same s1)⟩
 rw[length_map,bw C1.libs]at c3
 refine⟨_,rfl,p,_,dx,_,_,rfl,C1.ob,T.aM,T.bW,iu,.inl ⟨rfl,_,bP.of C1.hl⟩,_,rfl,fun x d nx nd nex=>⟨x,d,c,24,rfl,af,fun H2 cu k2=>⟨rfl,?_⟩⟩⟩
 have s2:ax H1 H2:=ax.tS nx nd k2
 obtain⟨d2,hx⟩:=id cu
 refine⟨x,d2,_,rfl,hx,k7,x,c,cb,24,rfl,cu,s2 _ _ J8,fun hn H3 k3=>?_,fun tx rest htx v H3 j3 hv C3 lt3 ZI er k3=>?_⟩
 ·refine k0 (by rw[eF,hn];rfl) _ ?_
  exact(Kp.same (s1.trans s2)).step k3 fun y z=>.inr (by obtain rfl:y=x:=z;exact s1.free nx)
 ·obtain⟨l,rfl,hl,hL⟩:=hv
  have s3:ax H1 H3:=fun y o e=>k3 y o (s2 y o e) (aq e nx)
  have C3':=C1.same s3
  refine⟨ll,_,_,rfl,rfl,C3'.hl,?_,?_⟩
  ·rw[length_map,bw C1.libs]
   exact lt_trans (show t.libraries.length<64 by lia) (by decide)
  ·refine k1 _ (by rw[eF,htx];show(if _ then _ else _)=_;rw[iPp (by lia)]) _ (C3'.abQ hL (C1.fresh l (s2.free hl)) (fun z=>?_) fun z=>?_) ?_
   ·subst z
    rw[s2 _ _ C1.hs]at hl;cases hl
   ·subst z
    rw[s2 _ _ C1.hl]at hl;cases hl
   ·exact(Kp.same (s1.trans s3)).step (Kp.upd (S:=At ll) (.inl rfl)) fun y z=>.inl (.inr (.inr z))
def NX (b c:List UInt8) (t:Told):Option Told:=if c.length=24∧t.entry=none then some {t with entry:=some (num c 8 8)} else none
theorem Rx.dh:∀{o:Option Nat} {v:V},Rx o v→(decide (v = .dh)=true↔o=none)
 |none,v,h=>by subst h;simp
 |some e,v,h=>by subst h;simp
theorem Bv (T:Tx g.K g.mg a):Pr g 4 a.nY ["contents","command"] (CM a false NX):=by
 refine Pr.on T.qD Al fun b6 A outer s H vs Q E hr h=>?_
 obtain⟨p,ls,ll,c,fa,b,cb,reach,t,rfl,⟨dx,bg,pt,sa,la,as,C⟩,O2,NW,hc,hf,k0,k1⟩:=h
 refine⟨_,ae (az (aB T) au hr (by decide) T.aA (Fo (BR (ar (pv 0) rfl))))
  (ae (az (aB T) au hr (by decide) T.aA (aH b7 (aV aJ (by rfl) T.eO boot_len (aa (pv 1) ai)) (pk T.qI) (aC _)))
  (ag (aT (pv 0) (aU (cw T) au hr (by decide) T.a8 (aa (pv 1) (aa ak (aa ak ai)))) rfl))),?_⟩
 refine⟨_,rfl,p,_,dx,_,_,rfl,C.ob,T.aM,T.bc,dI,_,rfl,?_⟩
 by_cases c1:t.entry=none
 ·rw[C.bg.dh.mpr c1]
  refine iE ⟨_,rfl,c,_,rfl,.inl (bP.of hc),rfl,_,rfl,aw (fun c2=>?_) fun c2=>k0 (by unfold NX;rw[IN fun z=>br c2 (by rw[bt,z.1];rfl)]) _ Kp.refl⟩
  have c2:=bp c2
  rw[bt]at c2
  refine⟨_,rfl,c,cb,8,8,rfl,hc,fun H1 s1=>⟨_,rfl,p,_,dx,_,rfl,s1 _ _ C.ob,T.aM,T.bc,(by rw[om];decide),?_⟩⟩
  rw[qf]
  have C1:=C.same s1
  refine k1 {t with entry:=some (num cb 8 8)} (by unfold NX;rw[iPp ⟨by lia,c1⟩]) _ (C1.Qi rfl rfl rfl C1.pt fun y hy=>C1.off y (mem_append_right _ hy)) ?_
  exact(Kp.same s1).step (Kp.upd (S:=At p) (.inl rfl)) fun y z=>.inl (.inl z)
 ·rw[Bool.eq_false_iff.mpr fun z=>c1 (C.bg.dh.mp z)]
  exact eA (k0 (by unfold NX;rw[IN fun z=>c1 z.2]) _ Kp.refl)
inductive NY (a:Ad) (vs:List V) (H:Hp) (Q:VK) (E:XK):Prop
 |mk (c fa:Addr) (i:Nat) (b cb:List UInt8) (q0:vs=[.ref c,.int i,.ref fa]) (q1:H c=some (.lst (bv cb))) (q2:H fa=some (.lst (bv b))) (q3:(within b (num cb i 4,num cb (i+4) 4)=false→∀H',ax H H'→E (.ref a.aE) none H')) (q4:(within b (num cb i 4,num cb (i+4) 4)=true→∀q H',H q=none→H' q=some (.lst (bv (Rc31.part b (num cb i 4,num cb (i+4) 4))))→ax H H'→Q (.ref q) H')):NY a vs H Q E
theorem Qk (T:Tx g.K g.mg a):Pr g 2 a.part_of ["command","at","file"] (NY a):=by
 refine Pr.on T.JR yM fun b6 A outer s H vs Q E hr h=>?_
 obtain⟨c,fa,i,b,cb,rfl,hc,hf,k0,k1⟩:=h
 refine⟨_,ae (aI (i:=3) yM.nd rfl (Or.inl rfl) (aU (cw T) au hr (by decide) T.a8 (aa (pv 0) (aa (pv 1) (aa ak ai)))))
  (ae (aI (i:=4) yM.nd rfl (Or.inl rfl) (aU (cw T) au hr (by decide) T.a8 (aa (pv 0) (aa (aO cq (pv 1) ak) (aa ak ai)))))
  (ae (az (aB T) au hr (by decide) T.aA (aH iO (aO cq (pv 3) (pv 4)) (aV aJ (by rfl) T.eO boot_len (aa (pv 2) ai)) (aC _)))
  (ag (aS (jL m4 (pv 2) (gY (pv 3)) (gY (aO cq (pv 3) (pv 4)))))))),?_⟩
 refine⟨_,rfl,_,rfl,c,cb,i,4,rfl,hc,fun H1 s1=>⟨_,rfl,_,rfl,_,_,rfl,rfl,c,cb,i+4,4,rfl,s1 _ _ hc,fun H2 s2=>?_⟩⟩
 have s2:=s1.trans s2
 refine⟨_,rfl,_,rfl,_,_,rfl,rfl,_,rfl,fa,_,rfl,.inl (bP.of (s2 _ _ hf)),_,_,rfl,rfl,_,rfl,aw (fun c1=>?_) fun c1=>k0 (decide_eq_false fun z=>c1 (by rw[bt];dsimp only at z;lia)) _ s2⟩
 rw[bt]at c1
 refine⟨_,rfl,_,rfl,_,rfl,_,rfl,_,rfl,_,_,rfl,rfl,_,rfl,fa,_,rfl,bP.of (s2 _ _ hf),fun q hq=>?_⟩
 rw[LP]
 exact k1 (decide_eq_true (by dsimp only;lia)) q _ (s2.free hq) af (s2.trans (ax.upd hq))
end
abbrev dirOf (c:List UInt8) (i:Nat):Rc31.Dir:=(num c i 4,num c (i+4) 4)
theorem sX.dh {H:Hp} {b:List UInt8} {as:List Addr}:∀{o:Option (Rc31.Dir×Rc31.Dir×Rc31.Dir)} {v:V},sX H b as o v→(decide (v = .dh)=true↔o=none)
 |none,v,h=>by obtain⟨rfl,_⟩:=h;simp
 |some (d1,d2,d3),v,⟨p,q1,q2,q3,e,_⟩=>by subst e;simp
section
variable {g:Gm} {a:Ad}
def zD (b c:List UInt8) (t:Told):Option Told :=
 if c.length=48∧t.info=none∧within b (dirOf c 8)=true∧within b (dirOf c 16)=true∧within b (dirOf c 40)=true∧num c 28 4=0∧num c 36 4=0 then some {t with info:=some (dirOf c 8,dirOf c 16,dirOf c 40)} else none
theorem Jf (T:Tx g.K g.mg a):Pr g 4 a.yS ["contents","command","file"] (CM a true zD):=by
 refine Pr.on T.Av pZ fun b6 A outer s H vs Q E hr h=>?_
 obtain⟨p,ls,ll,c,fa,b,cb,reach,t,rfl,⟨dx,bg,pt,sa,la,as,C⟩,O2,NW,hc,hf,k0,k1⟩:=h
 refine⟨_,ae (az (aB T) au hr (by decide) T.aA (Fo (BR (ar (pv 0) rfl))))
  (ae (az (aB T) au hr (by decide) T.aA (aH b7 (aV aJ (by rfl) T.eO boot_len (aa (pv 1) ai)) (pk T.AR) (aC _)))
  (ae (az (aB T) au hr (by decide) T.aA (aH b7 (aU (cw T) au hr (by decide) T.a8 (aa (pv 1) (aa ak (aa ak ai)))) ak (aC _)))
  (ae (az (aB T) au hr (by decide) T.aA (aH b7 (aU (cw T) au hr (by decide) T.a8 (aa (pv 1) (aa ak (aa ak ai)))) ak (aC _)))
  (ag (aT (pv 0) (CK J9 rfl pZ.nd (aaA (OU (aa ak (aa ak (aa ak ai))))) (nJ (N:=["contents","command","file","at"]) (sc:=ao m5) (own:=[("at",3)]) (by decide +kernel)) (fun _ _ _ _ _ _=>dJ (i:=3) pZ.nd rfl (Or.inl rfl)) (fun _ _ _ _ _ _ _=>Aa) (fun _ _ _ _ _ _ pass=>aU (Qk T) pass hr (by decide) T.JS (aa (pv 1) (aa (pv 3) (aa (pv 2) ai))))) rfl))))),?_⟩
 have fail:∀{H':Hp},ax H H'→¬(cb.length=48∧t.info=none∧within b (dirOf cb 8)=true∧within b (dirOf cb 16)=true∧within b (dirOf cb 40)=true∧num cb 28 4=0∧num cb 36 4=0)→E (.ref a.aE) none H':=fun{H'} s z=>k0 (by unfold zD;rw[IN z]) _ (Kp.same s)
 refine⟨_,rfl,p,_,dx,_,_,rfl,C.ob,T.aM,T.cC,lg,_,rfl,?_⟩
 by_cases c1:t.info=none
 ·rw[C.pt.dh.mpr c1]
  refine iE ⟨_,rfl,c,_,rfl,.inl (bP.of hc),rfl,_,rfl,aw (fun c2=>?_) fun c2=>fail (ax.refl _) fun z=>br c2 (by rw[bt,z.1];rfl)⟩
  have c2:=bp c2
  rw[bt]at c2
  refine⟨_,rfl,c,cb,28,4,rfl,hc,fun H1 s1=>⟨rfl,_,rfl,aw (fun c3=>?_) fun c3=>fail s1 fun z=>br c3 (by rw[z.2.2.2.2.2.1];rfl)⟩⟩
  have c3:=bp c3
  refine⟨_,rfl,c,cb,36,4,rfl,s1 _ _ hc,fun H2 s2=>⟨rfl,_,rfl,aw (fun c4=>?_) fun c4=>fail (s1.trans s2) fun z=>br c4 (by rw[z.2.2.2.2.2.2];rfl)⟩⟩
  have c4:=bp c4
  have s2:=s1.trans s2
  refine⟨(by show 3≤sizeLine;decide),fun tp htp=>⟨tp,rfl,⟨_,tV.of af⟩,fun D hD=>?_⟩⟩
  have s3:ax H (upd H2 tp (.tup [.int 8,.int 16,.int 40])):=s2.trans (ax.upd htp)
  have nD:H D=none:=s3.free hD
  have ntp:H tp=none:=s2.free htp
  have ntD:tp≠D:=aq af hD
  refine aaU (K:=g.K) (a:=tp) (xs:=[.int ((8:Nat):Int),.int ((16:Nat):Int),.int ((40:Nat):Int)]) (fun i H4=>∃qs:List Addr,H4 D=some (.lst (qs.map V.ref))∧H4 tp=some (.tup [.int 8,.int 16,.int 40])∧ax H H4∧Paired (fun q d=>H4 q=some (.lst (bv (Rc31.part b d)))∧H q=none∧q≠D∧within b d=true) qs ([dirOf cb 8,dirOf cb 16,dirOf cb 40].take i))
   ⟨[],af,by rw[aj ntD];exact af,s3.trans (ax.upd hD),.nil⟩ (fun i H4 _ ⟨qs,_,h,_⟩=>tV.of h) ?_ ?_
  ·rintro i x H4 hx ⟨qs,hq,ht4,s4,pq⟩
   obtain⟨n,hn,rfl,hi3⟩:∃n:Nat,[dirOf cb 8,dirOf cb 16,dirOf cb 40][i]?=some (dirOf cb n)∧x=V.int (n:Int)∧i<3:=by
    match i,hx with
    |0,hx=>exact⟨8,rfl,(Option.some.inj hx).symm,by decide⟩
    |1,hx=>exact⟨16,rfl,(Option.some.inj hx).symm,by decide⟩
    |2,hx=>exact⟨40,rfl,(Option.some.inj hx).symm,by decide⟩
    |j+3,hx=>simp at hx
   refine⟨rfl,?_⟩
   unfold aaP
   rw[iPp rfl]
   refine⟨_,rfl,_,rfl,_,rfl,c,fa,n,b,cb,rfl,s4 _ _ hc,s4 _ _ hf,fun hw H5 s5=>?_,fun hw q H5 nq hq5 s5=>?_⟩
   ·refine fail (s4.trans s5) fun z=>?_
    have hw':∀d∈[dirOf cb 8,dirOf cb 16,dirOf cb 40],within b d=true:=by
     intro d hd
     simp at hd
     rcases hd with rfl|rfl|rfl
     ·exact z.2.2.1
     ·exact z.2.2.2.1
     ·exact z.2.2.2.2.1
    rw[hw' _ (mem_of_getElem? hn)]at hw
    cases hw
   ·have hD5:=s5 _ _ hq
    have nqD:q≠D:=fun z=>by
     subst z
     rw[hq]at nq;cases nq
    refine⟨_,hD5,?_,qs++[q],by rw[af,map_append];rfl,by rw[aj ntD];exact s5 _ _ ht4,?_,?_⟩
    ·rw[length_map,bw pq,length_take]
     exact lt_of_le_of_lt (Nat.min_le_right _ _) (by show 3<sizeLine;decide)
    ·intro y o e
     rw[aj (aq e nD)]
     exact s5 _ _ (s4 _ _ e)
    ·have e1:[dirOf cb 8,dirOf cb 16,dirOf cb 40].take (i+1)=[dirOf cb 8,dirOf cb 16,dirOf cb 40].take i++[dirOf cb n]:=by
      rw[take_succ,hn]
      rfl
     rw[e1]
     refine gy (bf pq fun y _ d ⟨h1,h2,h3,h4⟩=>⟨by rw[aj h3];exact s5 _ _ h1,h2,h3,h4⟩) ⟨by rw[aj nqD];exact hq5,s4.free nq,nqD,hw⟩
  ·rintro H4 ⟨qs,hq,ht4,s4,pq⟩
   match qs,pq with
   | [q1,q2,q3],.cons ⟨a1,n1,m1,w1⟩ (.cons ⟨a2,n2,m2,w2⟩ (.cons ⟨a3,n3,m3,w3⟩ .nil)) =>
    refine⟨_,rfl,p,_,dx,_,rfl,s4 _ _ C.ob,T.aM,T.cC,(by rw[om];decide),?_⟩
    rw[vq]
    have C4:=C.same s4
    refine k1 {t with info:=some (dirOf cb 8,dirOf cb 16,dirOf cb 40)} (by unfold zD;rw[iPp ⟨by lia,c1,w1,w2,w3,by lia,by lia⟩]) _ (C4.Qi (as':=[D,q1,q2,q3]) rfl rfl C.bg ⟨D,q1,q2,q3,rfl,rfl,hq,a1,a2,a3⟩ fun y hy=>?_) ?_
    ·have hy0:H y=none:=by
      simp at hy
      rcases hy with rfl|rfl|rfl|rfl
      ·exact nD
      ·exact n1
      ·exact n2
      ·exact n3
     exact⟨(aq C.hs hy0).symm,(aq C.hl hy0).symm⟩
    ·exact(Kp.same s4).step (Kp.upd (S:=At p) (.inl rfl)) fun y z=>.inl (.inl z)
 ·rw[Bool.eq_false_iff.mpr fun z=>c1 (C.pt.dh.mp z)]
  exact eA (fail (ax.refl _) fun z=>c1 z.2.1)
end
def CN (b c:List UInt8) (t:Told):Option Told :=
 if num c 0 4=0x19 then Qj b c t else if num c 0 4=0xC then LQ b c t else if num c 0 4=0x80000028 then NX b c t else if num c 0 4=0x80000022 then zD b c t else some t
def EO (t:Told):Option Told:=if t.libraries.length≤64 then some t else none
theorem Yn (b c:List UInt8) (t:Told) (h:t.libraries.length≤64):CN b c t=(Rc31.command b c t).bind EO:=by
 unfold CN Rc31.command
 dsimp only
 split
 ·unfold Qj ku
  dsimp only
  split
  ·show _=EO _
   unfold EO
   rw[iPp h]
  ·rfl
 ·split
  ·unfold LQ
   split
   ·rfl
   ·cases textIn (c.drop 24) with
    |none=>rfl
    |some x =>
     show(if _ then _ else _)=EO _
     unfold EO
     simp only[length_append,length_cons,length_nil]
     by_cases h2:t.libraries.length<64
     ·rw[iPp h2,iPp (by lia)]
     ·rw[IN h2,IN (by lia)]
  ·split
   ·unfold NX
    split
    ·show _=EO _
     unfold EO
     rw[iPp h]
    ·rfl
   ·split
    ·unfold zD
     split
     ·show _=EO _
      unfold EO
      rw[iPp h]
     ·rfl
    ·show _=EO _
     unfold EO
     rw[iPp h]
theorem VF {b c:List UInt8} {t u:Told} (h:CN b c t=some u):u.segments.length≤t.segments.length+1∧(t.libraries.length≤64→u.libraries.length≤64):=by
 unfold CN Qj LQ NX zD at h
 repeat' split at h
 all_goals first
  |(cases h;done)
  |(cases h;simp only[length_append,length_cons,length_nil];exact⟨by lia,fun z=>by lia⟩)
  |(cases h;exact⟨by lia,id⟩)
  |(obtain⟨x,hx,h⟩:=oBb h
    cases h
    try simp only[length_append,length_cons,length_nil]
    try exact⟨by lia,fun z=>by lia⟩)
instance {b:List UInt8}:Decidable (zC b):=by unfold zC;infer_instance
section
variable {g:Gm} {a:Ad}
theorem ER (T:Tx g.K g.mg a):Pr g 5 a.rZ ["contents","command","file"] (CM a true CN):=by
 refine Pr.on T.ve tE fun b6 A outer s H vs Q E hr h=>?_
 obtain⟨p,ls,ll,c,fa,b,cb,reach,t,rfl,C,O2,NW,hc,hf,k0,k1⟩:=h
 refine⟨_,ae (aI (i:=3) tE.nd rfl (Or.inl rfl) (aU (cw T) au hr (by decide) T.a8 (aa (pv 1) (aa ak (aa ak ai)))))
  (ag (dt (bH b7 (pv 3) (pk T.J2) (aC _)) (ag (aR (aU (EM T) au hr (by decide) T.u9 (aa (pv 0) (aa (pv 1) (aa (pv 2) ai)))))) (ag (dt (bH b7 (pv 3) (pk T.J3) (aC _)) (ag (aR (aU (EN T) au hr (by decide) T.vd (aa (pv 0) (aa (pv 1) ai))))) (ag (dt (bH b7 (pv 3) (pk T.DN) (aC _)) (ag (aR (aU (Bv T) au hr (by decide) T.qE (aa (pv 0) (aa (pv 1) ai))))) (ag (dt (bH b7 (pv 3) (pk T.Rl) (aC _)) (ag (aR (aU (Jf T) au hr (by decide) T.Aw (aa (pv 0) (aa (pv 1) (aa (pv 2) ai)))))) gz)))))))),?_⟩
 refine⟨_,rfl,c,cb,0,4,rfl,hc,fun H1 s1=>?_⟩
 have C1:=C.same s1
 have J8:=s1 _ _ hc
 have OJ:=s1 _ _ hf
 have fin:∀{f:List UInt8→List UInt8→Told→Option Told},CN b cb t=f b cb t→(f b cb t=none→∀H',Kp (In3 p ls ll) H1 H'→E (.ref a.aE) none H')∧∀t',f b cb t=some t'→∀H',kQ a H' p ls ll b reach t'→Kp (In3 p ls ll) H1 H'→Q .dh H':=fun{f} e =>
  ⟨fun z H' k=>k0 (e.trans z) _ ((Kp.same s1).step k fun _ z=>.inl z),fun t' z H' C' k=>k1 t' (e.trans z) _ C' ((Kp.same s1).step k fun _ z=>.inl z)⟩
 refine⟨_,rfl,rfl,_,rfl,aw (fun e1=>?_) fun e1=>?_⟩
 ·have e1:=bp e1
  obtain⟨f0,f1⟩:=fin (f:=Qj) (by unfold CN;rw[iPp (by lia)])
  exact⟨_,rfl,_,rfl,_,rfl,p,ls,ll,c,fa,b,cb,reach,t,rfl,C1,O2,NW,J8,OJ,f0,f1⟩
 have e1:=br e1
 refine⟨_,rfl,rfl,_,rfl,aw (fun e2=>?_) fun e2=>?_⟩
 ·have e2:=bp e2
  obtain⟨f0,f1⟩:=fin (f:=LQ) (by unfold CN;rw[IN (by lia),iPp (by lia)])
  exact⟨_,rfl,_,rfl,p,ls,ll,c,fa,b,cb,reach,t,rfl,C1,O2,NW,J8,OJ,f0,f1⟩
 have e2:=br e2
 refine⟨_,rfl,rfl,_,rfl,aw (fun e3=>?_) fun e3=>?_⟩
 ·have e3:=bp e3
  obtain⟨f0,f1⟩:=fin (f:=NX) (by unfold CN;rw[IN (by lia),IN (by lia),iPp (by lia)])
  exact⟨_,rfl,_,rfl,p,ls,ll,c,fa,b,cb,reach,t,rfl,C1,O2,NW,J8,OJ,f0,f1⟩
 have e3:=br e3
 refine⟨_,rfl,rfl,_,rfl,aw (fun e4=>?_) fun e4=>?_⟩
 ·have e4:=bp e4
  obtain⟨f0,f1⟩:=fin (f:=zD) (by unfold CN;rw[IN (by lia),IN (by lia),IN (by lia),iPp (by lia)])
  exact⟨_,rfl,_,rfl,_,rfl,p,ls,ll,c,fa,b,cb,reach,t,rfl,C1,O2,NW,J8,OJ,f0,f1⟩
 have e4:=br e4
 exact k1 t (by unfold CN;rw[IN (by lia),IN (by lia),IN (by lia),IN (by lia)]) _ C1 (Kp.same s1)
def Bw (b:List UInt8) (e:Nat):Nat→Nat→Told→Option Told
 |0,r,t=>if r=e then some t else none
 |n+1,r,t=>if (8≤num b (r+4) 4∧num b (r+4) 4%8=0)∧r+num b (r+4) 4≤e then(CN b ((b.drop r).take (num b (r+4) 4)) t).bind fun u=>Bw b e n (r+num b (r+4) 4) u else none
def yo (b:List UInt8):Option Told:=if zC b then Bw b (32+num b 20 4) (num b 16 4) 32 {} else none
theorem VG {b c:List UInt8} {e n r k:Nat} {t:Told} (hk:num b (r+4) 4=k):Bw b e (n+1) r t=if (8≤k∧k%8=0)∧r+k≤e then(CN b ((b.drop r).take k) t).bind fun u=>Bw b e n (r+k) u else none:=by
 subst hk
 rfl
inductive Bx (a:Ad) (vs:List V) (H:Hp) (Q:VK) (E:XK):Prop
 |mk (f:Addr) (b:List UInt8) (q0:vs=[.ref f]) (q1:H f=some (.lst (bv b))) (q2:(∀z,H z=none→a.new z)) (q3:(yo b=none→∀H',ax H H'→E (.ref a.aE) none H')) (q4:∀t,yo b=some t→∀p ls ll H',kQ a H' p ls ll b (32+num b 20 4) t→H p=none→H ls=none→H ll=none→ax H H'→Q (.ref p) H'):Bx a vs H Q E
theorem Rz (b:List UInt8) (i:Nat):num b i 4<2^32:=by
 unfold num
 have aux:∀(l:List UInt8) (n:Nat),l.length≤n→l.foldr (fun c x=>c.toNat+256*x) 0<256^n:=by
  intro l
  induction l with
  |nil=>intro n _;exact Nat.pow_pos (by decide)
  |cons c r ih =>
   intro n h
   match n,h with
   |n+1,h =>
    have h1:=ih n (by simpa using h)
    have h2:=c.toNat_lt
    show c.toNat+256*_<256^(n+1)
    rw[pow_succ]
    lia
 exact lt_of_lt_of_le (aux _ 4 (by simp[length_take];lia)) (by decide)
theorem G8 (T:Tx g.K g.mg a):Pr g 6 a.uT ["file"] (Bx a):=by
 refine Pr.on T.xK ik fun b6 A outer s H vs Q E hr h=>?_
 obtain⟨f,b,rfl,hf,Eh,k0,k1⟩:=h
 refine⟨_,ae (aR (aU (Je T) au hr (by decide) T.Au (aa (pv 0) ai)))
  (ae (aI (i:=1) ik.nd rfl (Or.inl rfl) (Ra (CL T) T.pd au hr (by decide) T.Ga))
  (ae (aI (i:=2) ik.nd rfl (Or.inl rfl) (aO cq (pk T.lU) (aU (cw T) au hr (by decide) T.a8 (aa (pv 0) (aa ak (aa ak ai))))))
  (ae (ma tX rfl (BU rfl T.sk (aa (aU (cw T) au hr (by decide) T.a8 (aa (pv 0) (aa ak (aa ak ai)))) ai)) (dJ (i:=3) ik.nd rfl (Or.inl rfl)) (ae (aI (i:=4) ik.nd rfl (Or.inl rfl) (aU (cw T) au hr (by decide) T.a8 (aa (pv 0) (aa (aO cq (ar (pv 1) rfl) ak) (aa ak ai)))))
  (ae (az (aB T) au hr (by decide) T.aA (KD (aH zV (pv 4) ak (aC _)) (ue (aH b7 (aO jJ (pv 4) ak) ak (aC _)))))
  (ae (az (aB T) au hr (by decide) T.aA (aH iO (aO cq (ar (pv 1) rfl) (pv 4)) (pv 2) (aC _)))
  (ae (aR (aU (ER T) au hr (by decide) T.vf (aa (pv 1) (aa (jL m4 (pv 0) (gY (ar (pv 1) rfl)) (gY (aO cq (ar (pv 1) rfl) (pv 4)))) (aa (pv 0) ai)))))
  (ag (JD (pv 1) (pv 4) Ur)))))))
  (ae (az (aB T) au hr (by decide) T.aA (aH b7 (ar (pv 1) rfl) (pv 2) (aC _)))
  (ag (aS (pv 1))))))),?_⟩
 refine⟨_,rfl,f,b,rfl,hf,fun hh H1 s1=>?_,fun hh H1 s1=>k0 (by unfold yo;rw[IN hh]) _ s1⟩
 have eT:yo b=Bw b (32+num b 20 4) (num b 16 4) 32 {}:=by unfold yo;rw[iPp hh]
 refine fun p d np nd ZN=>⟨p,d,rfl,af,(fun z e=>Eh z (s1.free (fA (fA e)))),fun H2 ls ll C2 nls WO k2=>⟨rfl,?_⟩⟩
 have s2:ax H1 H2:=ax.tS np nd k2
 have s2:=s1.trans s2
 have np0:H p=none:=s1.free np
 have old:∀{x:Addr},upd (upd H1 d (.own p)) p (.ins a.bV d []) x=none→H x=none:=fun{x} e=>by
  have h1:x≠p:=fun z=>by rw[z,af]at e;cases e
  rw[aj h1]at e
  have h2:x≠d:=fun z=>by rw[z,af]at e;cases e
  rw[aj h2]at e
  exact s1.free e
 have aep:=old nls
 have aeq:=old WO
 have C2:=C2 b
 refine⟨_,rfl,f,b,20,4,rfl,s2 _ _ hf,fun H3 s3=>⟨_,_,rfl,rfl,?_⟩⟩
 have s3':=s2.trans s3
 refine⟨_,rfl,f,b,16,4,rfl,s3' _ _ hf,fun H4 s4=>?_⟩
 have s4':=s3'.trans s4
 have C4:kQ a H4 p ls ll b 32 {}:=(C2.same s3).same s4
 have n16:=Rz b 16
 have n20:=Rz b 20
 have bound:num b 16 4≤256:=hh.2.2.2.2.1
 refine⟨_,rfl,by lia,by lia,qx (lo:=0) (n:=((num b 16 4:Nat):Int).toNat) (fun i σ H5=>∃(t:Told) (r:Nat) (v3 v4:Option V),σ=[some (.ref f),some (.ref p),some (.int (32+(num b 20 4:Nat))),v3,v4]∧kQ a H5 p ls ll b r t∧ax H H5∧t.segments.length≤i∧t.libraries.length≤64 ∧
  yo b=Bw b (32+num b 20 4) (num b 16 4-i) r t) ⟨{},32,none,none,rfl,C4,s4',le_refl _,by decide,eT⟩ ?_ ?_⟩
 ·rintro i σ H5 hi ⟨t,r,v3,v4,rfl,C5,s5,Zz,hll,eF⟩
  have hi':i<num b 16 4:=by lia
  obtain⟨dx,bg,pt,sa,la,as,D5⟩:=id C5
  refine⟨_,rfl,_,rfl,p,_,dx,_,_,rfl,D5.ob,T.aM,T.bB,dC,_,_,rfl,rfl,f,b,r+4,4,rfl,s5 _ _ hf,fun H6 s6=>?_⟩
  rw[show num b 16 4-i=(num b 16 4-(i+1))+1 by lia]at eF
  rw[VG (c:=b) rfl]at eF
  generalize hk:num b (r+4) 4=k at *
  have s6':=s5.trans s6
  have D6:=D5.same s6
  have fail:∀{H':Hp},ax H H'→¬((8≤k∧k%8=0)∧r+k≤32+num b 20 4)→E (.ref a.aE) none H':=fun{H'} s z=>k0 (by rw[eF,IN z]) _ s
  refine⟨_,rfl,_,_,rfl,rfl,_,rfl,aw (fun c1=>?_) fun c1=>?_⟩
  ·refine⟨_,rfl,_,_,rfl,rfl,(by show(0:Int)<8;decide),rfl,_,rfl,aw (fun c2=>?_) fun c2=>fail s6' fun z=>br c2 (by lia)⟩
   have c2:=bp c2
   refine⟨_,rfl,p,_,dx,_,_,rfl,D6.ob,T.aM,T.bB,dC,_,rfl,_,_,rfl,rfl,_,rfl,_,_,rfl,rfl,_,rfl,aw (fun c3=>?_) fun c3=>fail s6' fun z=>c3 (by lia)⟩
   have cG:(8≤k∧k%8=0)∧r+k≤32+num b 20 4:=⟨⟨by lia,by lia⟩,by lia⟩
   rw[iPp cG]at eF
   refine⟨_,rfl,_,rfl,_,rfl,p,_,dx,_,_,rfl,D6.ob,T.aM,T.bB,dC,_,rfl,_,rfl,p,_,dx,_,_,rfl,D6.ob,T.aM,T.bB,dC,_,rfl,_,_,rfl,rfl,_,rfl,f,_,rfl,bP.of (s6' _ _ hf),fun c hc=>?_⟩
   rw[LP]
   have s7:ax H6 (upd H6 c (.lst (bv ((b.drop r).take k)))):=ax.upd hc
   have D7:=D6.same s7
   have kp:∀{H':Hp},Kp (In3 p ls ll) (upd H6 c (.lst (bv ((b.drop r).take k)))) H'→ax H H':=fun{H'} k=>fun y o e=>k y o (s7 _ _ (s6' _ _ e)) (by
    rintro(z|z|z)
    ·rw[z,np0]at e;cases e
    ·rw[z,aep]at e;cases e
    ·rw[z,aeq]at e;cases e)
   refine⟨_,rfl,p,ls,ll,c,f,b,_,r,t,rfl,⟨dx,bg,pt,sa,la,as,D7⟩,lt_of_le_of_lt Zz (by lia),hll,af,s7 _ _ (s6' _ _ hf),fun z H8 k8=>k0 (by rw[eF,z];rfl) _ (kp k8),fun t' ht' H8 C8 k8=>?_⟩
   obtain⟨dx8,bg8,pt8,sa8,la8,as8,D8⟩:=C8
   refine⟨_,rfl,p,_,dx8,_,_,rfl,D8.ob,T.aM,T.bB,dC,_,rfl,_,_,rfl,rfl,dx8,_,D8.ob,(by rw[om];decide),?_⟩
   rw[vp]
   obtain⟨l1,l2⟩:=VF ht'
   rw[ht']at eF
   refine⟨t',r+k,_,_,rfl,?_,?_,by lia,l2 hll,eF⟩
   ·have C9:=D8.Qi (reach':=r+k) (t':=t') rfl rfl D8.bg D8.pt fun y hy=>D8.off y (mem_append_right _ hy)
    exact C9
   ·intro y o e
    rw[aj (aq e np0)]
    exact kp k8 _ _ e
  ·exact⟨false,rfl,eA (fail s6' fun z=>c1 (by lia))⟩
 ·rintro σ H5 ⟨t,r,v3,v4,rfl,C5,s5,Zz,hll,eF⟩
  obtain⟨dx,bg,pt,sa,la,as,D5⟩:=id C5
  rw[show num b 16 4-((num b 16 4:Nat):Int).toNat=0 by lia]at eF
  refine⟨_,rfl,p,_,dx,_,_,rfl,D5.ob,T.aM,T.bB,dC,_,rfl,rfl,_,rfl,aw (fun c1=>?_) fun c1=>?_⟩
  ·have c1:=bp c1
   have er:r=32+num b 20 4:=by lia
   subst er
   exact⟨_,rfl,k1 t (by rw[eF];show(if _ then _ else _)=_;rw[iPp rfl]) p ls ll H5 C5 np0 aep aeq s5⟩
  ·have c1:=br c1
   exact k0 (by rw[eF];show(if _ then _ else _)=_;rw[IN (by lia)]) _ s5
end
end MI
namespace MI
open Rc31
theorem LR {b c:Bytes} {t u:Told} (h:command b c t=some u):t.libraries.length≤u.libraries.length:=by
 unfold command at h
 dsimp only at h
 repeat' split at h
 all_goals first
  |(cases h;done)
  |(cases h;exact le_refl _)
  |(obtain⟨x,hx,rfl⟩:=oMm h
    simp only[length_append,length_cons,length_nil]
    lia)
theorem yp {b:Bytes}:∀{n:Nat} {c:Bytes} {t u:Told},commands b n c t=some u→t.libraries.length≤u.libraries.length
 |0,c,t,u,h=>by
  unfold commands at h
  split at h
  ·cases h;exact le_refl _
  ·cases h
 |n+1,c,t,u,h=>by
  unfold commands at h
  dsimp only at h
  split at h
  ·cases h
  ·obtain⟨v,hv,h⟩:=oBb h
   exact le_trans (LR hv) (yp h)
theorem Yo {α:Type} (l:List α) (r k i n:Nat) (h:i+n≤k):(((l.drop r).take k).drop i).take n=(l.drop (r+i)).take n:=by
 rw[List.drop_take,drop_drop,List.take_take,min_eq_left (by lia)]
theorem Yp (b:Bytes) (r k i n:Nat) (h:i+n≤k):num ((b.drop r).take k) i n=num b (r+i) n:=by
 unfold num
 rw[Yo b r k i n h]
theorem G9 {b:Bytes} {e:Nat} (he:e≤b.length):∀{n r:Nat} {t:Told},r≤e→t.libraries.length≤64→Bw b e n r t=(commands b n ((b.drop r).take (e-r)) t).bind EO
 |0,r,t,hr,ht=>by
  unfold Bw commands
  have hl:((b.drop r).take (e-r)).length=e-r:=by
   rw[length_take,length_drop]
   lia
  by_cases h:r=e
  ·subst h
   rw[iPp rfl,Nat.sub_self,take_zero]
   show _=EO t
   unfold EO
   rw[iPp ht]
  ·rw[IN h,IN]
   ·rfl
   ·intro z
    rw[isEmpty_iff]at z
    rw[z]at hl
    simp at hl
    lia
 |n+1,r,t,hr,ht=>by
  unfold Bw commands
  have hl:((b.drop r).take (e-r)).length=e-r:=by
   rw[length_take,length_drop]
   lia
  dsimp only
  rw[hl]
  by_cases h8:e-r<8
  ·rw[IN (by lia),iPp (Or.inl h8)]
   rfl
  ·have hk:num ((b.drop r).take (e-r)) 4 4=num b (r+4) 4:=Yp b r (e-r) 4 4 (by lia)
   rw[hk]
   generalize num b (r+4) 4=k
   by_cases hc:(8≤k∧k%8=0)∧r+k≤e
   ·rw[iPp hc,IN (by lia)]
    have e1:((b.drop r).take (e-r)).take k=(b.drop r).take k:=by rw[List.take_take,min_eq_left (by lia)]
    have e2:((b.drop r).take (e-r)).drop k=(b.drop (r+k)).take (e-(r+k)):=by
     rw[List.drop_take,drop_drop]
     congr 1
     lia
    rw[e1,e2,Yn _ _ _ ht]
    cases hcm:command b ((b.drop r).take k) t with
    |none=>rfl
    |some u =>
     show(EO u).bind _=(commands b n _ u).bind EO
     by_cases hu:u.libraries.length≤64
     ·have:EO u=some u:=by unfold EO;rw[iPp hu]
      rw[this]
      exact G9 he hc.2 hu
     ·have:EO u=none:=by unfold EO;rw[IN hu]
      rw[this]
      cases hcs:commands b n ((b.drop (r+k)).take (e-(r+k))) u with
      |none=>rfl
      |some v =>
       have:=yp hcs
       show none=EO v
       unfold EO
       rw[IN (by lia)]
   ·rw[IN hc,iPp (by lia)]
    rfl
def groundOk (t:Told) (e:Nat):Prop:=match t.laid with
 | []=>False
 |s::r=>rising 0 (s::r)=true∧((s::r).getLast?.getD s).at_+((s::r).getLast?.getD s).size<2^47∧((s::r).getLast?.getD s).at_+((s::r).getLast?.getD s).size-s.at_≤MOST∧s.file=0∧e≤s.raw∧(s::r).length≤16∧t.entry.all (fun e=>decide (e<s.raw))=true
instance {t:Told} {e:Nat}:Decidable (groundOk t e):=by
 unfold groundOk
 split<;>infer_instance
theorem CO (b:Bytes):toldOf b=(yo b).bind fun t=>if groundOk t (32+num b 20 4) then some t else none:=by
 unfold toldOf yo
 dsimp only
 by_cases h:zC b
 ·obtain⟨h1,h2,h3,h4,h5,h6⟩:=id h
  rw[IN (by rintro(z|z|z|z|z|z)<;>first|lia|contradiction),iPp h,G9 h6 (by lia) (by decide),Nat.add_sub_cancel_left]
  cases hc:commands b (num b 16 4) ((b.drop 32).take (num b 20 4)) {} with
  |none=>rfl
  |some t =>
   show(match t.laid with | []=>none|s::r=>_)=(EO t).bind _
   unfold EO
   by_cases hg:groundOk t (32+num b 20 4)
   ·unfold groundOk at hg
    have hg':groundOk t (32+num b 20 4):=hg
    cases hl:t.laid with
    |nil=>rw[hl]at hg;exact hg.elim
    |cons s r =>
     rw[hl]at hg
     obtain⟨x1,x2,x3,x4,x5,x6,x7⟩:=hg
     dsimp only
     by_cases Qe:t.libraries.length≤64
     ·rw[iPp ⟨x1,x2,x3,x4,x5,x6,Qe,x7⟩,iPp Qe]
      show _=if _ then some t else none
      rw[iPp hg']
     ·rw[IN (fun z=>Qe z.2.2.2.2.2.2.1),IN Qe]
      rfl
   ·have e1:((if t.libraries.length≤64 then some t else none:Option Told).bind fun t=>if groundOk t (32+num b 20 4) then some t else none)=none:=by
     by_cases Qe:t.libraries.length≤64
     ·rw[iPp Qe]
      show(if _ then some t else none)=none
      rw[IN hg]
     ·rw[IN Qe]
      rfl
    rw[e1]
    unfold groundOk at hg
    cases hl:t.laid with
    |nil=>rfl
    |cons s r =>
     rw[hl]at hg
     dsimp only
     rw[IN fun z=>hg ⟨z.1,z.2.1,z.2.2.1,z.2.2.2.1,z.2.2.2.2.1,z.2.2.2.2.2.1,z.2.2.2.2.2.2.2⟩]
 ·rw[IN h,iPp]
  ·rfl
  ·unfold zC at h
   by_cases z:num b 12 4=2∨num b 12 4=6∨num b 12 4=8
   ·by_cases z1:num b 0 4=4277009103
    ·by_cases z2:num b 4 4=16777223
     ·have:¬(32≤b.length∧num b 16 4≤256∧32+num b 20 4≤b.length):=fun q=>h ⟨q.1,z1,z2,z,q.2.1,q.2.2⟩
      lia
     ·exact .inr (.inr (.inl z2))
    ·exact .inr (.inl z1)
   ·exact .inr (.inr (.inr (.inl z)))
open PySem L2
def bare (s:Segment):Bool:=decide (s.raw=0∧s.rights=0)
def RA:List Segment→List Segment
 | []=>[]
 |s::r=>if s.raw=0∧s.rights=0 then r else s::r
theorem RB (t:Told):t.laid=RA t.segments:=by
 unfold Told.laid RA
 cases t.segments with
 |nil=>rfl
 |cons s r=>rfl
theorem rg {α β:Type} {F:α→β→Prop}:∀{l:List α} {m:List β},Paired F l m→∀{i:Nat} {x:α},l[i]?=some x→∃y,m[i]?=some y∧F x y
 |_,_,.nil,i,x,h=>by simp at h
 |_,_,.cons r t,0,x,h=>⟨_,rfl,by simp at h;subst h;exact r⟩
 |_,_,.cons r t,i+1,x,h=>rg t (by simpa using h)
theorem oJ {α β:Type} {F:α→β→Prop}:∀{l:List α} {m:List β},Paired F l m→∀{i:Nat} {y:β},m[i]?=some y→∃x,l[i]?=some x∧F x y
 |_,_,.nil,i,x,h=>by simp at h
 |_,_,.cons r t,0,x,h=>⟨_,rfl,by simp at h;subst h;exact r⟩
 |_,_,.cons r t,i+1,x,h=>oJ t (by simpa using h)
theorem pJ {l:List Addr} {i:Nat} {x:V} (h:(l.map V.ref)[i]?=some x):∃y,l[i]?=some y∧x=V.ref y:=by
 rw[getElem?_map]at h
 cases e:l[i]? with
 |none=>rw[e]at h;cases h
 |some y=>rw[e]at h;exact⟨y,rfl,(Option.some.inj h).symm⟩
section
variable {g:Gm} {a:Ad}
inductive NZ (a:Ad) (vs:List V) (H:Hp) (Q:VK) (E:XK):Prop
 |mk (x:Addr) (s:Segment) (n:Nat) (q0:vs=[.ref x]) (q1:ym a H x s n) (q2:Q (.bl (bare s)) H):NZ a vs H Q E
theorem Ha (T:Tx g.K g.mg a):Pr g 1 a.K5 ["segment"] (NZ a):=by
 refine Pr.on T.JV O9 fun b6 A outer s H vs Q E hr h=>?_
 obtain⟨x,s,n,rfl,⟨d,hx⟩,k⟩:=h
 refine⟨_,ag (aS (KD (aH b7 (ar (pv 0) rfl) ak (aC _)) (ue (aH b7 (ar (pv 0) rfl) ak (aC _))))),?_⟩
 refine⟨_,rfl,x,_,d,_,_,rfl,hx,T.aG,T.bL,eg,rfl,_,rfl,aw (fun c1=>?_) fun c1=>?_⟩
 ·have c1:=bp c1
  refine⟨_,rfl,x,_,d,_,_,rfl,hx,T.aG,T.df,k9,rfl,?_⟩
  have e:decide (V.int (s.rights:Int)=V.int 0)=bare s:=by
   unfold bare
   rw[Bool.eq_iff_iff,decide_eq_true_iff,decide_eq_true_iff]
   exact⟨fun z=>⟨by lia,by have:=bp z;lia⟩,fun z=>by rw[z.2];rfl⟩
  show Q (V.bl (decide (V.int (s.rights:Int)=V.int 0))) H
  rw[e]
  exact k
 ·have c1:=br c1
  have e:bare s=false:=decide_eq_false fun z=>c1 (by rw[z.1];rfl)
  rw[e]at k
  exact k
inductive Hb (a:Ad) (vs:List V) (H:Hp) (Q:VK) (E:XK):Prop
 |mk (x:Addr) (s:Segment) (n:Nat) (h:Int) (q0:vs=[.ref x,.int h]) (q1:ym a H x s n) (q2:∀p,H p=none→Q (.ref p) (upd H p (.tup [.int ((s.at_:Int)-h),.int ((s.at_:Int)-h+(s.size:Int))]))):Hb a vs H Q E
theorem Ql (T:Tx g.K g.mg a):Pr g 1 a.K4 ["segment","home"] (Hb a):=by
 refine Pr.on T.JT O8 fun b6 A outer s H vs Q E hr h=>?_
 obtain⟨x,s,n,h,rfl,⟨d,hx⟩,k⟩:=h
 refine⟨_,ag (aS (OU (aa (aO gA (ar (pv 0) rfl) (pv 1)) (aa (aO cq (aO gA (ar (pv 0) rfl) (pv 1)) (ar (pv 0) rfl)) ai)))),?_⟩
 refine⟨_,rfl,x,_,d,_,_,rfl,hx,T.aG,T.aX,bQ,_,rfl,_,_,rfl,rfl,_,rfl,x,_,d,_,_,rfl,hx,T.aG,T.aX,bQ,_,rfl,_,_,rfl,rfl,_,rfl,x,_,d,_,_,rfl,hx,T.aG,T.cn,gu,_,_,rfl,rfl,(by show 2≤sizeLine;decide),fun p hp=>k p hp⟩
inductive N0 (a:Ad) (vs:List V) (H:Hp) (Q:VK) (E:XK):Prop
 |mk (ls:Addr) (sa:List Addr) (ss:List Segment) (q0:vs=[.ref ls]) (q1:H ls=some (.lst (sa.map V.ref))) (q2:jh a H sa ss) (q3:∀l la H',H l=none→H' l=some (.lst (la.map V.ref))→jh a H' la (RA ss)→ax H H'→Q (.ref l) H'):N0 a vs H Q E
theorem Qm (T:Tx g.K g.mg a):Pr g 2 a.K6 ["segments"] (N0 a):=by
 refine Pr.on T.JW Pa fun b6 A outer s H vs Q E hr h=>?_
 obtain⟨ls,sa,ss,rfl,hl,hs,k⟩:=h
 refine⟨_,ae (dt (PW.pt (aaq (jK (pv 0) (fun _=>rfl)) (W3 (jK (aU (Ha T) au hr (by decide) T.Cn (aa (fN cJ (pv 0) ak (fun _ _=>rfl)) ai)) (fun _=>rfl))))) (ag (aS (jL m4 (pv 0) (gY ak) E0))) gz)
  (ag (aS (wA KP (by rfl) T.Pg rfl (aa (pv 0) ai)))),?_⟩
 have same:∀{p:Addr} {o:HO},H p=none→jh a (upd H p o) sa ss:=fun{p o} hp=>bf hs fun x _ y ⟨n,q⟩=>⟨n,q.keep fun _ _ _ e=>(ax.upd hp) _ _ e⟩
 have whole:RA ss=ss→aar (tCB (fun xs H Q=>∃p ys,xs=[.ref p]∧(bP g.K H p ys∨tV g.K H p ys)∧∀l,H l=none→Q (.ref l) (upd H l (.lst ys))) (Di (zS 0) HX)) {nx:=fun _ H'=>Q .dh H',rt:=Q} [some (.ref ls)] H:=fun e =>
  ⟨_,rfl,ls,_,rfl,.inl (bP.of hl),fun l nl=>k l sa _ nl af (by rw[e];exact same nl) (ax.upd nl)⟩
 refine⟨_,rfl,_,.inl ⟨_,bP.of hl,rfl⟩,?_⟩
 cases hs with
 |nil=>exact eA (eA (whole rfl))
 |cons r t =>
  rename_i x s sa ss
  obtain⟨n,q⟩:=id r
  refine iE ⟨_,rfl,ls,_,_,_,rfl,rfl,bP.of hl,at_of (j:=0) rfl rfl,x,s,n,rfl,q,_,rfl,?_⟩
  by_cases hb:s.raw=0∧s.rights=0
  ·rw[show bare s=true from decide_eq_true hb]
   refine iE ⟨_,rfl,_,rfl,ls,_,rfl,bP.of hl,fun l nl=>?_⟩
   have e1:zY ((x::sa).map V.ref) (some 1) none=sa.map V.ref:=by
    unfold zY
    rw[HT.FD,show(1:Int)=((1:Nat):Int) from rfl,HT.zX]
    simp
    rw[take_of_length_le (by rw[length_map];exact le_refl _)]
   rw[e1]
   refine k l sa _ nl af ?_ (ax.upd nl)
   show jh a _ sa (if s.raw=0∧s.rights=0 then ss else s::ss)
   rw[iPp hb]
   exact bf t fun x _ y ⟨n,q⟩=>⟨n,q.keep fun _ _ _ e=>(ax.upd nl) _ _ e⟩
  ·rw[show bare s=false from decide_eq_false hb]
   refine eA (whole ?_)
   show(if s.raw=0∧s.rights=0 then ss else s::ss)=s::ss
   rw[IN hb]
end
theorem dm {A B:Prop} {b:Bool} (h1:b=true→A) (h2:b=false→B):if b=true then A else B:=by
 cases b with
 |true=>exact iE (h1 rfl)
 |false=>exact eA (h2 rfl)
def endOf:Nat→List Segment→Nat
 |a,[]=>a
 |_,s::r=>endOf (s.at_+s.size) r
theorem CP:∀(l:List Segment) (a:Nat) (s:Segment),endOf a (l++[s])=s.at_+s.size
 | [],_,_=>rfl
 |_::r,_,s=>CP r _ s
theorem Hc (s:Segment) (r:List Segment) (a:Nat):endOf a (s::r)=((s::r).getLast?.getD s).at_+((s::r).getLast?.getD s).size:=by
 have h:s::r≠[]:=by simp
 rw[←dropLast_concat_getLast h,CP]
 simp
def N1:List Segment→Prop
 | []=>False
 |s::r=>(s::r).length≤16∧rising s.at_ (s::r)=true∧endOf s.at_ (s::r)<2^47∧endOf s.at_ (s::r)-s.at_≤MOST
def LS (s:Segment) (e:Nat) (o:Option Nat):Prop:=s.file=0∧e≤s.raw∧o.all (fun e=>decide (e<s.raw))=true
theorem nu (t:Told) (e:Nat):groundOk t e↔N1 t.laid∧∀s r,t.laid=s::r→LS s e t.entry:=by
 unfold groundOk
 cases h:t.laid with
 |nil=>exact⟨fun z=>z.elim,fun z=>z.1⟩
 |cons s r =>
  have e1:=Hc s r s.at_
  have e2:rising 0 (s::r)=rising s.at_ (s::r):=by
   unfold rising
   congr 1
   rw[Bool.eq_iff_iff,decide_eq_true_iff,decide_eq_true_iff]
   lia
  constructor
  ·rintro⟨x1,x2,x3,x4,x5,x6,x7⟩
   refine⟨⟨x6,by rw[←e2];exact x1,by rw[e1];exact x2,by rw[e1];exact x3⟩,fun s' r' z=>?_⟩
   cases z
   exact⟨x4,x5,x7⟩
  ·rintro⟨⟨x6,x1,x2,x3⟩,z⟩
   obtain⟨x4,x5,x7⟩:=z s r rfl
   rw[e1]at x2 x3
   exact⟨by rw[e2];exact x1,x2,x3,x4,x5,x6,x7⟩
section
variable {g:Gm} {a:Ad}
inductive Hd (a:Ad) (vs:List V) (H:Hp) (Q:VK) (E:XK):Prop
 |mk (l:Addr) (la:List Addr) (ss:List Segment) (q0:vs=[.ref l]) (q1:H l=some (.lst (la.map V.ref))) (q2:jh a H la ss) (q3:(N1 ss→Q .dh H)) (q4:(¬N1 ss→E (.ref a.aE) none H)):Hd a vs H Q E
theorem LU (T:Tx g.K g.mg a):Pr g 2 a.Ce ["laid"] (Hd a):=by
 refine Pr.on T.Dy m7 fun b6 A outer s H vs Q E hr h=>?_
 obtain⟨l,la,ss,rfl,hl,hs,k1,k0⟩:=h
 refine⟨_,ae (az (aB T) au hr (by decide) T.aA (zW iO iO ak (aV aJ (by rfl) T.eO boot_len (aa (pv 0) ai)) (pk T.DO)))
  (ae (aI (i:=1) m7.nd rfl (Or.inl rfl) (ar (fN cJ (pv 0) ak (fun _ _=>rfl)) rfl))
  (ae (ma tX rfl (lA (pv 0)) (dJ (i:=2) m7.nd rfl (Or.inl rfl)) (ae (az (aB T) au hr (by decide) T.aA (aH zV (ar (pv 2) rfl) (pv 1) (aC _)))
  (ae (az (aB T) au hr (by decide) T.aA (aH JB (ar (pv 2) rfl) ak (aC _)))
  (ag (aI (i:=1) m7.nd rfl (Or.inl rfl) (aO cq (ar (pv 2) rfl) (ar (pv 2) rfl)))))))
  (ae (az (aB T) au hr (by decide) T.aA (aH nH (pv 1) (pk T.U6) (aC _)))
  (ag (az (aB T) au hr (by decide) T.aA (aH iO (aO gA (pv 1) (ar (fN cJ (pv 0) ak (fun _ _=>rfl)) rfl)) (pk T.sj) (aC _))))))),?_⟩
 have hlen:=bw hs
 have p1:N1 ss→1≤ss.length∧ss.length≤16:=fun z=>by
  match ss,z with
  |s::r,z=>exact⟨by simp,z.1⟩
 refine⟨_,rfl,l,_,rfl,.inl (bP.of hl),_,_,rfl,rfl,_,rfl,aw (fun c1=>?_) fun c1=>⟨false,rfl,eA (k0 fun z=>c1 (by rw[length_map,hlen];have:=p1 z;lia))⟩⟩
 rw[length_map,hlen]at c1
 refine⟨_,_,rfl,rfl,_,rfl,aw (fun c2=>?_) fun c2=>k0 fun z=>c2 (by rw[length_map,hlen];have:=p1 z;lia)⟩
 rw[length_map,hlen]at c2
 cases hs with
 |nil=>simp at c1
 |cons r0 t0 =>
  rename_i x0 s0 la ss
  have hs:jh a H (x0::la) (s0::ss):=.cons r0 t0
  obtain⟨n0,d0,h0⟩:=id r0
  refine⟨_,rfl,l,_,_,_,rfl,rfl,bP.of hl,at_of (j:=0) rfl rfl,x0,_,d0,_,_,rfl,h0,T.aG,T.aX,bQ,?_⟩
  refine⟨_,rfl,l,rfl,⟨_,bP.of hl⟩,ug (K:=g.K) (a:=l) (xs:=(x0::la).map V.ref) (fun i σ H2=>∃v,σ=[some (.ref l),some (.int (endOf s0.at_ ((s0::ss).take i):Nat)),v]∧H2=H∧rising s0.at_ (s0::ss)=rising (endOf s0.at_ ((s0::ss).take i)) ((s0::ss).drop i))
   ⟨none,rfl,rfl,rfl⟩ (fun i σ H2 _ ⟨_,_,e,_⟩=>by rw[e];exact bP.of hl) ?_ ?_⟩
  ·rintro i y σ H2 hi ⟨v,rfl,rfl,eR⟩
   obtain⟨x,hx,rfl⟩:=pJ hi
   obtain⟨s,hs',n,d,Td⟩:=rg hs hx
   obtain⟨aer,aes⟩:=List.getElem?_eq_some_iff.mp hs'
   have ed:(s0::ss).drop i=s::(s0::ss).drop (i+1):=by rw[drop_eq_getElem_cons aer,aes]
   have et:endOf s0.at_ ((s0::ss).take (i+1))=s.at_+s.size:=by
    rw[take_succ,hs']
    exact CP _ _ _
   generalize hE:endOf s0.at_ ((s0::ss).take i)=en at *
   have eR2:rising s0.at_ (s0::ss)=(decide (en≤s.at_∧0<s.size)&&rising (s.at_+s.size) ((s0::ss).drop (i+1))):=by
    rw[eR,ed]
    rfl
   refine⟨_,rfl,x,_,d,_,_,rfl,Td,T.aG,T.aX,bQ,_,rfl,_,_,rfl,rfl,_,rfl,aw (fun c3=>?_) fun c3=>k0 fun z=>?_⟩
   ·refine⟨_,rfl,x,_,d,_,_,rfl,Td,T.aG,T.cn,gu,_,_,rfl,rfl,_,rfl,aw (fun c4=>?_) fun c4=>k0 fun z=>?_⟩
    ·refine⟨_,rfl,x,_,d,_,_,rfl,Td,T.aG,T.aX,bQ,_,rfl,x,_,d,_,_,rfl,Td,T.aG,T.cn,gu,_,_,rfl,rfl,?_⟩
     refine⟨some (.ref x),?_,rfl,?_⟩
     ·rw[et]
      have e9:(s.at_:Int)+(s.size:Int)=((s.at_+s.size:Nat):Int):=by lia
      rw[←e9]
      rfl
     ·rw[et,eR2,show decide (en≤s.at_∧0<s.size)=true from decide_eq_true ⟨by lia,by lia⟩]
      rfl
    ·have z2:=z.2.1
     rw[eR2,and_eq_true,decide_eq_true_iff]at z2
     lia
   ·have z2:=z.2.1
    rw[eR2,and_eq_true,decide_eq_true_iff]at z2
    lia
  ·rintro σ H2 ⟨v,rfl,rfl,eR⟩
   have e1:(s0::ss).take ((x0::la).map V.ref).length=s0::ss:=take_of_length_le (by rw[length_map];exact le_of_eq hlen.symm)
   have e2:(s0::ss).drop ((x0::la).map V.ref).length=[]:=drop_of_length_le (by rw[length_map];exact le_of_eq hlen.symm)
   rw[e2]at eR
   rw[e1]
   generalize hE:endOf s0.at_ (s0::ss)=en
   refine⟨_,rfl,_,_,rfl,rfl,_,rfl,?_⟩
   generalize hb5:decide ((en:Int)<140737488355328)=b5
   refine dm ?_ ?_
   rotate_left
   ·intro c5
    exact k0 fun z=>of_decide_eq_false (hb5.trans c5) (by have:=z.2.2.1;lia)
   intro c5
   have c5:=of_decide_eq_true (hb5.trans c5)
   refine⟨_,rfl,_,rfl,l,_,_,_,rfl,rfl,bP.of hl,at_of (j:=0) rfl rfl,x0,_,d0,_,_,rfl,h0,T.aG,T.aX,bQ,_,_,rfl,rfl,_,_,rfl,rfl,_,rfl,?_⟩
   refine dm (fun c6=>?_) fun c6=>k0 fun z=>of_decide_eq_false c6 (by have:=z.2.2.2;unfold MOST at this;lia)
   have c6:=of_decide_eq_true c6
   exact k1 ⟨by lia,eR.trans rfl,by lia,by unfold MOST;lia⟩
end
def ahU (K:W.Frag) (ta:TE):TT:=fun σ H Q=>ta σ H fun x H'=>∃k,Xa K x H' k∧Q k H'
section
variable {g:Gm} {a:Ad}
inductive By (a:Ad) (vs:List V) (H:Hp) (Q:VK) (E:XK):Prop
 |mk (x p ls ll:Addr) (s:Segment) (n:Nat) (b:List UInt8) (reach:Nat) (t:Told) (q0:vs=[.ref x,.ref p]) (q1:ym a H x s n) (q2:kQ a H p ls ll b reach t) (q3:(LS s reach t.entry→Q .dh H)) (q4:(¬LS s reach t.entry→E (.ref a.aE) none H)):By a vs H Q E
theorem He (T:Tx g.K g.mg a):Pr g 2 a.uV ["first","contents"] (By a):=by
 refine Pr.on T.xO FU fun b6 A outer s H vs Q E hr h=>?_
 obtain⟨x,p,ls,ll,s,n,b,reach,t,rfl,⟨d,hx⟩,⟨dx,bg,pt,sa,la,as,C⟩,k1,k0⟩:=h
 refine⟨_,ae (az (aB T) au hr (by decide) T.aA (aH b7 (ar (pv 0) rfl) ak (aC _)))
  (ae (az (aB T) au hr (by decide) T.aA (aH zV (ar (pv 0) rfl) (ar (pv 1) rfl) (aC _)))
  (ag (az (aB T) au hr (by decide) T.aA (QV (Fo (BR (ar (pv 1) rfl))) (ue (aH nH (ar (pv 1) rfl) (ar (pv 0) rfl) (aC _))))))),?_⟩
 refine⟨_,rfl,x,_,d,_,_,rfl,hx,T.aG,T.cB,iL,rfl,_,rfl,aw (fun c1=>?_) fun c1=>k0 fun z=>br c1 (by rw[z.1];rfl)⟩
 have c1:=bp c1
 refine⟨_,rfl,x,_,d,_,_,rfl,hx,T.aG,T.bL,eg,_,rfl,p,_,dx,_,_,rfl,C.ob,T.aM,T.bB,dC,_,_,rfl,rfl,_,rfl,aw (fun c2=>?_) fun c2=>k0 fun z=>c2 (by have:=z.2.1;lia)⟩
 refine⟨_,rfl,p,_,dx,_,_,rfl,C.ob,T.aM,T.bc,dI,_,rfl,?_⟩
 have hbg:=C.bg
 cases he:t.entry with
 |none =>
  rw[he]at hbg
  obtain rfl:bg = .dh:=hbg
  refine iE ⟨_,rfl,iE (k1 ⟨by lia,by lia,by rw[he];rfl⟩)⟩
 |some e =>
  rw[he]at hbg
  obtain rfl:bg = .int (e:Int):=hbg
  refine eA ⟨_,rfl,p,_,dx,_,_,rfl,C.ob,T.aM,T.bc,dI,_,rfl,x,_,d,_,_,rfl,hx,T.aG,T.bL,eg,_,_,rfl,rfl,_,rfl,aw (fun c3=>?_) fun c3=>k0 fun z=>c3 ?_⟩
  ·exact k1 ⟨by lia,by lia,by rw[he];exact decide_eq_true (by lia)⟩
  ·have z3:=z.2.2
   rw[he]at z3
   have z3:decide (e<s.raw)=true:=z3
   have:=of_decide_eq_true z3
   lia
def written (s:Segment):Bool:=s.rights/2%2==1
def dE (h:Nat) (l:List Segment):List (Int×Int):=(l.filter written).map fun s=>((s.at_:Int)-h,(s.at_:Int)-h+s.size)
abbrev RC (H:Hp) (pa:List Addr) (ps:List (Int×Int)):Prop:=Paired (fun x p=>H x=some (.tup [.int p.1,.int p.2])) pa ps
structure GrD (a:Ad) (H:Hp) (p:Addr) (t:Told) (dx ls kH sp:Addr) (sa la pa:List Addr):Prop where
 ob:H p=some (.ins a.c9 dx (gQ (.ref ls) (.ref kH) (.int (t.base:Int)) (.int (t.size:Int)) (.ref sp)))
 hs:H ls=some (.lst (sa.map V.ref))
 oI:jh a H sa t.segments
 hl:H kH=some (.lst (la.map V.ref))
 laid:jh a H la t.laid
 hp:H sp=some (.lst (pa.map V.ref))
 spans:RC H pa (dE t.base t.laid)
 FG:a.new kH
inductive Bz (a:Ad) (H:Hp) (p:Addr) (t:Told):Prop
 |mk (dx:_) (ls:_) (kH:_) (sp:_) (sa:_) (la:_) (pa:_) (q0:GrD a H p t dx ls kH sp sa la pa):Bz a H p t
theorem jh.same {H H':Hp} {sa:List Addr} {ss:List Segment} (h:jh a H sa ss) (s:ax H H'):jh a H' sa ss:=bf h fun x _ y ⟨n,q⟩=>⟨n,q.keep fun _ _ _ e=>s _ _ e⟩
theorem Bz.same {H H':Hp} {p:Addr} {t:Told} (h:Bz a H p t) (s:ax H H'):Bz a H' p t:=by
 obtain⟨dx,ls,kH,sp,sa,la,pa,h⟩:=h
 exact⟨dx,ls,kH,sp,sa,la,pa,s _ _ h.ob,s _ _ h.hs,h.oI.same s,s _ _ h.hl,h.laid.same s,s _ _ h.hp,bf h.spans fun x _ y q=>s _ _ q,h.FG⟩
theorem ahV (n:Nat) (h:n<8):(Builtin.bitAnd (n:Int) 2 != 0)=(n/2%2==1):=by
 match n,h with
 |0,_=>rfl
 |1,_=>rfl
 |2,_=>rfl
 |3,_=>rfl
 |4,_=>rfl
 |5,_=>rfl
 |6,_=>rfl
 |7,_=>rfl
inductive BA (a:Ad) (vs:List V) (H:Hp) (Q:VK) (E:XK):Prop
 |mk (p dx ls kH:Addr) (sa la:List Addr) (t:Told) (q0:vs=[.ref p,.ref ls,.ref kH]) (q1:a.new kH) (q2:H p=some (.ins a.c9 dx [])) (q3:H ls=some (.lst (sa.map V.ref))) (q4:jh a H sa t.segments) (q5:H kH=some (.lst (la.map V.ref))) (q6:jh a H la t.laid) (q7:t.laid≠[]) (q8:t.laid.length≤16) (q9:(∀s∈t.laid,s.rights<8)) (q10:(t.base:Int)≤((t.laid.getLast?).map fun s=>s.at_+s.size).getD 0) (q11:∀H',Bz a H' p t→Kp (At p) H H'→Q .dh H'):BA a vs H Q E
theorem Hf (T:Tx g.K g.mg a):Pr g 2 a.uU ["self","segments","laid"] (BA a):=by
 refine Pr.on T.xN nW fun b6 A outer s H vs Q E hr h=>?_
 obtain⟨p,dx,ls,kH,sa,la,t,rfl,O0,hp,hs,oI,hl,laid,HP,h16,h8,JJ,k⟩:=h
 refine⟨_,ae (aT (pv 0) (pv 1) rfl)
  (ae (aT (pv 0) (pv 2) rfl)
  (ae (aT (pv 0) (ar (fN cJ (pv 2) ak (fun _ _=>rfl)) rfl) rfl)
  (ae (aT (pv 0) (aO gA (aO cq (ar (fN cJ (pv 2) (zU rD ak) (fun _ _=>rfl)) rfl) (ar (fN cJ (pv 2) (zU rD ak) (fun _ _=>rfl)) rfl)) (ar (pv 0) rfl)) rfl)
  (ag (aT (pv 0) (CK (tt:=ahU g.K (Zn (Ui fun i j=>.int (Builtin.bitAnd i j)) (KJ g.K (zS 3) "rights") (tC (.int 2)))) (te:=Fy (Hb a) [] E (Di (zS 3) (Di (KJ g.K (zS 0) "home") HX))) J9 rfl nW.nd (lA (pv 2)) (nJ (N:=["self","segments","laid","segment"]) (sc:=ao lB) (own:=[("segment",3)]) (by decide +kernel)) (fun _ _ _ _ _ _=>dJ (i:=3) nW.nd rfl (Or.inl rfl)) (fun _ _ _ _ _ _ _=>Q6 (jK (aO aaF (ar (pv 3) rfl) (pk T.J4)) (fun _=>rfl))) (fun _ _ _ _ _ _ pass=>aU (Ql T) pass hr (by decide) T.JU (aa (pv 3) (aa (ar (pv 0) rfl) ai)))) rfl))))),?_⟩
 have nls:ls≠p:=cS hs hp (by intro z;cases z)
 have WO:kH≠p:=cS hl hp (by intro z;cases z)
 have Ka:∀{x:Addr} {s:Segment} {n:Nat},ym a H x s n→x≠p:=fun{x s n} ⟨d,e⟩=>cS e hp (by intro z;injection z with _ _ z;have:=congrArg length z;cases this)
 have su:∀{o:HO},jh a (upd H p o) sa t.segments∧jh a (upd H p o) la t.laid:=fun{o} =>
  ⟨bf oI fun x _ y ⟨n,q⟩=>⟨n,q.keep fun _ _ _ e=>by rw[aj (Ka q)];exact e⟩,bf laid fun x _ y ⟨n,q⟩=>⟨n,q.keep fun _ _ _ e=>by rw[aj (Ka q)];exact e⟩⟩
 have hlen:=bw laid
 obtain⟨pI,sl,el⟩:∃pI sl,t.laid=pI++[sl]:=⟨t.laid.dropLast,t.laid.getLast HP,(dropLast_concat_getLast HP).symm⟩
 obtain⟨s0,r0,e0⟩:∃s0 r0,t.laid=s0::r0:=by
  cases h:t.laid with
  |nil=>exact absurd h HP
  |cons s r=>exact⟨s,r,rfl⟩
 have hb:t.base=s0.at_:=by
  unfold Told.base
  rw[e0]
  rfl
 have hsz:t.size=sl.at_+sl.size-t.base:=by
  unfold Told.size
  rw[el]
  simp
 rw[el]at JJ
 simp at JJ
 obtain⟨x0,NU,n0,q0⟩:=oJ laid (i:=0) (y:=s0) (by rw[e0];rfl)
 obtain⟨xl,hxl,nl,ql⟩:=oJ laid (i:=pI.length) (y:=sl) (by rw[el];simp)
 obtain⟨d0,q0⟩:=q0
 obtain⟨dl,ql⟩:=ql
 have nx0:x0≠p:=Ka (n:=n0) ⟨d0,q0⟩
 have nxl:xl≠p:=Ka (n:=nl) ⟨dl,ql⟩
 have la0:(la.map V.ref)[0]?=some (.ref x0):=by rw[getElem?_map,NU];rfl
 have aeu:la.map V.ref=(la.map V.ref).dropLast++[.ref xl]:=by
  have RD:la.length=pI.length+1:=by rw[hlen,el];simp
  have:la=la.dropLast++[xl]:=by
   have aev:la≠[]:=fun z=>by rw[z]at RD;simp at RD
   have e2:la.getLast aev=xl:=by
    rw[List.getLast_eq_getElem]
    have:la[la.length-1]?=some xl:=by rw[show la.length-1=pI.length by lia];exact hxl
    obtain⟨h1,h2⟩:=List.getElem?_eq_some_iff.mp this
    exact h2
   rw[←e2]
   exact(dropLast_concat_getLast aev).symm
  conv=>lhs;rw[this]
  rw[map_append,List.map_dropLast]
  rfl
 have atl:WL (la.map V.ref) (-1)=some (.ref xl):=by rw[aeu];exact MK _ _
 refine⟨_,rfl,_,rfl,p,_,dx,_,rfl,hp,T.bI,T.dA,(by show 0<1000;decide),_,rfl,_,rfl,p,_,dx,_,rfl,af,T.bI,T.gq,pl1,?_⟩
 rw[bN]
 refine⟨_,rfl,kH,_,_,_,rfl,rfl,bP.of (by rw[aj WO];exact hl),at_of (j:=0) rfl la0,x0,_,d0,_,_,rfl,(by rw[aj nx0];exact q0),T.aG,T.aX,bQ,_,rfl,p,_,dx,_,rfl,af,T.bI,T.cH,pl2,?_⟩
 rw[bN]
 have lk:List.lookup ("home" : Str) (aF "home" (V.int (s0.at_:Int)) (aF "laid" (V.ref kH) (aF "segments" (V.ref ls) [])))=some (V.int (s0.at_:Int)):=by rw[lO,iPp rfl]
 refine⟨_,rfl,_,rfl,kH,_,_,_,rfl,rfl,bP.of (by rw[aj WO];exact hl),atl,xl,_,dl,_,_,rfl,(by rw[aj nxl];exact ql),T.aG,T.aX,bQ,_,rfl,_,rfl,kH,_,_,_,rfl,rfl,bP.of (by rw[aj WO];exact hl),atl,xl,_,dl,_,_,rfl,(by rw[aj nxl];exact ql),T.aG,T.cn,gu,_,_,rfl,rfl,
  _,rfl,p,_,dx,_,_,rfl,af,T.bI,T.cH,lk,_,_,rfl,rfl,_,rfl,p,_,dx,_,rfl,af,T.bI,T.cU,pl3,?_⟩
 rw[bN]
 have esz:(sl.at_:Int)+(sl.size:Int)-(s0.at_:Int)=(t.size:Int):=by rw[hsz,hb];lia
 generalize ho:HO.ins a.c9 dx (aF "length" (V.int ((sl.at_:Int)+(sl.size:Int)-(s0.at_:Int))) (aF "home" (V.int (s0.at_:Int)) (aF "laid" (V.ref kH) (aF "segments" (V.ref ls) []))))=o
 have hlu:upd H p o kH=some (.lst (la.map V.ref)):=by rw[aj WO];exact hl
 refine⟨_,rfl,kH,rfl,⟨_,bP.of hlu⟩,fun D hD=>?_⟩
 have sD:ax (upd H p o) (upd (upd H p o) D (.lst [])):=ax.upd hD
 have npD:p≠D:=aq af hD
 have nD:H D=none:=by rw[aj npD.symm]at hD;exact hD
 refine Ac (K:=g.K) (a:=kH) (xs:=la.map V.ref) (fun i H4=>∃pa:List Addr,H4 D=some (.lst (pa.map V.ref))∧ax (upd H p o) H4∧RC H4 pa (dE t.base (t.laid.take i))∧pa.length≤i∧∀q∈pa,q≠D∧upd H p o q=none) ⟨[],af,sD,.nil,le_refl _,fun _ h=>(nomatch h)⟩ (fun i H4 _ ⟨pa,_,s4,_⟩=>bP.of (s4 _ _ hlu)) ?_ ?_
 ·rintro i y H4 hi ⟨pa,hq,s4,Q2,oM,VH⟩
  obtain⟨x,hx,rfl⟩:=pJ hi
  obtain⟨sg,Te,n,d,Td⟩:=rg (su (o:=o)).2 hx
  have hx4:=s4 _ _ Td
  obtain⟨aer,aes⟩:=List.getElem?_eq_some_iff.mp Te
  have r8:=h8 sg (mem_of_getElem? Te)
  have et:t.laid.take (i+1)=t.laid.take i++[sg]:=by rw[take_succ,Te];rfl
  refine⟨rfl,_,rfl,x,_,d,_,_,rfl,hx4,T.aG,T.df,k9,_,_,rfl,rfl,_,rfl,?_⟩
  rw[ahV sg.rights r8]
  have h4p:H4 p=some o:=s4 _ _ af
  rw[←ho]at h4p
  have e16:i<16:=by lia
  cases hw:(sg.rights/2%2==1) with
  |true =>
   refine iE ⟨_,rfl,_,rfl,p,_,dx,_,_,rfl,h4p,T.bI,T.cH,(by rw[lO,IN (by decide +kernel),lO,iPp rfl]),x,sg,n,_,rfl,⟨d,hx4⟩,fun q hq0=>?_⟩
   have nqD:q≠D:=fun z=>by rw[z,hq]at hq0;cases hq0
   refine⟨_,(by rw[aj nqD.symm];exact hq),?_,pa++[q],by rw[af,map_append];rfl,?_,?_,by rw[length_append];simp;lia,?_⟩
   ·rw[length_map]
    exact lt_of_le_of_lt oM (lt_trans e16 (by decide))
   ·intro y u e
    have h1:y≠D:=aq e hD
    rw[aj h1,aj (aq (s4 _ _ e) hq0)]
    exact s4 _ _ e
   ·have e5:dE t.base (t.laid.take (i+1))=dE t.base (t.laid.take i)++[((sg.at_:Int)-t.base,(sg.at_:Int)-t.base+sg.size)]:=by
     unfold dE
     rw[et,filter_append,map_append]
     have:[sg].filter written=[sg]:=by
      rw[List.filter_cons,show written sg=true from hw]
      rfl
     rw[this]
     rfl
    rw[e5]
    refine gy (bf Q2 fun y hy z e=>?_) ?_
    ·rw[aj (VH y hy).1,aj (aq e hq0)]
     exact e
    ·rw[aj nqD,af,hb]
   ·intro y hy
    rcases mem_append.mp hy with z|z
    ·exact VH y z
    ·obtain rfl:y=q:=by simpa using z
     exact⟨nqD,s4.free hq0⟩
  |false =>
   refine eA ⟨pa,hq,s4,?_,by lia,VH⟩
   have e5:dE t.base (t.laid.take (i+1))=dE t.base (t.laid.take i):=by
    unfold dE
    rw[et,filter_append,map_append]
    have:[sg].filter written=[]:=by
     rw[List.filter_cons,show written sg=false from hw]
     rfl
    rw[this]
    simp
   rw[e5]
   exact Q2
 ·rintro H4 ⟨pa,hq,s4,Q2,oM,VH⟩
  rw[length_map,hlen,take_of_length_le (le_refl _)]at Q2
  have h4p:H4 p=some o:=s4 _ _ af
  rw[←ho]at h4p
  refine⟨_,rfl,p,_,dx,_,rfl,h4p,T.bI,T.gP,pl4,?_⟩
  have keep:∀{y:Addr} {u:HO},H y=some u→y≠p→∀{o':HO},upd H4 p o' y=some u:=fun{y u} e n {o'}=>by
   rw[aj n]
   exact s4 _ _ (by rw[aj n];exact e)
  have fin:(aF "spans" (V.ref D) (aF "length" (V.int ((sl.at_:Int)+(sl.size:Int)-(s0.at_:Int))) (aF "home" (V.int (s0.at_:Int)) (aF "laid" (V.ref kH) (aF "segments" (V.ref ls) [])))))=gQ (.ref ls) (.ref kH) (.int (t.base:Int)) (.int (t.size:Int)) (.ref D):=by
   rw[M6,esz,hb]
  rw[fin]
  refine k _ ⟨dx,ls,kH,D,sa,la,pa,⟨af,keep hs nls,bf oI fun x _ y ⟨n,q⟩=>⟨n,q.keep fun _ _ _ e=>keep e (Ka q)⟩,keep hl WO,bf laid fun x _ y ⟨n,q⟩=>⟨n,q.keep fun _ _ _ e=>keep e (Ka q)⟩,by rw[aj npD.symm];exact hq,(bf Q2 fun y hy z e=>?_),O0⟩⟩ fun y u e n=>keep e n
  have nyp:y≠p:=fun z=>by
   have:=(VH y hy).2
   rw[z,af]at this;cases this
  rw[aj nyp]
  exact e
end
end MI
namespace MX
open Rc31
theorem gX:W64=18446744073709551616:=by decide
def bR (p skip i:Nat):Nat:=(p+i*(8+skip))%W64
theorem jF {p skip:Nat} (h:p<W64):bR p skip 0=p:=by
 unfold bR
 rw[Nat.zero_mul,Nat.add_zero,mod_eq_of_lt h]
theorem pK (p skip i:Nat):bR ((p+8+skip)%W64) skip i=bR p skip (i+1):=by
 unfold bR
 rw[add_mod,Nat.mod_mod,←add_mod,succ_mul]
 congr 1
 lia
theorem LV {t:Told} {skip:Nat}:∀{n p:Nat},p<W64→(∀i,i<n→wordAt t (bR p skip i)=true)→row t n p skip=some ((range n).map (bR p skip),bR p skip n)
 |0,p,hp,_=>by simp[row,jF hp]
 |n+1,p,hp,h=>by
  have h0:=h 0 (by lia)
  rw[jF hp]at h0
  rw[row,IN (by rw[h0];decide),LV (n:=n) (mod_lt _ (by decide)) (fun i hi=>by rw[pK];exact h (i+1) (by lia))]
  simp only[map_some,pK]
  rw[range_succ_eq_map,map_cons,map_map,jF hp]
  congr 3
  apply map_congr_left
  intro i _
  exact pK p skip i
theorem Hg {t:Told} {skip:Nat}:∀{n p i:Nat},p<W64→i<n→wordAt t (bR p skip i)=false→row t n p skip=none
 |0,_,_,_,h,_=>by lia
 |n+1,p,0,hp,_,h=>by
  rw[jF hp]at h
  rw[row,iPp h]
 |n+1,p,i+1,hp,hi,h=>by
  rw[row]
  by_cases h0:wordAt t p=false
  ·rw[iPp h0]
  ·rw[IN h0,Hg (n:=n) (i:=i) (mod_lt _ (by decide)) (by lia) (by rw[pK];exact h)]
   rfl
theorem count_le {d:Int} (hd:0<d) (lo b:Int):∀c:Nat,(((range c).countP fun(i:Nat)=>decide (lo+d*(i:Int)≤b):Nat):Int)=max 0 (min (c:Int) ((b-lo)/d+1))
 |0=>by simp;lia
 |c+1=>by
  have hi:(lo+d*(c:Int)≤b)↔(c:Int)≤(b-lo)/d:=by
   rw[Int.le_ediv_iff_mul_le hd,Int.mul_comm]
   lia
  rw[List.range_succ,List.countP_append]
  have ih:=count_le hd lo b c
  by_cases hc:lo+d*(c:Int)≤b
  ·have h2:=hi.mp hc
   simp only[countP_cons,List.countP_nil,hc,decide_true,if_true]
   lia
  ·have h2:=fun q=>hc (hi.mpr q)
   simp only[countP_cons,List.countP_nil,hc,decide_false]
   simp
   lia
theorem Kb {α:Type} (p q r:α→Bool) (h:∀x,(q x=true→p x=true)∧(r x=true↔p x=true∧q x=false)):∀l:List α,l.countP p=l.countP q+l.countP r
 | []=>rfl
 |x::l=>by
  have ih:=Kb p q r h l
  obtain⟨h1,h2⟩:=h x
  simp only[countP_cons]
  cases hp:p x<;>cases hq:q x<;>cases hr:r x<;>simp_all<;>lia
theorem N2 {α:Type} (p q r:α→Bool) (h:∀x,(r x=true↔p x=true∨q x=true)∧¬(p x=true∧q x=true)):∀l:List α,l.countP r=l.countP p+l.countP q
 | []=>rfl
 |x::l=>by
  have ih:=N2 p q r h l
  obtain⟨h1,h2⟩:=h x
  simp only[countP_cons]
  cases hp:p x<;>cases hq:q x<;>cases hr:r x<;>simp_all<;>lia
def pl (p s:Int) (i:Nat):Int:=p+s*(i:Int)
def low (p s:Int) (c:Nat):Int:=min p (p+s*((c:Int)-1))
def upTo (p s:Int) (c:Nat) (b:Int):Int:=max 0 (min (c:Int) ((b-low p s c)/(s.natAbs:Int)+1))
def vV (p s:Int) (c:Nat) (x:Int×Int):Int:=upTo p s c (x.2-8)-upTo p s c (x.1-1)
structure Apart (l:List (Int×Int)):Prop where
 big:∀x∈l,x.1+8≤x.2
 sep:l.Pairwise fun x y=>x.2≤y.1
def hits (x:Int×Int) (q:Int):Prop:=x.1≤q∧q+8≤x.2
instance (x:Int×Int) (q:Int):Decidable (hits x q):=inferInstanceAs (Decidable (_∧_))
def qn (p s:Int) (c i:Nat):Int:=low p s c+(s.natAbs:Int)*(i:Int)
theorem LW {p s:Int} (hs:s≠0) {c:Nat} {x:Int×Int} (hx:x.1+8≤x.2):vV p s c x=(((range c).countP fun i=>decide (hits x (qn p s c i)):Nat):Int):=by
 have hd:(0:Int)<(s.natAbs:Int):=by lia
 unfold vV upTo
 rw[←count_le hd,←count_le hd]
 have:=Kb (fun(i:Nat)=>decide (low p s c+(s.natAbs:Int)*(i:Int)≤x.2-8)) (fun(i:Nat)=>decide (low p s c+(s.natAbs:Int)*(i:Int)≤x.1-1)) (fun i=>decide (hits x (qn p s c i))) (fun i=>by
  have e:hits x (qn p s c i)↔x.1≤low p s c+(s.natAbs:Int)*(i:Int)∧low p s c+(s.natAbs:Int)*(i:Int)+8≤x.2:=Iff.rfl
  generalize low p s c+(s.natAbs:Int)*(i:Int)=y at e ⊢
  simp only[decide_eq_true_eq,decide_eq_false_iff_not,e]
  lia) (range c)
 lia
theorem Kc {p s:Int} (hs:s≠0) {c:Nat}:∀{l:List (Int×Int)},Apart l→(l.map (vV p s c)).sum=(((range c).countP fun i=>decide (∃x∈l,hits x (qn p s c i)):Nat):Int)
 | [],_=>by simp
 |x::l,A=>by
  have hp:=pairwise_cons.mp A.sep
  have ih:=Kc hs (p:=p) (c:=c) (l:=l) ⟨fun y hy=>A.big y (mem_cons_of_mem _ hy),hp.2⟩
  rw[map_cons,sum_cons,ih,LW hs (A.big x (mem_cons_self ..))]
  have:=N2 (fun i=>decide (hits x (qn p s c i))) (fun i=>decide (∃x∈l,hits x (qn p s c i))) (fun i=>decide (∃y∈x::l,hits y (qn p s c i))) (fun i=>by
   simp only[decide_eq_true_eq,mem_cons]
   refine⟨⟨?_,?_⟩,?_⟩
   ·rintro⟨y,rfl|hy,h⟩
    ·exact .inl h
    ·exact .inr ⟨y,hy,h⟩
   ·rintro(h|⟨y,hy,h⟩)
    ·exact⟨x,.inl rfl,h⟩
    ·exact⟨y,.inr hy,h⟩
   ·rintro⟨h1,y,hy,h2⟩
    have:=hp.1 y hy
    unfold hits at h1 h2
    lia) (range c)
  lia
theorem aey {p s:Int} {c:Nat} (P:Int→Prop):(∀i,i<c→P (qn p s c i))↔∀i,i<c→P (pl p s i):=by
 unfold qn low pl
 by_cases h:0≤s
 ·obtain⟨n,rfl⟩:=Int.eq_ofNat_of_zero_le h
  constructor
  ·intro H i hi
   have hm:min p (p+(n:Int)*((c:Int)-1))=p:=by
    have:0≤(n:Int)*((c:Int)-1):=mul_nonneg (by lia) (by lia)
    lia
   have:=H i hi
   rw[hm]at this
   simpa using this
  ·intro H i hi
   have hm:min p (p+(n:Int)*((c:Int)-1))=p:=by
    have:0≤(n:Int)*((c:Int)-1):=mul_nonneg (by lia) (by lia)
    lia
   rw[hm]
   simpa using H i hi
 ·obtain⟨n,rfl⟩:∃n:Nat,s = -(n:Int):=⟨s.natAbs,by lia⟩
  have ea:((-(n:Int)).natAbs:Int)=n:=by lia
  have key:∀i j:Nat,i+j+1=c→min p (p + -(n:Int)*((c:Int)-1))+((-(n:Int)).natAbs:Int)*(i:Int)=p + -(n:Int)*(j:Int):=by
   intro i j hij
   have h1:0≤(n:Int)*((c:Int)-1):=mul_nonneg (by lia) (by lia)
   have hm:min p (p + -(n:Int)*((c:Int)-1))=p + -(n:Int)*((c:Int)-1):=by
    rw[neg_mul]
    lia
   rw[hm,ea]
   have:((c:Int)-1)=(i:Int)+(j:Int):=by lia
   rw[this,neg_mul,neg_mul,mul_add]
   lia
  constructor
  ·intro H j hj
   have:=H (c-1-j) (by lia)
   rw[key (c-1-j) j (by lia)]at this
   exact this
  ·intro H i hi
   rw[key i (c-1-i) (by lia)]
   exact H _ (by lia)
theorem RE {p s:Int} (hs:s≠0) {c:Nat} {l:List (Int×Int)} (A:Apart l):(l.map (vV p s c)).sum=(c:Int)↔∀i,i<c→∃x∈l,hits x (pl p s i):=by
 rw[Kc hs A]
 have:=aey (p:=p) (s:=s) (c:=c) (fun q=>∃x∈l,hits x q)
 rw[←this]
 constructor
 ·intro h i hi
  have h':(range c).countP (fun i=>decide (∃x∈l,hits x (qn p s c i)))=(range c).length:=by
   rw[length_range]
   lia
  have:=List.countP_eq_length.mp h' i (mem_range.mpr hi)
  simpa using this
 ·intro h
  have h':(range c).countP (fun i=>decide (∃x∈l,hits x (qn p s c i)))=(range c).length:=List.countP_eq_length.mpr fun i hi=>by
   simpa using h i (mem_range.mp hi)
  rw[length_range]at h'
  lia
structure wJ (t:Told):Prop where
 rise:t.laid.Pairwise fun x y=>x.at_+x.size≤y.at_
 big:∀s∈t.laid,8≤s.size
 lo:∀s∈t.laid,t.base≤s.at_
 hi:∀s∈t.laid,s.at_+s.size≤t.base+4194304
def zE (t:Told) (s:Segment):Int×Int:=((s.at_:Int)-(t.base:Int),(s.at_:Int)-(t.base:Int)+(s.size:Int))
def dE (t:Told):List (Int×Int):=(t.laid.filter fun s=>s.rights/2%2==1).map (zE t)
theorem wJ.apart {t:Told} (T:wJ t):Apart (dE t) where
 big:=fun x hx=>by
  obtain⟨s,hs,rfl⟩:=mem_map.mp hx
  have:=T.big s (mem_filter.mp hs).1
  unfold zE
  lia
 sep:=by
  unfold dE
  rw[List.pairwise_map]
  refine(T.rise.sublist List.filter_sublist).imp ?_
  intro a b h
  unfold zE
  lia
theorem wJ.word {t:Told} (T:wJ t) {p:Nat}:wordAt t p=true↔∃x∈dE t,hits x (p:Int):=by
 unfold wordAt dE
 rw[List.any_eq_true]
 constructor
 ·rintro⟨s,hs,h⟩
  simp only[and_eq_true,decide_eq_true_eq]at h
  refine⟨zE t s,mem_map.mpr ⟨s,mem_filter.mpr ⟨hs,h.2⟩,rfl⟩,?_⟩
  unfold hits zE
  lia
 ·rintro⟨x,hx,h⟩
  obtain⟨s,hs,rfl⟩:=mem_map.mp hx
  obtain⟨h1,h2⟩:=mem_filter.mp hs
  refine⟨s,h1,?_⟩
  simp only[and_eq_true,decide_eq_true_eq]
  unfold hits zE at h
  exact⟨by lia,h2⟩
theorem wJ.hit {t:Told} (T:wJ t) {q:Int} {x:Int×Int} (hx:x∈dE t) (h:hits x q):0≤q∧q+8≤4194304:=by
 obtain⟨s,hs,rfl⟩:=mem_map.mp hx
 obtain⟨h1,h2⟩:=mem_filter.mp hs
 have:=T.lo s h1
 have:=T.hi s h1
 unfold hits zE at h
 lia
theorem wJ.LX {t:Told} (T:wJ t) {p:Nat} (h:wordAt t p=true):p+8≤4194304:=by
 obtain⟨x,hx,h⟩:=T.word.mp h
 have:=T.hit hx h
 lia
def aD (c b:Nat):Int:=if c<2 then 8 else if (8+b)%W64<9223372036854775808 then(((8+b)%W64:Nat):Int) else(((8+b)%W64:Nat):Int)-18446744073709551616
theorem DW (p b i:Nat):bR p b (i+1)=(bR p b i+(8+b)%W64)%W64:=by
 unfold bR
 rw[←add_mod]
 congr 1
 rw[succ_mul]
 lia
theorem DX {c b:Nat} (hc:2≤c) {x y:Nat} (hx:x<4194304) (hy:y=(x+(8+b)%W64)%W64):(0≤(x:Int)+aD c b∧(x:Int)+aD c b<4194304→(y:Int)=x+aD c b)∧(y<4194304→(y:Int)=x+aD c b):=by
 have h1:(8+b)%W64<W64:=mod_lt _ (by decide)
 unfold aD
 rw[gX]at *
 rw[IN (by lia)]
 split<;>lia
theorem Qn {t:Told} (T:wJ t) {c b p:Nat} (hp:p<W64) (H:∀i,i<c→∃x∈dE t,hits x (pl (p:Int) (aD c b) i)):∀i,i<c→(bR p b i:Int)=pl (p:Int) (aD c b) i:=by
 intro i
 induction i with
 |zero =>
  intro _
  rw[jF hp]
  unfold pl
  simp
 |succ i ih =>
  intro hi
  have e:=ih (by lia)
  obtain⟨x0,NU,h0⟩:=H i (by lia)
  obtain⟨x1,Yq,h1⟩:=H (i+1) hi
  have b0:=T.hit NU h0
  have b1:=T.hit Yq h1
  have es:pl (p:Int) (aD c b) (i+1)=(bR p b i:Int)+aD c b:=by
   rw[e]
   unfold pl
   rw[natCast_add,mul_add]
   lia
  rw[es]at b1 ⊢
  exact(DX (by lia) (by lia) (DW p b i)).1 (by lia)
theorem pL {t:Told} (T:wJ t) {c b p:Nat} (hp:p<W64) (H:∀i,i<c→wordAt t (bR p b i)=true):∀i,i<c→(bR p b i:Int)=pl (p:Int) (aD c b) i:=by
 intro i
 induction i with
 |zero =>
  intro _
  rw[jF hp]
  unfold pl
  simp
 |succ i ih =>
  intro hi
  have e:=ih (by lia)
  have b0:=T.LX (H i (by lia))
  have b1:=T.LX (H (i+1) hi)
  have es:pl (p:Int) (aD c b) (i+1)=(bR p b i:Int)+aD c b:=by
   rw[e]
   unfold pl
   rw[natCast_add,mul_add]
   lia
  rw[es]
  exact(DX (by lia) (by lia) (DW p b i)).2 (by lia)
theorem Yr {t:Told} (T:wJ t) {c b p:Nat} (hp:p<W64) (hs:aD c b≠0) (h:((dE t).map (vV (p:Int) (aD c b) c)).sum=(c:Int)) :
 row t c p b=some ((range c).map (fun i=>(pl (p:Int) (aD c b) i).toNat),(p+c*(8+b))%W64)∧(∀i,i<c→0≤pl (p:Int) (aD c b) i)∧∀i,i<c→wordAt t (pl (p:Int) (aD c b) i).toNat=true:=by
 have H:=(RE hs T.apart).mp h
 have E:=Qn T hp H
 have Wd:∀i,i<c→wordAt t (bR p b i)=true:=fun i hi=>T.word.mpr (by rw[E i hi];exact H i hi)
 have N:∀i,i<c→0≤pl (p:Int) (aD c b) i:=fun i hi=>by rw[←E i hi];lia
 refine⟨?_,N,fun i hi=>?_⟩
 ·rw[LV hp Wd]
  congr 2
  apply map_congr_left
  intro i hi
  have:=E i (mem_range.mp hi)
  lia
 ·have:=E i hi
  have e:(pl (p:Int) (aD c b) i).toNat=bR p b i:=by lia
  rw[e]
  exact Wd i hi
theorem LY {t:Told} (T:wJ t) {c b p:Nat} (hp:p<W64) (hs:aD c b≠0) (h:((dE t).map (vV (p:Int) (aD c b) c)).sum≠(c:Int)):row t c p b=none:=by
 by_cases H:∀i,i<c→wordAt t (bR p b i)=true
 ·exfalso
  refine h ((RE hs T.apart).mpr fun i hi=>?_)
  rw[←pL T hp H i hi]
  exact T.word.mp (H i hi)
 ·have:∃i,i<c∧wordAt t (bR p b i)=false:=by
   apply Classical.byContradiction
   intro q
   apply H
   intro i hi
   cases e:wordAt t (bR p b i) with
   |true=>rfl
   |false=>exact absurd ⟨i,hi,e⟩ q
  obtain⟨i,hi,e⟩:=this
  exact Hg hp hi e
theorem dv:∀l:List Nat,distant l=true↔l.Pairwise fun x y=>x+8≤y∨y+8≤x
 | []=>by simp[distant]
 |x::r=>by
  have ih:=dv r
  simp only[distant,and_eq_true,ih,pairwise_cons,all_eq_true,decide_eq_true_eq]
theorem Tf {t:Told} (T:wJ t) {c b p:Nat} (hp:p<W64) (hs:(aD c b).natAbs<8) {l:List Nat} {q:Nat} (h:row t c p b=some (l,q)):distant l=false:=by
 have hc:2≤c:=by
  apply Classical.byContradiction
  intro q
  unfold aD at hs
  rw[iPp (by lia)]at hs
  simp at hs
 have H:∀i,i<c→wordAt t (bR p b i)=true:=by
  intro i hi
  cases e:wordAt t (bR p b i) with
  |true=>rfl
  |false =>
   rw[Hg hp hi e]at h
   cases h
 rw[LV hp H]at h
 cases h
 have e0:=pL T hp H 0 (by lia)
 have e1:=pL T hp H 1 (by lia)
 unfold pl at e0 e1
 cases hd:distant ((range c).map (bR p b)) with
 |false=>rfl
 |true =>
  exfalso
  obtain⟨c,rfl⟩:∃d,c=d+2:=⟨c-2,by lia⟩
  rw[dv,range_succ_eq_map,range_succ_eq_map]at hd
  simp only[map_cons,pairwise_cons]at hd
  have:=hd.1 (bR p b 1) (by simp)
  lia
theorem kx {a b:List Nat} (h:distant a=false):distant (a++b)=false∧distant (b++a)=false:=by
 constructor
 ·cases hd:distant (a++b) with
  |false=>rfl
  |true =>
   rw[dv,List.pairwise_append]at hd
   rw[(dv a).mpr hd.1]at h
   cases h
 ·cases hd:distant (b++a) with
  |false=>rfl
  |true =>
   rw[dv,List.pairwise_append]at hd
   rw[(dv a).mpr hd.2.1]at h
   cases h
theorem vW {l s:List Nat} (hp:s.Perm l) (hs:s.Pairwise (·≤·)):distant l=true↔s.Pairwise fun x y=>x+8≤y:=by
 have e:(l.Pairwise fun x y=>x+8≤y∨y+8≤x)↔(s.Pairwise fun x y=>x+8≤y∨y+8≤x):=by
  refine(hp.pairwise_iff ?_).symm
  intro x y h
  exact h.symm
 rw[dv,e]
 constructor
 ·intro h
  refine(h.and hs).imp ?_
  intro a b q
  lia
 ·intro h
  exact h.imp fun q=>.inl q
theorem yq:∀{s:List Nat},s.Pairwise (fun x y=>x+8≤y)↔∀x∈s.zip s.tail,x.1+8≤x.2
 | []=>by simp
 | [a]=>by simp
 |a::b::r=>by
  have ih:=yq (s:=b::r)
  rw[pairwise_cons,ih]
  simp only[List.tail_cons,zip_cons_cons,mem_cons,forall_eq_or_imp]
  constructor
  ·rintro⟨⟨h1,_⟩,h2⟩
   exact⟨h1,h2⟩
  ·rintro⟨h1,h2⟩
   refine⟨⟨h1,fun y hy=>?_⟩,h2⟩
   have:=List.rel_of_pairwise_cons (ih.mpr h2) hy
   lia
theorem BB {l:List Nat} {n:Nat} (h:distant l=true) (hn:∀x∈l,x+8≤n):l.length*8≤n:=by
 have key:∀(s:List Nat) (a:Nat),s.Pairwise (fun x y=>x+8≤y)→(∀x∈s,a≤x∧x+8≤n)→a≤n→a+s.length*8≤n:=by
  intro s
  induction s with
  |nil=>intro a _ _ h;simpa using h
  |cons x r ih =>
   intro a h1 h2 h3
   obtain⟨h4,h5⟩:=pairwise_cons.mp h1
   have h6:=h2 x (mem_cons_self ..)
   have:=ih (x+8) h5 (fun y hy=>⟨h4 y hy,(h2 y (mem_cons_of_mem _ hy)).2⟩) (by lia)
   rw[length_cons]
   lia
 have hp:=(List.mergeSort_perm l (fun a b=>decide (a≤b)))
 have hs:(l.mergeSort fun a b=>decide (a≤b)).Pairwise (·≤·):=by
  have:=List.pairwise_mergeSort (le:=fun(a b:Nat)=>decide (a≤b)) (fun a b c h1 h2=>by simp at *;lia) (fun a b=>by simp;lia) l
  exact this.imp (by simp)
 have:=key _ 0 ((vW hp hs).mp h) (fun x hx=>⟨by lia,hn x (hp.mem_iff.mp hx)⟩) (by lia)
 rw[hp.length_eq]at this
 lia
def ZO (b:Bytes) (s:Segment):Prop:=s.at_%4096=0∧s.size%4096=0∧s.file%4096=0∧s.raw≤s.size∧s.file+s.raw≤b.length∧s.rights<8
def rh (b:Bytes) (d:Dir):Prop:=d.1+d.2≤b.length
structure qr (b:Bytes) (t:Told):Prop where
 oI:∀s∈t.segments,ZO b s
 libs:∀l∈t.libraries,l.length≤255
 info:∀d,t.info=some d→rh b d.1∧rh b d.2.1∧rh b d.2.2
theorem Hh {b:Bytes} {x:Bytes×Bytes} (h:textIn b=some x):x.1.length≤255:=by
 unfold textIn at h
 dsimp only at h
 split at h
 ·rename_i hc
  cases h
  exact hc.2.1
 ·cases h
theorem Qo {b c:Bytes} {t u:Told} (T:qr b t) (h:command b c t=some u):qr b u:=by
 unfold command at h
 dsimp only at h
 split at h
 ·split at h
  ·rename_i hc
   cases h
   refine⟨fun s hs=>?_,T.libs,T.info⟩
   rcases mem_append.mp hs with hs|hs
   ·exact T.oI s hs
   ·rw[mem_singleton.mp hs]
    obtain⟨_,h1,h2,h3,h4,h5,h6⟩:=hc
    exact⟨h1,h2,h3,h4,by simpa [within] using h5,h6⟩
  ·cases h
 ·split at h
  ·split at h
   ·cases h
   ·obtain⟨x,hx,rfl⟩:=oMm h
    refine⟨T.oI,fun l hl=>?_,T.info⟩
    rcases mem_append.mp hl with hl|hl
    ·exact T.libs l hl
    ·rw[mem_singleton.mp hl]
     exact Hh hx
  ·split at h
   ·split at h
    ·cases h
     exact⟨T.oI,T.libs,T.info⟩
    ·cases h
   ·split at h
    ·split at h
     ·rename_i hc
      cases h
      refine⟨T.oI,T.libs,fun d hd=>?_⟩
      cases hd
      obtain⟨_,_,h1,h2,h3,_⟩:=hc
      exact⟨by simpa [within,rh] using h1,by simpa [within,rh] using h2,by simpa [within,rh] using h3⟩
     ·cases h
    ·cases h
     exact T
theorem DY {b:Bytes}:∀{n:Nat} {c:Bytes} {t u:Told},qr b t→commands b n c t=some u→qr b u
 |0,c,t,u,T,h=>by
  unfold commands at h
  split at h
  ·cases h;exact T
  ·cases h
 |n+1,c,t,u,T,h=>by
  unfold commands at h
  dsimp only at h
  split at h
  ·cases h
  ·obtain⟨v,hv,h⟩:=oBb h
   exact DY (Qo T hv) h
theorem Qp (b:Bytes):qr b {}:=⟨fun _ h=>(nomatch h),fun _ h=>(nomatch h),fun _ h=>(nomatch h)⟩
theorem DZ:∀{a:Nat} {l:List Segment},rising a l=true→(l.Pairwise fun x y=>x.at_+x.size≤y.at_)∧(∀s∈l,a≤s.at_∧0<s.size)
 |_,[],_=>⟨.nil,fun _ h=>(nomatch h)⟩
 |a,s::r,h=>by
  unfold rising at h
  rw[and_eq_true,decide_eq_true_eq]at h
  obtain⟨h1,h2⟩:=DZ h.2
  refine⟨pairwise_cons.mpr ⟨fun y hy=>(h2 y hy).1,h1⟩,fun x hx=>?_⟩
  rcases mem_cons.mp hx with rfl|hx
  ·exact h.1
  ·have:=h2 x hx
   have:=h.1
   lia
theorem LZ:∀{l:List Segment} {s x:Segment},(l.Pairwise fun x y=>x.at_+x.size≤y.at_)→x∈l→x.at_+x.size≤(l.getLast?.getD s).at_+(l.getLast?.getD s).size
 | [],_,_,_,h=>nomatch h
 | [y],_,x,_,h=>by
  rw[mem_singleton.mp h]
  simp
 |y::z::r,s,x,hp,h=>by
  have e:(y::z::r).getLast?=(z::r).getLast?:=by simp[List.getLast?_cons_cons]
  rw[e]
  obtain⟨h1,h2⟩:=pairwise_cons.mp hp
  have ih:=fun(x:Segment) (hx:x∈z::r)=>LZ (s:=s) h2 hx
  rcases mem_cons.mp h with rfl|h
  ·have a:=h1 z (mem_cons_self ..)
   have b:=ih z (mem_cons_self ..)
   lia
  ·exact ih x h
def L0 (n:Nat) (t:Told):Bool:=match t.laid with
 | []=>false
 |s::r =>
  let last:=((s::r).getLast?.getD s)
  decide (rising 0 (s::r)=true∧last.at_+last.size<2^47∧last.at_+last.size-s.at_≤MOST∧s.file=0∧32+n≤s.raw∧(s::r).length≤16∧t.libraries.length≤64∧t.entry.all (fun e=>decide (e<s.raw))=true)
theorem Qq {b:Bytes} {n:Nat} {t:Told} (T:qr b t) (h:L0 n t=true):wJ t∧∃s r,t.laid=s::r∧t.base=s.at_∧s.file=0∧32+n≤s.raw:=by
 unfold L0 at h
 cases hl:t.laid with
 |nil=>rw[hl]at h;simp at h
 |cons s r =>
  rw[hl]at h
  dsimp only at h
  rw[decide_eq_true_eq]at h
  obtain⟨h1,h2,h3,h4,h5,h6,h7,h8⟩:=h
  obtain⟨p1,p2⟩:=DZ h1
  have hb:t.base=s.at_:=by
   unfold Told.base
   rw[hl]
   rfl
  have sub:∀x∈t.laid,x∈t.segments:=by
   intro x hx
   unfold Told.laid at hx
   split at hx
   ·cases hx
   ·rename_i y z hs
    rw[hs]
    split at hx
    ·exact mem_cons_of_mem _ hx
    ·exact hx
  refine⟨⟨by rw[hl];exact p1,fun x hx=>?_,fun x hx=>?_,fun x hx=>?_⟩,s,r,rfl,hb,h4,h5⟩
  ·have a:=T.oI x (sub x hx)
   rw[hl]at hx
   have b:=(p2 x hx).2
   unfold ZO at a
   lia
  ·rw[hl]at hx
   rw[hb]
   rcases mem_cons.mp hx with rfl|hx
   ·exact le_refl _
   ·have:=(pairwise_cons.mp p1).1 x hx
    lia
  ·rw[hl]at hx
   have:=LZ (s:=s) p1 hx
   have e:MOST=4194304:=rfl
   rw[hb]
   lia
end MX
namespace MI
open PySem L2 Rc31
structure TG (b:List UInt8) (t:Told):Prop where
 ok:MX.qr b t
 tok:MX.wJ t
 libs:t.libraries.length≤64
 row:N1 t.laid
theorem VI {b:List UInt8} {t:Told} (h:yo b=some t):MX.qr b t∧t.libraries.length≤64:=by
 unfold yo at h
 split at h
 ·rename_i hh
  rw[G9 hh.2.2.2.2.2 (by lia) (by decide)]at h
  obtain⟨u,hu,h⟩:=oBb h
  unfold EO at h
  split at h
  ·cases h
   exact⟨MX.DY (MX.Qp b) hu,by assumption⟩
  ·cases h
 ·cases h
theorem ZP {b:List UInt8} {t:Told} {n:Nat} (h:MX.qr b t) (hl:t.libraries.length≤64) (hg:groundOk t (32+n)):TG b t:=by
 have hr:=(nu _ _).mp hg
 refine⟨h,(MX.Qq (n:=n) h ?_).1,hl,hr.1⟩
 unfold groundOk at hg
 unfold MX.L0
 cases e:t.laid with
 |nil=>rw[e]at hg;exact hg.elim
 |cons s r =>
  rw[e]at hg
  obtain⟨x1,x2,x3,x4,x5,x6,x7⟩:=hg
  exact decide_eq_true ⟨x1,x2,x3,x4,x5,x6,hl,x7⟩
theorem VJ {t:Told}:∀x∈t.laid,x∈t.segments:=by
 intro x hx
 unfold Told.laid at hx
 split at hx
 ·cases hx
 ·rename_i y z hs
  rw[hs]
  split at hx
  ·exact mem_cons_of_mem _ hx
  ·exact hx
section
variable {g:Gm} {a:Ad}
inductive Kd (a:Ad) (vs:List V) (H:Hp) (Q:VK) (E:XK):Prop
 |mk (p:Addr) (b:List UInt8) (t:Told) (k:Nat) (q0:vs=[.ref p,.int k]) (q1:Bz a H p t) (q2:TG b t) (q3:(segmentAt t k=none→E (.ref a.aE) none H)) (q4:∀n,segmentAt t k=some n→Q (.int (n:Int)) H):Kd a vs H Q E
theorem zF (T:Tx g.K g.mg a):Pr g 2 a.mj ["self","index"] (Kd a):=by
 refine Pr.on T.o3 nX fun b6 A outer s H vs Q E hr h=>?_
 obtain⟨p,b,t,k,rfl,⟨dx,ls,kH,sp,sa,la,pa,G⟩,tg,k0,k1⟩:=h
 refine⟨_,ae (az (aB T) au hr (by decide) T.aA (aH nH (pv 1) (aV aJ (by rfl) T.eO boot_len (aa (ar (pv 0) rfl) ai)) (aC _)))
  (ae (aI (i:=2) nX.nd rfl (Or.inl rfl) (fN cJ (ar (pv 0) rfl) (pv 1) (fun _ _=>rfl)))
  (ae (az (aB T) au hr (by decide) T.aA (QV (aH JB (pv 1) ak (aC _)) (ue (Uc (aU (Ha T) au hr (by decide) T.Cn (aa (pv 2) ai))))))
  (ag (aS (aO gA (ar (pv 2) rfl) (ar (pv 0) rfl)))))),?_⟩
 have hlen:=bw G.oI
 refine⟨_,rfl,_,rfl,p,_,dx,_,_,rfl,G.ob,T.bI,T.dA,pj,ls,_,rfl,.inl (bP.of G.hs),_,_,rfl,rfl,_,rfl,aw (fun c1=>?_) fun c1=>k0 ?_⟩
 ·rw[length_map,hlen]at c1
  have hk:k<t.segments.length:=by lia
  obtain⟨sg,Te⟩:∃sg,t.segments[k]?=some sg:=⟨_,getElem?_eq_getElem hk⟩
  obtain⟨x,hx,n,d,Td⟩:=oJ G.oI Te
  refine⟨_,rfl,p,_,dx,_,_,rfl,G.ob,T.bI,T.dA,pj,_,rfl,ls,_,_,_,rfl,rfl,bP.of G.hs,Q5 (j:=k) (v:=.ref x) (by rw[getElem?_map,hx];rfl),?_⟩
  have fin:¬(k=0∧t.laid.length≠t.segments.length)→sg∈t.laid→Q (V.int ((sg.at_:Int)-(t.base:Int))) H:=fun hn hm=>by
   have hge:=tg.tok.lo sg hm
   have e:(sg.at_:Int)-(t.base:Int)=((sg.at_-t.base:Nat):Int):=by lia
   rw[e]
   refine k1 _ ?_
   unfold segmentAt
   rw[IN hn,Te]
   rfl
  have last:¬(k=0∧t.laid.length≠t.segments.length)→sg∈t.laid→aar (Zn (Ui fun i j=>.int (i-j)) (KJ g.K (zS 2) "place") (KJ g.K (zS 0) "home")) {nx:=fun _ H'=>Q .dh H',rt:=Q} [some (.ref p),some (.int (k:Int)),some (.ref x)] H:=fun hn hm =>
   ⟨_,rfl,x,_,d,_,_,rfl,Td,T.aG,T.aX,bQ,_,rfl,p,_,dx,_,_,rfl,G.ob,T.bI,T.cH,lH,_,_,rfl,rfl,fin hn hm⟩
  refine⟨_,rfl,_,_,rfl,rfl,_,rfl,?_⟩
  cases hs:t.segments with
  |nil=>rw[hs]at hk;simp at hk
  |cons s0 r0 =>
   have el:t.laid=if s0.raw=0∧s0.rights=0 then r0 else s0::r0:=by
    rw[RB,hs]
    rfl
   cases k with
   |succ k =>
    refine aw (fun _=>⟨_,rfl,iE (last (fun z=>by cases z.1) ?_)⟩) fun c=>absurd (by lia) c
    have hm:sg∈r0:=by
     rw[hs]at Te
     exact mem_of_getElem? (by simpa using Te)
    rw[el]
    split
    ·exact hm
    ·exact mem_cons_of_mem _ hm
   |zero =>
    obtain rfl:sg=s0:=by
     rw[hs]at Te
     simpa using Te.symm
    refine aw (fun c=>absurd c (by lia)) fun _=>⟨_,rfl,x,sg,n,rfl,⟨d,Td⟩,_,rfl,_,rfl,?_⟩
    by_cases hb:sg.raw=0∧sg.rights=0
    ·rw[show bare sg=true from decide_eq_true hb]
     refine eA (k0 ?_)
     unfold segmentAt
     rw[iPp ⟨rfl,by rw[el,iPp hb,hs];simp⟩]
    ·rw[show bare sg=false from decide_eq_false hb]
     rw[IN hb]at el
     exact iE (last (fun z=>z.2 (by rw[el,hs])) (by rw[el];exact mem_cons_self))
 ·rw[length_map,hlen]at c1
  unfold segmentAt
  split
  ·rfl
  ·rw[getElem?_eq_none (by lia)]
   rfl
inductive Hi (a:Ad) (vs:List V) (H:Hp) (Q:VK) (E:XK):Prop
 |mk (p ls ll:Addr) (b:List UInt8) (n:Nat) (t:Told) (q0:vs=[.ref p]) (q1:kQ a H p ls ll b (32+n) t) (q2:MX.qr b t) (q3:t.libraries.length≤64) (q4:(¬groundOk t (32+n)→∀H',ax H H'→E (.ref a.aE) none H')) (q5:(groundOk t (32+n)→∀x H',Bz a H' x t→H x=none→ax H H'→Q (.ref x) H')):Hi a vs H Q E
theorem L1 (T:Tx g.K g.mg a):Pr g 4 a.Cf ["contents"] (Hi a):=by
 refine Pr.on T.DA Am fun b6 A outer s H vs Q E hr h=>?_
 obtain⟨p,ls,ll,b,n,t,rfl,C,cG,Qe,k0,k1⟩:=h
 obtain⟨dx,bg,pt,sa,la,as,D⟩:=id C
 refine⟨_,ae (aI (i:=1) Am.nd rfl (Or.inl rfl) (aU (Qm T) au hr (by decide) T.JX (aa (ar (pv 0) rfl) ai)))
  (ae (aR (aU (LU T) au hr (by decide) T.Dz (aa (pv 1) ai)))
  (ae (aR (aU (He T) au hr (by decide) T.xP (aa (fN cJ (pv 1) ak (fun _ _=>rfl)) (aa (pv 0) ai))))
  (ag (aS (kT (Hf T) T.wG au hr (by decide) T.M3 (aa (ar (pv 0) rfl) (aa (pv 1) ai))))))),?_⟩
 refine⟨_,rfl,p,_,dx,_,_,rfl,D.ob,T.aM,T.b8,jf,ls,sa,_,rfl,D.hs,D.oI,fun l lla H1 nl E7 RF s1=>?_⟩
 rw[←RB]at RF
 have D1:=D.same s1
 refine⟨_,rfl,l,lla,_,rfl,E7,RF,fun Qr=>?_,fun Qr=>k0 (fun z=>Qr ((nu _ _).mp z).1) _ s1⟩
 obtain⟨s0,r0,e0⟩:∃s0 r0,t.laid=s0::r0:=by
  cases h:t.laid with
  |nil=>rw[h]at Qr;exact Qr.elim
  |cons s r=>exact⟨s,r,rfl⟩
 obtain⟨x0,NU,n0,q0⟩:=oJ RF (i:=0) (y:=s0) (by rw[e0];rfl)
 refine⟨_,rfl,l,_,_,_,rfl,rfl,bP.of E7,at_of (j:=0) rfl (by rw[getElem?_map,NU];rfl),_,rfl,x0,p,ls,ll,s0,n0,b,32+n,t,rfl,q0,⟨dx,bg,pt,sa,la,as,D1⟩,fun Qs=>?_,fun Qs=>k0 (fun z=>Qs (((nu _ _).mp z).2 s0 r0 e0)) _ s1⟩
 have hg:groundOk t (32+n):=(nu _ _).mpr ⟨Qr,fun s r e=>by rw[e0]at e;cases e;exact Qs⟩
 have tg:=ZP cG Qe hg
 refine⟨_,rfl,p,_,dx,_,_,rfl,D1.ob,T.aM,T.b8,jf,_,rfl,fun x d nx nd nex=>?_⟩
 have s2:ax H1 (upd (upd H1 d (.own x)) x (.ins a.c9 d [])):=fun y o e=>by
  rw[aj (aq e nx),aj (aq e nd)]
  exact e
 refine⟨x,d,ls,l,sa,lla,t,rfl,D.fresh l nl,af,s2 _ _ D1.hs,D1.oI.same s2,s2 _ _ E7,RF.same s2,by rw[e0];simp,?_,fun s hs=>(cG.oI s (VJ s hs)).2.2.2.2.2,?_,fun H3 G3 k3=>⟨rfl,k1 hg x H3 G3 (s1.free nx) (s1.trans (ax.tS nx nd k3))⟩⟩
 ·rw[e0]at Qr ⊢
  exact Qr.1
 ·have HP:t.laid≠[]:=by rw[e0];simp
  have hm:t.laid.getLast HP∈t.laid:=List.getLast_mem HP
  have:=tg.tok.lo _ hm
  rw[List.getLast?_eq_getLast HP]
  simp
  lia
end
end MI
namespace L2
open PySem PySem.Spec PyProof.Rows
section
variable {X:Cx}
theorem VL:zP X (binaryOp .FloorDiv) (rI (fun _ j=>0<j∧j<2^64) fun i j=>.int (i/j)):=opI fun i j _ _ _ _ _ hc q=>by
 have h1:(0:Int)<j:=hc.1
 have h2:j<2^64:=hc.2
 refine floordiv_int (by lia) (by rw[Int.fdiv_eq_ediv_of_nonneg i (by lia)];exact q) (.inl (PyProof.noPylong_of_log2 ?_))
 have h3:j.natAbs<2^64:=by lia
 have h4:j.natAbs≠0:=by lia
 exact lt_trans ((Nat.log2_lt h4).mpr h3) (by decide)
theorem L3:oV X (.builtin "sorted") (fun vs H Q=>∃(a:Addr) (ns:List Int),vs=[V.ref a]∧bP X.K H a (ns.map V.int) ∧
 ∀(ES:List Int) (p:Addr),ES.Perm ns→ES.Pairwise (·≤·)→H p=none→Q (.ref p) (upd H p (.lst (ES.map V.int)))):=by
 intro pp s σ H vs us Q I r h
 obtain⟨a,ns,rfl,hs,q⟩:=h
 obtain⟨bu,rv,hl,hz⟩:=I.list hs
 rw[Vals.Xp r]
 have hi:=rv.ints
 have hlen:=rv.length
 refine PyProof.Rows.sorted_intsAny hl.isList hi (by rw[←hlen];exact hz) fun out ES h1 h2 h3=>?_
 obtain⟨ep,he'⟩:=PyProof.Rows.sortedAll_at s.heap bu out
 have hlen:(ES.map V.int).length≤sizeLine:=by rw[length_map,h2.length_eq];rw[length_map]at hz;exact hz
 exact⟨.ref _,upd H (s.heap.objs.size+1) (.lst (ES.map V.int)),I.laid (t':=s.toks) (fun _ _=>PyProof.Rows.sortedAll_old) (Nat.le_succ _) ⟨hlen,out.toList,ep,zZ h1,he'⟩,rfl,q ES _ h2 h3 (I.cG.fresh (Nat.le_succ _))⟩
def RgO (i j c:Int) (r:Addr):HO:=.ext fun h=>∃t u v,IsRange h r i j c t u v
def ahW (ta:TA):TE:=fun σ H Q=>ta σ H fun vs H1=>∃i j c:Int,vs=[.int i,.int j,.int c]∧c≠0∧c.natAbs<1073741824∧∀r,H1 r=none→Q (.ref r) (upd H1 r (RgO i j c r))
theorem Tg {a b c:Expr} {ta:TA} {p pos:Pos} (hg:Gl X "range") (hm:X.mg "range" = none) (ha:PA X [a,b,c] ta)
 (hs:starEach [a,b,c] X.env=(false,eval a X.env)::starEach [b,c] X.env:=by rfl) (oM:(backTo pos (starEach [b,c] X.env)).any (·.1)=false:=by rfl) :
 PE X (.Call (.Name "range" p) [a,b,c] [] pos) (ahW ta):=by
 intro pp s σ H Q I h
 refine wpAny_Call_Name_kw (rB I hg hm boot_range (PyProof.Rows.callWith_type1 (dq (ha pos pp s σ H _ I h) fun us s1 ⟨vs,H1,I1,r1,q1⟩=>?_) hs oM))
 obtain⟨i,j,k,e,c0,c1,q⟩:=q1
 subst e
 cases r1 with
 |cons r rr =>
  cases rr with
  |cons r' rr =>
   cases rr with
   |cons r'' rr =>
    cases rr
    obtain⟨t,rfl⟩:=r
    obtain⟨t',rfl⟩:=r'
    obtain⟨t'',rfl⟩:=r''
    refine call_range_3 c0 ?_ (.inl (PyProof.noPylong_small c1))
    have hn:IsRange (s1.heap.push {cls:=.type "range",data:=.fields #[.int i t,.int j t',.int k t'']}) s1.heap.objs.size i j k t t' t'':=IsRange.new ..
    refine⟨.ref s1.heap.objs.size,_,I1.laid (o:=RgO i j k s1.heap.objs.size) (t':=s1.toks) (fun b o e=>Heap.get?_push_of_some _ e) (le_refl _) ⟨⟨t,t',t'',hn⟩,⟨_,hn⟩,fun h1 h2 ⟨t,u,v,e⟩ k=>⟨t,u,v,k _ e⟩⟩,rfl,q _ (I1.cG.fresh (le_refl _))⟩
theorem L4 (hc:X.calm=true):oV X (.type "list") (fun xs H Q=>∃(r:Addr) (i j c:Int) (n:Nat),xs=[.ref r]∧H r=some (RgO i j c r)∧Builtin.Range.small i j c=true∧Builtin.Range.rangeSize i j c=n∧n≤2^24 ∧
 ∀l,H l=none→Q (.ref l) (upd H l (.lst (((range n).map fun(k:Nat)=>i+(k:Int)*c).map V.int)))):=by
 intro pp s σ H xs us Q I r h
 obtain⟨ra,i,j,c,n,rfl,hr,hs,hn,hz,q⟩:=h
 rw[Vals.Xp r]
 obtain⟨⟨t,u,v,hx⟩,_⟩:=I.cG ra _ hr
 refine call_list_range (I.ok.hd hc) hx hs hn hz fun h' tk Ys c' hk e hi=>?_
 have rv:Vals (((range n).map fun(k:Nat)=>i+(k:Int)*c).map V.int) Ys.toList:=by
  obtain⟨h1,h2⟩:=hi
  have aux:∀(xs:List V) (us:List Value),xs.length=us.length→(∀(k:Nat) (x:V) (w':Value),xs[k]?=some x→us[k]?=some w'→RelV x w')→Vals xs us:=by
   intro xs
   induction xs with
   |nil=>intro us hl _;cases us with|nil=>exact .nil|cons _ _=>simp at hl
   |cons x xs ih =>
    intro us hl hr
    cases us with
    |nil=>simp at hl
    |cons w' us=>exact .cons (hr 0 x w' rfl rfl) (ih us (by simpa using hl) fun k x' w'' e1 e2=>hr (k+1) x' w'' (by simpa using e1) (by simpa using e2))
  refine aux _ _ (by simp[h1]) fun k x w' e1 e2=>?_
  obtain⟨t',rfl⟩:=h2 k w' (by simpa using e2)
  rw[getElem?_map,getElem?_map]at e1
  cases q:(range n)[k]? with
  |none=>rw[q]at e1;cases e1
  |some m =>
   rw[q]at e1
   have em:m=k:=by
    obtain⟨hk',e'⟩:=List.getElem?_eq_some_iff.mp q
    simpa using e'.symm
   subst em
   obtain rfl:V.int (i+(m:Int)*c)=x:=Option.some.inj e1
   exact⟨t',rfl⟩
 exact⟨.ref s.heap.objs.size,_,I.laid (t':=tk) hk (le_refl _) (show eZ X.prog X.w _ h' _ (.lst _) from ⟨by rw[length_map,length_map,length_range];exact hz,Ys.toList,c',rv,by simpa using e⟩),rfl,q _ (I.cG.fresh (le_refl _))⟩
end
end L2
namespace MI
open PySem L2
def pM (a:Ad) (H:Hp) (x:Addr) (p:Int) (c:Nat) (s:Int):Prop:=∃dx,H x=some (.ins a.tF dx (xX (.int p) (.int (c:Int)) (.int s)))
theorem pM.same {a:Ad} {H H':Hp} {x:Addr} {p:Int} {c:Nat} {s:Int} (h:pM a H x p c s) (k:ax H H'):pM a H' x p c s:=by
 obtain⟨d,e⟩:=h
 exact⟨d,k _ _ e⟩
abbrev Big (s:Int):Prop:=-(2^64)<s∧s<2^64
section
variable {g:Gm} {a:Ad}
inductive Ke (a:Ad) (vs:List V) (H:Hp) (Q:VK) (E:XK):Prop
 |mk (x dx:Addr) (p s:Int) (c:Nat) (q0:vs=[.ref x,.int p,.int c,.int s]) (q1:H x=some (.ins a.tF dx [])) (q2:∀H',pM a H' x p c s→Kp (At x) H H'→Q .dh H'):Ke a vs H Q E
theorem N3 (T:Tx g.K g.mg a):Pr g 1 a.FW ["self","place","count","stride"] (Ke a):=by
 refine Pr.on T.F2 MT fun b6 A outer s H vs Q E hr h=>?_
 obtain⟨x,dx,p,s,c,rfl,hx,k⟩:=h
 refine⟨_,ae (aT (pv 0) (pv 1) rfl)
  (ae (aT (pv 0) (pv 2) rfl)
  (ag (aT (pv 0) (pv 3) rfl))),?_⟩
 refine⟨_,rfl,_,rfl,x,_,dx,_,rfl,hx,T.dU,T.gD,(by show 0<1000;decide),_,rfl,_,rfl,x,_,dx,_,rfl,af,T.dU,T.cK,pl1,_,rfl,_,rfl,x,_,dx,_,rfl,af,T.dU,T.dY,pl2,?_⟩
 rw[bN,bN,Vb]
 exact k _ ⟨dx,af⟩ (Kp.upd (.inl rfl))
inductive yr (a:Ad) (vs:List V) (H:Hp) (Q:VK) (E:XK):Prop
 |mk (x:Addr) (p s k:Int) (c:Nat) (q0:vs=[.ref x,.int k]) (q1:pM a H x p c s) (q2:Big s) (q3:Q (.int (p+s*k)) H):yr a vs H Q E
theorem iA (T:Tx g.K g.mg a):Pr g 1 a.jP ["self","k"] (yr a):=by
 refine Pr.on T.mw uH fun b6 A outer s H vs Q E hr h=>?_
 obtain⟨x,p,s,kk,c,rfl,⟨d,hx⟩,hb,k⟩:=h
 refine⟨_,ag (aS (aO cq (ar (pv 0) rfl) (aO yC (ar (pv 0) rfl) (pv 1)))),?_⟩
 exact⟨_,rfl,x,_,d,_,_,rfl,hx,T.dU,T.gD,vn,_,rfl,x,_,d,_,_,rfl,hx,T.dU,T.dY,m8,_,rfl,_,_,rfl,rfl,.inl hb,_,_,rfl,rfl,k⟩
inductive N4 (a:Ad) (vs:List V) (H:Hp) (Q:VK) (E:XK):Prop
 |mk (x:Addr) (p s:Int) (c:Nat) (q0:vs=[.ref x]) (q1:pM a H x p c s) (q2:Big s) (q3:Q (.int (MX.low p s c)) H):N4 a vs H Q E
theorem Jg (T:Tx g.K g.mg a):Pr g 2 a.yO ["self"] (N4 a):=by
 refine Pr.on T.Ap Ia fun b6 A outer s H vs Q E hr h=>?_
 obtain⟨x,p,s,c,rfl,⟨d,hx⟩,hb,k⟩:=h
 refine⟨_,ag (aS (aV (JC rfl) (by rfl) T.U9 PyProof.Rows.boot_min (aa (ar (pv 0) rfl) (aa (cN (pv 0) (iA T) T.dU T.fR au hr (by decide) (aa (aO gA (ar (pv 0) rfl) ak) ai)) ai)))),?_⟩
 refine⟨_,rfl,x,_,d,_,_,rfl,hx,T.dU,T.gD,vn,_,rfl,x,d,_,rfl,hx,gH,_,rfl,x,_,d,_,_,rfl,hx,T.dU,T.cK,gx,_,_,rfl,rfl,x,p,s,_,c,rfl,⟨d,hx⟩,hb,_,_,rfl,?_⟩
 have e:(if p+s*((c:Int)-1)<p then p+s*((c:Int)-1) else p)=MX.low p s c:=by
  unfold MX.low
  split<;>lia
 rw[←e]at k
 exact k
inductive Hj (vs:List V) (H:Hp) (Q:VK) (E:XK):Prop
 |mk (c b:Nat) (q0:vs=[.int c,.int b]) (q1:Q (.int (MX.aD c b)) H):Hj  vs H Q E
theorem L5 (T:Tx g.K g.mg a):Pr g 1 a.Ca ["count","between"] Hj:=by
 refine Pr.on T.Dr Ai fun b6 A outer s H vs Q E hr h=>?_
 obtain⟨c,b,rfl,k⟩:=h
 refine⟨_,ae (dt (bH nH (pv 0) ak (aC _)) (ag (aS (pk T.mr))) gz)
  (ae (aI (i:=2) Ai.nd rfl (Or.inl rfl) (aO jJ (aO cq (pk T.mr) (pv 1)) (pk T.gU)))
  (ag (aS (Fp (bH nH (pv 2) (aO KH (pk T.gU) ak) (aC _)) (pv 2) (aO gA (pv 2) (pk T.gU)))))),?_⟩
 unfold MX.aD at k
 refine⟨_,rfl,_,_,rfl,rfl,_,rfl,aw (fun c1=>?_) fun c1=>?_⟩
 ·rw[iPp (by lia)]at k
  exact k
 ·rw[IN (by lia)]at k
  refine⟨_,rfl,_,_,rfl,rfl,_,_,rfl,rfl,(by show(0:Int)<18446744073709551616;decide),?_⟩
  have e:((8:Int)+(b:Int))%18446744073709551616=(((8+b)%Rc31.W64:Nat):Int):=by
   rw[MX.gX]
   lia
  rw[←e]at k
  generalize hv:((8:Int)+(b:Int))%18446744073709551616=v at k
  refine⟨_,rfl,_,_,rfl,rfl,⟨by decide,by decide⟩,_,_,rfl,rfl,_,rfl,?_⟩
  show if decide (v<18446744073709551616/2)=true then _ else _
  generalize hq:decide (v<18446744073709551616/2)=q
  refine dm (fun c2=>?_) fun c2=>?_
  ·have c2:=of_decide_eq_true (hq.trans c2)
   rw[iPp (by lia)]at k
   exact⟨_,rfl,k⟩
  ·have c2:=of_decide_eq_false (hq.trans c2)
   rw[IN (by lia)]at k
   exact⟨_,rfl,_,_,rfl,rfl,k⟩
inductive VM (a:Ad) (vs:List V) (H:Hp) (Q:VK) (E:XK):Prop
 |mk (x:Addr) (p s b:Int) (c:Nat) (q0:vs=[.ref x,.int b]) (q1:pM a H x p c s) (q2:Big s) (q3:s≠0) (q4:Q (.int (MX.upTo p s c b)) H):VM a vs H Q E
theorem vX (T:Tx g.K g.mg a):Pr g 3 a.uR ["run","bound"] (VM a):=by
 refine Pr.on T.xH FT fun b6 A outer s H vs Q E hr h=>?_
 obtain⟨x,p,s,b,c,rfl,⟨d,hx⟩,hb,h0,k⟩:=h
 refine⟨_,ag (aS (aV (Sf rfl) (by rfl) T.ZH PyProof.Rows.boot_max (aa ak (aa (aV (JC rfl) (by rfl) T.U9 PyProof.Rows.boot_min (aa (ar (pv 0) rfl) (aa (aO cq (aO VL (aO gA (pv 1) (a7 (pv 0) (Jg T) T.dU T.AI au hr (by decide))) (aV ME (by rfl) T.U7 PyProof.Rows.boot_abs (aa (ar (pv 0) rfl) ai))) ak) ai))) ai)))),?_⟩
 refine⟨_,rfl,x,_,d,_,_,rfl,hx,T.dU,T.cK,gx,_,rfl,_,rfl,x,d,_,rfl,hx,Et,x,p,s,c,rfl,⟨d,hx⟩,hb,_,_,rfl,rfl,_,rfl,x,_,d,_,_,rfl,hx,T.dU,T.dY,m8,_,rfl,_,_,rfl,rfl,?_,_,_,rfl,rfl,_,_,rfl,_,_,rfl,?_⟩
 ·show 0<(if s<0 then -s else s)∧(if s<0 then -s else s)<2^64
  obtain⟨b1,b2⟩:=hb
  split<;>lia
 ·have e1:(if s<0 then -s else s)=(s.natAbs:Int):=by split<;>lia
  show Q (V.int (if (if (b-MX.low p s c)/(if s<0 then -s else s)+1<(c:Int) then(b-MX.low p s c)/(if s<0 then -s else s)+1 else(c:Int))>0 then(if (b-MX.low p s c)/(if s<0 then -s else s)+1<(c:Int) then(b-MX.low p s c)/(if s<0 then -s else s)+1 else(c:Int)) else 0)) H
  rw[e1]
  unfold MX.upTo at k
  have e2:∀y:Int,(if (if y<(c:Int) then y else(c:Int))>0 then(if y<(c:Int) then y else(c:Int)) else 0)=max 0 (min (c:Int) y):=by
   intro y
   split<;>split<;>lia
  rw[e2]
  exact k
inductive Hk (a:Ad) (vs:List V) (H:Hp) (Q:VK) (E:XK):Prop
 |mk (x y:Addr) (p s:Int) (sp:Int×Int) (c:Nat) (q0:vs=[.ref x,.ref y]) (q1:pM a H x p c s) (q2:Big s) (q3:s≠0) (q4:H y=some (.tup [.int sp.1,.int sp.2])) (q5:Q (.int (MX.vV p s c sp)) H):Hk a vs H Q E
theorem ET (T:Tx g.K g.mg a):Pr g 4 a.rT ["run","span"] (Hk a):=by
 refine Pr.on T.u0 Ek fun b6 A outer s H vs Q E hr h=>?_
 obtain⟨x,y,p,s,sp,c,rfl,hx,hb,h0,hy,k⟩:=h
 refine⟨_,ag (aS (aO gA (aU (vX T) au hr (by decide) T.qa (aa (pv 0) (aa (aO gA (fN OW (pv 1) ak (fun _ _=>rfl)) (pk T.mr)) ai))) (aU (vX T) au hr (by decide) T.qa (aa (pv 0) (aa (aO gA (fN OW (pv 1) ak (fun _ _=>rfl)) ak) ai))))),?_⟩
 refine⟨_,rfl,_,rfl,y,_,_,_,rfl,rfl,tV.of hy,at_of (j:=1) rfl rfl,_,_,rfl,rfl,x,p,s,_,c,rfl,hx,hb,h0,_,rfl,_,rfl,y,_,_,_,rfl,rfl,tV.of hy,at_of (j:=0) rfl rfl,_,_,rfl,rfl,x,p,s,_,c,rfl,hx,hb,h0,_,_,rfl,rfl,k⟩
end
open Rc31
theorem RG {σ:St} {H:Hp} {A B:Hp→Prop} (h:A H):aaP σ H (fun b H3=>if b=true then A H3 else B H3):=iE (B:=B H) h
theorem N5 (t:Told):dE t.base t.laid=MX.dE t:=rfl
theorem Qt (c b:Nat):Big (MX.aD c b):=by
 unfold MX.aD
 have h:(8+b)%W64<W64:=mod_lt _ (by decide)
 rw[MX.gX]at *
 generalize (8+b)%18446744073709551616=m at *
 split
 ·exact⟨by decide,by decide⟩
 ·split<;>exact⟨by lia,by lia⟩
def t8 (t:Told) (n p skip:Nat):Option (List Nat×Nat):=if n≤65536∧8≤(MX.aD n skip).natAbs then Rc31.row t n p skip else none
section
variable {g:Gm} {a:Ad}
inductive RH (a:Ad) (vs:List V) (H:Hp) (Q:VK) (E:XK):Prop
 |mk (gr:Addr) (b:List UInt8) (t:Told) (p n skip:Nat) (q0:vs=[.ref gr,.int p,.int n,.int skip]) (q1:Bz a H gr t) (q2:TG b t) (q3:p<W64) (q4:(t8 t n p skip=none→∀H',ax H H'→E (.ref a.aE) none H')) (q5:∀y,t8 t n p skip=some y→∀x H',pM a H' x p n (MX.aD n skip)→H x=none→ax H H'→Q (.ref x) H'):RH a vs H Q E
theorem Th (T:Tx g.K g.mg a):Pr g 5 a.Pc ["ground","place","count","between"] (RH a):=by
 refine Pr.on T.MW wD fun b6 A outer s H vs Q E hr h=>?_
 obtain⟨gr,b,t,p,n,skip,rfl,G,tg,hp,k0,k1⟩:=h
 refine⟨_,ae (az (aB T) au hr (by decide) T.aA (aH iO (pv 2) (pk T.AQ) (aC _)))
  (ae (aI (i:=4) wD.nd rfl (Or.inr rfl) (kT (N3 T) T.K7 au hr (by decide) T.ZG (aa (pv 1) (aa (pv 2) (aa (aU (L5 T) au hr (by decide) T.Ds (aa (pv 2) (aa (pv 3) ai))) ai)))))
  (ae (az (aB T) au hr (by decide) T.aA (aH zV (aV ME (by rfl) T.U7 PyProof.Rows.boot_abs (aa (ar (pv 4) rfl) ai)) (pk T.mr) (aC _)))
  (ae (az (aB T) au hr (by decide) T.aA (aH b7 (aV (O1 rfl) (by rfl) T.Ro PyProof.Rows.boot_sum (aa (CK (te:=Fy (Hk a) [] E (Di (zS 4) (Di (zS 5) HX))) J9 rfl wD.nd (lA (ar (pv 0) rfl)) (nJ (N:=["ground","place","count","between","run","span"]) (sc:=ao Ah) (own:=[("span",5)]) (by decide +kernel)) (fun _ _ _ _ _ _=>dJ (i:=5) wD.nd rfl (Or.inl rfl)) (fun _ _ _ _ _ _ _=>Aa) (fun _ _ _ _ _ _ pass=>aU (ET T) pass hr (by decide) T.u1 (aa (pv 4) (aa (pv 5) ai)))) ai)) (pv 2) (aC _)))
  (ag (aS (pv 4)))))),?_⟩
 have fail:∀{H':Hp},ax H H'→¬(n≤65536∧8≤(MX.aD n skip).natAbs)→E (.ref a.aE) none H':=fun{H'} s z=>k0 (by unfold t8;rw[IN z]) _ s
 refine⟨_,rfl,_,_,rfl,rfl,_,rfl,?_⟩
 generalize Ym:decide ((n:Int)≤65536)=b1
 refine dm (fun c1=>?_) fun c1=>fail (ax.refl _) fun z=>of_decide_eq_false (Ym.trans c1) (by have:=z.1;lia)
 have c1:=of_decide_eq_true (Ym.trans c1)
 refine⟨_,rfl,_,rfl,_,rfl,_,rfl,n,skip,rfl,fun x d nx nd nex=>⟨x,d,_,_,n,rfl,af,fun H1 Yq k1'=>⟨rfl,?_⟩⟩⟩
 have s1:ax H H1:=ax.tS nx nd k1'
 obtain⟨d1,Td⟩:=id Yq
 have abW:=Qt n skip
 refine⟨_,rfl,x,_,d1,_,_,rfl,Td,T.dU,T.dY,m8,_,rfl,_,_,rfl,rfl,_,rfl,?_⟩
 have ahY:(if MX.aD n skip<0 then -MX.aD n skip else MX.aD n skip)=((MX.aD n skip).natAbs:Int):=by split<;>lia
 show if decide ((8:Int)≤(if MX.aD n skip<0 then -MX.aD n skip else MX.aD n skip))=true then _ else _
 rw[ahY]
 refine aw (fun c2=>?_) fun c2=>fail s1 fun z=>c2 (by have:=z.2;lia)
 have cG:n≤65536∧8≤(MX.aD n skip).natAbs:=⟨by lia,by lia⟩
 have eR:t8 t n p skip=Rc31.row t n p skip:=by unfold t8;rw[iPp cG]
 have hs0:MX.aD n skip≠0:=by
  intro z
  have:=cG.2
  rw[z]at this
  simp at this
 obtain⟨dx,ls,kH,sp,sa,la,pa,G1⟩:=G.same s1
 refine⟨_,rfl,gr,_,dx,_,_,rfl,G1.ob,T.bI,T.gP,Ge,sp,rfl,⟨_,bP.of G1.hp⟩,fun D hD=>?_⟩
 have hlen:=bw G1.spans
 refine Ac (K:=g.K) (a:=sp) (xs:=pa.map V.ref) (fun i H4=>H4 D=some (.lst ((((dE t.base t.laid).take i).map (MX.vV (p:Int) (MX.aD n skip) n)).map V.int))∧ax H1 H4) ⟨af,ax.upd hD⟩ (fun i H4 _ ⟨_,s4⟩=>bP.of (s4 _ _ G1.hp)) ?_ ?_
 ·rintro i y H4 hi ⟨RI,s4⟩
  obtain⟨y,hy,rfl⟩:=pJ hi
  obtain⟨q,hq,hyy⟩:=rg G1.spans hy
  refine⟨rfl,RG ?_⟩
  refine⟨_,rfl,_,rfl,x,y,_,_,q,n,rfl,Yq.same s4,abW,hs0,s4 _ _ hyy,_,RI,?_,?_,?_⟩
  ·rw[length_map,length_map,length_take]
   refine lt_of_le_of_lt (Nat.min_le_right _ _) ?_
   unfold dE
   rw[length_map]
   refine lt_of_le_of_lt (List.length_filter_le _ _) ?_
   have:=tg.row
   cases hl:t.laid with
   |nil=>decide
   |cons s0 r0 =>
    rw[hl]at this
    exact lt_of_le_of_lt this.1 (by decide)
  ·rw[af,take_succ,hq,map_append,map_append]
   rfl
  ·intro z o e
   rw[aj (aq e hD)]
   exact s4 _ _ e
 ·rintro H4 ⟨RI,s4⟩
  rw[length_map,hlen,take_of_length_le (le_refl _)]at RI
  refine⟨D,_,rfl,bP.of RI,_,rfl,rfl,_,rfl,aw (fun c3=>?_) fun c3=>?_⟩
  ·have c3:=bp c3
   rw[N5]at c3
   have hy:=(MX.Yr tg.tok hp hs0 c3).1
   exact⟨_,rfl,k1 _ (eR.trans hy) x H4 (Yq.same s4) nx (s1.trans s4)⟩
  ·have c3:=br c3
   rw[N5]at c3
   exact k0 (eR.trans (MX.LY tg.tok hp hs0 c3)) _ (s1.trans s4)
end
end MI
namespace MX
open Rc31
theorem zG:∀{f:Nat} {b:Bytes} {x:Nat×Bytes},sevens f b=some x→x.2.length<b.length
 |0,_,_,h=>by simp[sevens]at h
 |f+1,[],_,h=>by simp[sevens]at h
 |f+1,c::r,x,h=>by
  unfold sevens at h
  split at h
  ·cases h;simp
  ·obtain⟨y,hy,rfl⟩:=oMm h
   have:=zG hy
   simp only[length_cons]
   lia
theorem bh {b:Bytes} {x:Nat×Bytes} (h:uleb b=some x):x.2.length<b.length∧x.1<W64:=by
 unfold uleb at h
 obtain⟨y,hy,h⟩:=oBb h
 split at h
 ·cases h;exact⟨zG hy,by assumption⟩
 ·cases h
theorem Hl {b:Bytes} {x:Nat×Bytes} (h:sleb b=some x):x.2.length<b.length:=by
 unfold sleb at h
 obtain⟨y,hy,h⟩:=oBb h
 cases h
 exact(zG hy:y.2.length<b.length)
theorem vY {b:Bytes} {x:Bytes×Bytes} (h:textIn b=some x):x.2.length<b.length:=by
 unfold textIn at h
 dsimp only at h
 split at h
 ·rename_i hc
  cases h
  simp only[length_drop]
  lia
 ·cases h
def RJ (t:Told) (s:Now) (n skip:Nat) (r:Bytes):Option (List Nat×Now×Bytes) :=
 if s.placed=false∨s.typed=false∨COUNT<n then none else(row t n s.place skip).map fun x=>(x.1,{s with place:=x.2},r)
def fO (t:Told) (s:Now) (op cx:Nat) (r:Bytes):Option (List Nat×Now×Bytes) :=
 if op=1 then(if cx=1 then some ([],{s with typed:=true},r) else none)
 else if op=2 then(uleb r).bind fun x=>(segmentAt t cx).map fun a=>([],{s with place:=(a+x.1)%W64,placed:=true},x.2)
 else if op=3 then(if cx≠0 then none else(uleb r).map fun x=>([],{s with place:=(s.place+x.1)%W64},x.2))
 else if op=4 then some ([],{s with place:=(s.place+8*cx)%W64},r)
 else if op=5 then RJ t s cx 0 r
 else if op=6 then(if cx≠0 then none else(uleb r).bind fun x=>RJ t s x.1 0 x.2)
 else if op=7 then(if cx≠0 then none else(uleb r).bind fun x=>RJ t s 1 x.1 x.2)
 else if op=8 then(if cx≠0 then none else(uleb r).bind fun x=>(uleb x.2).bind fun y=>RJ t s x.1 y.1 y.2)
 else none
theorem E8 {t:Told} {s:Now} {n skip:Nat} {r:Bytes} {y:List Nat×Now×Bytes} (h:RJ t s n skip r=some y):y.2.2=r:=by
 unfold RJ at h
 split at h
 ·cases h
 ·obtain⟨x,_,rfl⟩:=oMm h
  rfl
theorem Kf {t:Told} {s:Now} {op cx:Nat} {r:Bytes} {y:List Nat×Now×Bytes} (h:fO t s op cx r=some y):y.2.2.length≤r.length:=by
 unfold fO at h
 split at h
 ·split at h
  ·cases h;exact le_refl _
  ·cases h
 split at h
 ·obtain⟨x,hx,h⟩:=oBb h
  obtain⟨a,_,rfl⟩:=oMm h
  exact le_of_lt (bh hx).1
 split at h
 ·split at h
  ·cases h
  ·obtain⟨x,hx,rfl⟩:=oMm h
   exact le_of_lt (bh hx).1
 split at h
 ·cases h;exact le_refl _
 split at h
 ·rw[E8 h];exact le_refl _
 split at h
 ·split at h
  ·cases h
  ·obtain⟨x,hx,h⟩:=oBb h
   rw[E8 h];exact le_of_lt (bh hx).1
 split at h
 ·split at h
  ·cases h
  ·obtain⟨x,hx,h⟩:=oBb h
   rw[E8 h];exact le_of_lt (bh hx).1
 split at h
 ·split at h
  ·cases h
  ·obtain⟨x,hx,h⟩:=oBb h
   obtain⟨z,hz,h⟩:=oBb h
   rw[E8 h]
   have:=(bh hx).1
   have:=(bh hz).1
   lia
 ·cases h
theorem zH (t:Told) (f:Nat) (s:Now) (c:UInt8) (r:Bytes) (h0:c≠0):mends t (f+1) s (c::r)=(fO t s (c.toNat/16) (c.toNat%16) r).bind fun y=>(mends t f y.2.1 y.2.2).map fun l=>y.1++l:=by
 have hc:¬(c.toNat/16=0∧c.toNat%16=0):=by
  intro q
  apply h0
  have:c.toNat=0:=by lia
  exact toNat_inj.mp this
 have Yt:∀n skip r',(if s.placed=false∨s.typed=false∨COUNT<n then none else(row t n s.place skip).bind fun x=>(mends t f {s with place:=x.2} r').map fun l=>x.1++l)=(RJ t s n skip r').bind fun y=>(mends t f y.2.1 y.2.2).map fun l=>y.1++l:=by
  intro n skip r'
  unfold RJ
  split
  ·rfl
  ·cases row t n s.place skip<;>rfl
 rw[mends]
 unfold fO
 by_cases h:c.toNat/16=0
 ·rw[iPp h,IN (fun q=>hc ⟨h,q.1⟩),IN (by lia),IN (by lia),IN (by lia),IN (by lia),IN (by lia),IN (by lia),IN (by lia),IN (by lia)]
  rfl
 rw[IN h]
 by_cases h1:c.toNat/16=1
 ·rw[iPp h1,iPp h1]
  split
  ·simp
  ·rfl
 rw[IN h1,IN h1]
 by_cases h2:c.toNat/16=2
 ·rw[iPp h2,iPp h2]
  cases uleb r with
  |none=>rfl
  |some x =>
   simp only[bind_some]
   cases segmentAt t (c.toNat%16) with
   |none=>rfl
   |some a=>simp
 rw[IN h2,IN h2]
 by_cases h3:c.toNat/16=3
 ·rw[iPp h3,iPp h3]
  split
  ·rfl
  ·cases uleb r<;>simp
 rw[IN h3,IN h3]
 by_cases h4:c.toNat/16=4
 ·rw[iPp h4,iPp h4]
  simp
 rw[IN h4,IN h4]
 by_cases h5:c.toNat/16=5
 ·rw[iPp h5,iPp h5]
  exact Yt _ _ _
 rw[IN h5,IN h5]
 by_cases h6:c.toNat/16=6
 ·rw[iPp h6,iPp h6]
  split
  ·rfl
  ·cases uleb r with
   |none=>rfl
   |some x=>exact Yt _ _ _
 rw[IN h6,IN h6]
 by_cases h7:c.toNat/16=7
 ·rw[iPp h7,iPp h7]
  split
  ·rfl
  ·cases uleb r with
   |none=>rfl
   |some x=>exact Yt _ _ _
 rw[IN h7,IN h7]
 by_cases h8:c.toNat/16=8
 ·rw[iPp h8,iPp h8]
  split
  ·rfl
  ·cases uleb r with
   |none=>rfl
   |some x =>
    simp only[bind_some]
    cases uleb x.2 with
    |none=>rfl
    |some y=>exact Yt _ _ _
 rw[IN h8,IN h8]
 rfl
theorem Hm (t:Told):∀(n:Nat) (s:Now) (b:Bytes) (f f':Nat),b.length≤n→b.length<f→b.length<f'→mends t f s b=mends t f' s b
 |n,s,[],f+1,f'+1,_,_,_=>by simp[mends]
 |0,s,c::r,f+1,f'+1,h,_,_=>by simp at h
 |n+1,s,c::r,f+1,f'+1,h,h1,h2=>by
  by_cases h0:c=0
  ·subst h0
   simp[mends]
  ·rw[zH t f s c r h0,zH t f' s c r h0]
   cases hs:fO t s (c.toNat/16) (c.toNat%16) r with
   |none=>rfl
   |some y =>
    have:=Kf hs
    simp only[length_cons]at h h1 h2
    simp only[bind_some]
    rw[Hm t n y.2.1 y.2.2 f f' (by lia) (by lia) (by lia)]
def lY (t:Told) (s:Now) (b:Bytes):Option (List Nat):=mends t (b.length+1) s b
theorem L6 (t:Told) (s:Now):lY t s []=some []:=by simp[lY,mends]
theorem Jh (t:Told) (s:Now) (r:Bytes):lY t s (0::r)=if (r.all fun x=>x==0)=true then some [] else none:=by
 unfold lY
 rw[mends]
 have e:(0:UInt8).toNat=0:=rfl
 rw[iPp (by rw[e])]
 by_cases h:(r.all fun x=>x==0)=true
 ·rw[iPp h,iPp ⟨by rw[e],h⟩]
 ·rw[IN h,IN (fun q=>h q.2)]
theorem Ji (t:Told) (s:Now) (c:UInt8) (r:Bytes) (h0:c≠0):lY t s (c::r)=(fO t s (c.toNat/16) (c.toNat%16) r).bind fun y=>(lY t y.2.1 y.2.2).map fun l=>y.1++l:=by
 unfold lY
 rw[length_cons,zH t _ s c r h0]
 cases hs:fO t s (c.toNat/16) (c.toNat%16) r with
 |none=>rfl
 |some y =>
  have:=Kf hs
  simp only[bind_some]
  rw[Hm t _ y.2.1 y.2.2 (r.length+1) (y.2.2.length+1) (le_refl _) (by lia) (by lia)]
def RK (t:Told) (s:Now) (n skip:Nat) (r:Bytes):Option (List Want×Now×Bytes):=match s.name with
 |none=>none
 |some nm=>if s.placed=false∨s.typed=false∨s.library=0∨t.libraries.length<s.library∨COUNT<n then none else(row t n s.place skip).map fun x=>(x.1.map fun p=>(⟨s.library,nm,s.plus,p⟩:Want),{s with place:=x.2},r)
def eP (t:Told) (s:Now) (op cx:Nat) (r:Bytes):Option (List Want×Now×Bytes) :=
 if op=1 then some ([],{s with library:=cx},r)
 else if op=2 then(if cx≠0 then none else(uleb r).map fun x=>([],{s with library:=x.1},x.2))
 else if op=4 then(if cx≠0 then none else(textIn r).bind fun x=>if x.1.isEmpty=true then none else some ([],{s with name:=some x.1},x.2))
 else if op=5 then(if cx=1 then some ([],{s with typed:=true},r) else none)
 else if op=6 then(if cx≠0 then none else(sleb r).map fun x=>([],{s with plus:=x.1},x.2))
 else if op=7 then(uleb r).bind fun x=>(segmentAt t cx).map fun a=>([],{s with place:=(a+x.1)%W64,placed:=true},x.2)
 else if op=8 then(if cx≠0 then none else(uleb r).map fun x=>([],{s with place:=(s.place+x.1)%W64},x.2))
 else if op=9 then(if cx≠0 then none else RK t s 1 0 r)
 else if op=10 then(if cx≠0 then none else(uleb r).bind fun x=>RK t s 1 x.1 x.2)
 else if op=11 then RK t s 1 (8*cx) r
 else if op=12 then(if cx≠0 then none else(uleb r).bind fun x=>(uleb x.2).bind fun y=>RK t s x.1 y.1 y.2)
 else none
theorem E9 {t:Told} {s:Now} {n skip:Nat} {r:Bytes} {y:List Want×Now×Bytes} (h:RK t s n skip r=some y):y.2.2=r:=by
 unfold RK at h
 split at h
 ·cases h
 ·split at h
  ·cases h
  ·obtain⟨x,_,rfl⟩:=oMm h
   rfl
theorem Kg {t:Told} {s:Now} {op cx:Nat} {r:Bytes} {y:List Want×Now×Bytes} (h:eP t s op cx r=some y):y.2.2.length≤r.length:=by
 unfold eP at h
 have g1:∀{z:Option (List Want×Now×Bytes)},(if cx≠0 then none else z)=some y→z=some y:=by
  intro z q
  by_cases hi:cx≠0
  ·rw[iPp hi]at q;cases q
  ·rw[IN hi]at q;exact q
 by_cases h1:op=1
 ·rw[iPp h1]at h
  cases h;exact le_refl _
 rw[IN h1]at h
 by_cases h1:op=2
 ·rw[iPp h1]at h
  obtain⟨x,hx,rfl⟩:=oMm (g1 h)
  exact le_of_lt (bh hx).1
 rw[IN h1]at h
 by_cases h1:op=4
 ·rw[iPp h1]at h
  obtain⟨x,hx,h⟩:=oBb (g1 h)
  by_cases he:x.1.isEmpty=true
  ·rw[iPp he]at h;cases h
  ·rw[IN he]at h
   cases h
   exact le_of_lt (vY hx)
 rw[IN h1]at h
 by_cases h1:op=5
 ·rw[iPp h1]at h
  by_cases he:cx=1
  ·rw[iPp he]at h
   cases h;exact le_refl _
  ·rw[IN he]at h;cases h
 rw[IN h1]at h
 by_cases h1:op=6
 ·rw[iPp h1]at h
  obtain⟨x,hx,rfl⟩:=oMm (g1 h)
  exact le_of_lt (Hl hx)
 rw[IN h1]at h
 by_cases h1:op=7
 ·rw[iPp h1]at h
  obtain⟨x,hx,h⟩:=oBb h
  obtain⟨a,_,rfl⟩:=oMm h
  exact le_of_lt (bh hx).1
 rw[IN h1]at h
 by_cases h1:op=8
 ·rw[iPp h1]at h
  obtain⟨x,hx,rfl⟩:=oMm (g1 h)
  exact le_of_lt (bh hx).1
 rw[IN h1]at h
 by_cases h1:op=9
 ·rw[iPp h1]at h
  rw[E9 (g1 h)];exact le_refl _
 rw[IN h1]at h
 by_cases h1:op=10
 ·rw[iPp h1]at h
  obtain⟨x,hx,h⟩:=oBb (g1 h)
  rw[E9 h];exact le_of_lt (bh hx).1
 rw[IN h1]at h
 by_cases h1:op=11
 ·rw[iPp h1]at h
  rw[E9 h];exact le_refl _
 rw[IN h1]at h
 by_cases h1:op=12
 ·rw[iPp h1]at h
  obtain⟨x,hx,h⟩:=oBb (g1 h)
  obtain⟨z,hz,h⟩:=oBb h
  rw[E9 h]
  have:=(bh hx).1
  have:=(bh hz).1
  lia
 rw[IN h1]at h
 cases h
theorem zI (t:Told) (f:Nat) (s:Now) (c:UInt8) (r:Bytes) (h0:c≠0):binds t (f+1) s (c::r)=(eP t s (c.toNat/16) (c.toNat%16) r).bind fun y=>(binds t f y.2.1 y.2.2).map fun l=>y.1++l:=by
 have hc:¬(c.toNat/16=0∧c.toNat%16=0):=by
  intro q
  apply h0
  have:c.toNat=0:=by lia
  exact toNat_inj.mp this
 have Yt:∀n skip r',(match s.name with
  |none=>none
  |some nm=>if s.placed=false∨s.typed=false∨s.library=0∨t.libraries.length<s.library∨COUNT<n then none else(row t n s.place skip).bind fun x=>(binds t f {s with place:=x.2} r').map fun l=>(x.1.map fun p=>(⟨s.library,nm,s.plus,p⟩:Want))++l)=(RK t s n skip r').bind fun y=>(binds t f y.2.1 y.2.2).map fun l=>y.1++l:=by
  intro n skip r'
  unfold RK
  cases s.name with
  |none=>rfl
  |some nm =>
   dsimp only
   split
   ·rfl
   ·cases row t n s.place skip<;>rfl
 rw[binds]
 unfold eP
 by_cases h:c.toNat/16=0
 ·rw[iPp h,IN (fun q=>hc ⟨h,q.1⟩)]
  rw[IN (by lia),IN (by lia),IN (by lia),IN (by lia),IN (by lia),IN (by lia),IN (by lia),IN (by lia),IN (by lia),IN (by lia),IN (by lia)]
  rfl
 rw[IN h]
 by_cases h1:c.toNat/16=1
 ·rw[iPp h1,iPp h1]
  simp
 rw[IN h1,IN h1]
 by_cases h2:c.toNat/16=2
 ·rw[iPp h2,iPp h2]
  split
  ·rfl
  ·cases uleb r<;>simp
 rw[IN h2,IN h2]
 by_cases h4:c.toNat/16=4
 ·rw[iPp h4,iPp h4]
  split
  ·rfl
  ·cases textIn r with
   |none=>rfl
   |some x =>
    simp only[bind_some]
    split<;>simp
 rw[IN h4,IN h4]
 by_cases h5:c.toNat/16=5
 ·rw[iPp h5,iPp h5]
  split
  ·simp
  ·rfl
 rw[IN h5,IN h5]
 by_cases h6:c.toNat/16=6
 ·rw[iPp h6,iPp h6]
  split
  ·rfl
  ·cases sleb r<;>simp
 rw[IN h6,IN h6]
 by_cases h7:c.toNat/16=7
 ·rw[iPp h7,iPp h7]
  cases uleb r with
  |none=>rfl
  |some x =>
   simp only[bind_some]
   cases segmentAt t (c.toNat%16) with
   |none=>rfl
   |some a=>simp
 rw[IN h7,IN h7]
 by_cases h8:c.toNat/16=8
 ·rw[iPp h8,iPp h8]
  split
  ·rfl
  ·cases uleb r<;>simp
 rw[IN h8,IN h8]
 by_cases h9:c.toNat/16=9
 ·rw[iPp h9,iPp h9]
  split
  ·rfl
  ·exact Yt _ _ _
 rw[IN h9,IN h9]
 by_cases VC:c.toNat/16=10
 ·rw[iPp VC,iPp VC]
  split
  ·rfl
  ·cases uleb r with
   |none=>rfl
   |some x=>exact Yt _ _ _
 rw[IN VC,IN VC]
 by_cases Yu:c.toNat/16=11
 ·rw[iPp Yu,iPp Yu]
  exact Yt _ _ _
 rw[IN Yu,IN Yu]
 by_cases ZQ:c.toNat/16=12
 ·rw[iPp ZQ,iPp ZQ]
  split
  ·rfl
  ·cases uleb r with
   |none=>rfl
   |some x =>
    simp only[bind_some]
    cases uleb x.2 with
    |none=>rfl
    |some y=>exact Yt _ _ _
 rw[IN ZQ,IN ZQ]
 rfl
theorem Hn (t:Told):∀(n:Nat) (s:Now) (b:Bytes) (f f':Nat),b.length≤n→b.length<f→b.length<f'→binds t f s b=binds t f' s b
 |n,s,[],f+1,f'+1,_,_,_=>by simp[binds]
 |0,s,c::r,f+1,f'+1,h,_,_=>by simp at h
 |n+1,s,c::r,f+1,f'+1,h,h1,h2=>by
  by_cases h0:c=0
  ·subst h0
   simp[binds]
  ·rw[zI t f s c r h0,zI t f' s c r h0]
   cases hs:eP t s (c.toNat/16) (c.toNat%16) r with
   |none=>rfl
   |some y =>
    have:=Kg hs
    simp only[length_cons]at h h1 h2
    simp only[bind_some]
    rw[Hn t n y.2.1 y.2.2 f f' (by lia) (by lia) (by lia)]
def lZ (t:Told) (s:Now) (b:Bytes):Option (List Want):=binds t (b.length+1) s b
theorem L7 (t:Told) (s:Now):lZ t s []=some []:=by simp[lZ,binds]
theorem Jj (t:Told) (s:Now) (r:Bytes):lZ t s (0::r)=if (r.all fun x=>x==0)=true then some [] else none:=by
 unfold lZ
 rw[binds]
 have e:(0:UInt8).toNat=0:=rfl
 rw[iPp (by rw[e])]
 by_cases h:(r.all fun x=>x==0)=true
 ·rw[iPp h,iPp ⟨by rw[e],h⟩]
 ·rw[IN h,IN (fun q=>h q.2)]
theorem Jk (t:Told) (s:Now) (c:UInt8) (r:Bytes) (h0:c≠0):lZ t s (c::r)=(eP t s (c.toNat/16) (c.toNat%16) r).bind fun y=>(lZ t y.2.1 y.2.2).map fun l=>y.1++l:=by
 unfold lZ
 rw[length_cons,zI t _ s c r h0]
 cases hs:eP t s (c.toNat/16) (c.toNat%16) r with
 |none=>rfl
 |some y =>
  have:=Kg hs
  simp only[bind_some]
  rw[Hn t _ y.2.1 y.2.2 (r.length+1) (y.2.2.length+1) (le_refl _) (by lia) (by lia)]
end MX
namespace MI
open PySem L2 Rc31
theorem row_end {t:Told} {skip:Nat}:∀{n p:Nat} {y:List Nat×Nat},p<W64→Rc31.row t n p skip=some y→y=((range n).map (MX.bR p skip),(p+n*(8+skip))%W64):=by
 intro n p y hp h
 by_cases H:∀i,i<n→wordAt t (MX.bR p skip i)=true
 ·rw[MX.LV hp H]at h
  cases h
  rfl
 ·have:∃i,i<n∧wordAt t (MX.bR p skip i)=false:=by
   apply Classical.byContradiction
   intro q
   apply H
   intro i hi
   cases e:wordAt t (MX.bR p skip i) with
   |true=>rfl
   |false=>exact absurd ⟨i,hi,e⟩ q
  obtain⟨i,hi,e⟩:=this
  rw[MX.Hg hp hi e]at h
  cases h
theorem N6 {t:Told} {skip n p:Nat} {y:List Nat×Nat} (hp:p<W64) (h:t8 t n p skip=some y):n≤65536∧8≤(MX.aD n skip).natAbs∧Rc31.row t n p skip=some y∧y.2=(p+n*(8+skip))%W64:=by
 unfold t8 at h
 split at h
 ·rename_i hc
  exact⟨hc.1,hc.2,h,by rw[row_end hp h]⟩
 ·cases h
abbrev ub (p q:Addr):Addr→Prop:=fun b=>b=p∨b=q
structure HR (a:Ad) (C:Addr) (H0 H:Hp) (w cu gr:Addr) (b:List UInt8) (t:Told) (s:Now) (rest:List UInt8) (ext:List (Str×V)) (dx pr:Addr) (part:List UInt8) (i:Nat):Prop where
 ob:H w=some (.ins C dx (bE (.ref cu) (.ref gr) (.bl s.typed) (.bl s.placed) (.int (s.place:Int)) ext))
 cur:oF a.bA H cu pr i
 VN:H0 pr=some (.lst (bv part))
 rest:part.drop i=rest
 gr:Bz a H0 gr t
 tg:TG b t
 same:ax H0 H
 nw:H0 w=none
 nc:H0 cu=none
 pl:s.place<W64
 ext:ext.length≤10
inductive qt (a:Ad) (C:Addr) (H0 H:Hp) (w cu gr:Addr) (b:List UInt8) (t:Told) (s:Now) (rest:List UInt8) (ext:List (Str×V)):Prop
 |mk (dx:_) (pr:_) (part:_) (i:_) (q0:HR a C H0 H w cu gr b t s rest ext dx pr part i):qt a C H0 H w cu gr b t s rest ext
section
variable {a:Ad} {C:Addr} {H0 H H':Hp} {w cu gr:Addr} {b:List UInt8} {t:Told} {s:Now} {rest:List UInt8} {ext:List (Str×V)} {dx pr:Addr} {part:List UInt8} {i:Nat}
theorem HR.row (h:HR a C H0 H w cu gr b t s rest ext dx pr part i):H pr=some (.lst (bv part)):=h.same _ _ h.VN
theorem HR.wc (h:HR a C H0 H w cu gr b t s rest ext dx pr part i):w≠cu:=by
 obtain⟨d,hc⟩:=h.cur
 refine cS h.ob hc (by intro z;injection z with _ _ z;have:=congrArg length z;simp[bE,bX]at this)
theorem HR.read (h:HR a C H0 H w cu gr b t s rest ext dx pr part i) {i':Nat} {N7:List UInt8} (k:Kp (At cu) H H') (c:oF a.bA H' cu pr i') (e:part.drop i'=N7):HR a C H0 H' w cu gr b t s N7 ext dx pr part i':=by
 obtain⟨d,hc⟩:=h.cur
 exact⟨k _ _ h.ob h.wc,c,h.VN,e,h.gr,h.tg,fun y o q=>k _ _ (h.same _ _ q) (fun z=>by obtain rfl:y=cu:=z;rw[h.nc]at q;cases q),h.nw,h.nc,h.pl,h.ext⟩
theorem HR.kept (h:HR a C H0 H w cu gr b t s rest ext dx pr part i) (k:ax H H'):HR a C H0 H' w cu gr b t s rest ext dx pr part i:=by
 obtain⟨d,hc⟩:=h.cur
 exact⟨k _ _ h.ob,⟨d,k _ _ hc⟩,h.VN,h.rest,h.gr,h.tg,h.same.trans k,h.nw,h.nc,h.pl,h.ext⟩
theorem HR.put (h:HR a C H0 H w cu gr b t s rest ext dx pr part i) {s':Now} {ext':List (Str×V)} (hp:s'.place<W64) (he:ext'.length≤10):HR a C H0 (upd H w (.ins C dx (bE (.ref cu) (.ref gr) (.bl s'.typed) (.bl s'.placed) (.int (s'.place:Int)) ext'))) w cu gr b t s' rest ext' dx pr part i:=by
 obtain⟨d,hc⟩:=h.cur
 exact⟨af,⟨d,by rw[aj h.wc.symm];exact hc⟩,h.VN,h.rest,h.gr,h.tg,fun y o q=>by rw[aj (aq q h.nw)];exact h.same _ _ q,h.nw,h.nc,hp,he⟩
theorem HR.other (h:HR a C H0 H w cu gr b t s rest ext dx pr part i) {y:Addr} {o:HO} (ny:H0 y=none) (n1:y≠w) (n2:y≠cu):HR a C H0 (upd H y o) w cu gr b t s rest ext dx pr part i:=by
 obtain⟨d,hc⟩:=h.cur
 exact⟨by rw[aj n1.symm];exact h.ob,⟨d,by rw[aj n2.symm];exact hc⟩,h.VN,h.rest,h.gr,h.tg,fun z u q=>by rw[aj (aq q ny)];exact h.same _ _ q,h.nw,h.nc,h.pl,h.ext⟩
theorem HR.len (h:HR a C H0 H w cu gr b t s rest ext dx pr part i) {v1 v2 v3 v4 v5:V}:(bE v1 v2 v3 v4 v5 ext).length<1000:=by
 have:=h.ext
 simp only[bE,length_cons]
 lia
end
structure WC (g:Gm) (a:Ad) (C:Addr):Prop where
 cl:Dh g.K C
 ji:aK g.K C "cursor"
 ground:aK g.K C "ground"
 CQ:aK g.K C "kind_told"
 zJ:aK g.K C "place_told"
 place:aK g.K C "place"
 Jl:Meth g.K C "check_zeros" a.d7
 ZR:Meth g.K C "tell_kind" a.gj
 acZ:Meth g.K C "go_into" a.iF
 Yv:Meth g.K C "go_on" a.kY
 af9:Meth g.K C "do_words_apart" a.bU
 ajJ:Meth g.K C "run" a.qA
 ah0:Meth g.K C "walk_through" a.cA
theorem wcM {g:Gm} {a:Ad} (T:Tx g.K g.mg a):WC g a a.a9:=⟨T.cO,T.hX,T.hZ,T.fu,T.eW,T.iK,T.kO,T.je,T.kc,T.jm,T.fI,T.qe,T.gF⟩
theorem wcB {g:Gm} {a:Ad} (T:Tx g.K g.mg a):WC g a a.aP:=⟨T.aQ,T.g9,T.hU,T.ft,T.eV,T.iJ,T.kN,T.jc,T.j9,T.mq,T.fE,T.qd,T.gE⟩
theorem fB {v1 v2 v3 v4 v5:V} {ext:List (Str×V)} {m:Str} (h1:¬m = "cursor") (h2:¬m = "ground") (h3:¬m = "kind_told") (h4:¬m = "place_told") (h5:¬m = "place"):(bE v1 v2 v3 v4 v5 ext).lookup m=ext.lookup m:=by
 unfold bE
 rw[c8 h1,c8 h2,c8 h3,c8 h4,c8 h5]
structure Clean (ext:List (Str×V)):Prop where
 N8:ext.lookup ("check_zeros" : Str)=none
 aeB:ext.lookup ("go_on" : Str)=none
 Ti:ext.lookup ("take_step" : Str)=none
 VO:ext.lookup ("do_words" : Str)=none
section
variable {g:Gm} {a:Ad} {C:Addr}
inductive Yw (a:Ad) (C:Addr) (f:Nat→Told→Now→List UInt8→Option (Now×List UInt8)) (vs:List V) (H:Hp) (Q:VK) (E:XK):Prop
 |mk (H0:Hp) (w cu gr:Addr) (b:List UInt8) (t:Told) (s:Now) (rest:List UInt8) (ext:List (Str×V)) (n:Nat) (q0:vs=[.ref w,.int n]) (q1:qt a C H0 H w cu gr b t s rest ext) (q2:(f n t s rest=none→∀H',ax H0 H'→E (.ref a.aE) none H')) (q3:∀y,f n t s rest=some y→∀H',qt a C H0 H' w cu gr b t y.1 y.2 ext→Kp (ub w cu) H H'→Q .dh H'):Yw a C f vs H Q E
def kR (n:Nat) (_:Told) (s:Now) (r:List UInt8):Option (Now×List UInt8):=if n=1 then some ({s with typed:=true},r) else none
theorem pN (T:Tx g.K g.mg a) (W:WC g a C):Pr g 2 a.gj ["self","n"] (Yw a C kR):=by
 refine Pr.on T.qC Aj fun b6 A outer s H vs Q E hr h=>?_
 obtain⟨H0,w,cu,gr,b,t,s,rest,ext,n,rfl,⟨dx,pr,part,i,D⟩,k0,k1⟩:=h
 refine⟨_,ae (az (aB T) au hr (by decide) T.aA (aH b7 (pv 1) ak (aC _)))
  (ag (aT (pv 0) Fn rfl)),?_⟩
 refine⟨_,rfl,rfl,_,rfl,aw (fun c1=>?_) fun c1=>k0 (by unfold kR;rw[IN fun z=>br c1 (by rw[z];rfl)]) _ D.same⟩
 have c1:=bp c1
 refine⟨_,rfl,w,_,dx,_,rfl,D.ob,W.cl,W.CQ,D.len,?_⟩
 rw[vo]
 exact k1 ({s with typed:=true},rest) (by unfold kR;rw[iPp (by lia)]) _ ⟨dx,pr,part,i,D.put (s':={s with typed:=true}) D.pl D.ext⟩ (Kp.upd (.inl (.inl rfl)))
def N9 (n:Nat) (_:Told) (s:Now) (r:List UInt8):Option (Now×List UInt8):=some ({s with place:=(s.place+n)%W64},r)
theorem lN (T:Tx g.K g.mg a) (W:WC g a C):Pr g 1 a.kY ["self","far"] (Yw a C N9):=by
 refine Pr.on T.Ar Ic fun b6 A outer s H vs Q E hr h=>?_
 obtain⟨H0,w,cu,gr,b,t,s,rest,ext,n,rfl,⟨dx,pr,part,i,D⟩,k0,k1⟩:=h
 refine⟨_,ag (aT (pv 0) (aO jJ (aO cq (ar (pv 0) rfl) (pv 1)) (pk T.gU)) rfl),?_⟩
 refine⟨_,rfl,w,_,dx,_,_,rfl,D.ob,W.cl,W.place,AV,_,rfl,_,_,rfl,rfl,_,_,rfl,rfl,(by show(0:Int)<18446744073709551616;decide),_,rfl,w,_,dx,_,rfl,D.ob,W.cl,W.place,D.len,?_⟩
 rw[qJ]
 have e:((s.place:Int)+(n:Int))%18446744073709551616=(((s.place+n)%W64:Nat):Int):=by rw[MX.gX];lia
 have D':=D.put (s':={s with place:=(s.place+n)%W64}) (mod_lt _ (by decide)) D.ext
 show Q V.dh (upd H w (.ins C dx (bE (.ref cu) (.ref gr) (.bl s.typed) (.bl s.placed) (.int (((s.place:Int)+(n:Int))%18446744073709551616)) ext)))
 rw[e]
 exact k1 _ rfl _ ⟨dx,pr,part,i,D'⟩ (Kp.upd (.inl (.inl rfl)))
def jG (n:Nat) (t:Told) (s:Now) (r:List UInt8):Option (Now×List UInt8):=(uleb r).bind fun x=>(segmentAt t n).map fun p=>({s with place:=(p+x.1)%W64,placed:=true},x.2)
theorem tT (T:Tx g.K g.mg a) (W:WC g a C):Pr g 5 a.iF ["self","n"] (Yw a C jG):=by
 refine Pr.on T.u4 El fun b6 A outer s H vs Q E hr h=>?_
 obtain⟨H0,w,cu,gr,b,t,s,rest,ext,n,rfl,⟨dx,pr,part,i,D⟩,k0,k1⟩:=h
 refine⟨_,ae (aT (pv 0) (aO jJ (aO cq (cN (ar (pv 0) rfl) (zF T) T.bI T.pf au hr (by decide) (aa (pv 1) ai)) (a7 (ar (pv 0) rfl) (bo T) T.aL T.bq au hr (by decide))) (pk T.gU)) rfl)
  (ag (aT (pv 0) Fn rfl)),?_⟩
 have G:=D.gr.same D.same
 obtain⟨gd,ls,kH,sp,sa,la,pa,GD⟩:=id G
 refine⟨_,rfl,w,_,dx,_,_,rfl,D.ob,W.cl,W.ground,xY,gr,gd,_,rfl,GD.ob,vt,_,rfl,gr,b,t,n,rfl,G,D.tg,fun hn=>k0 (by unfold jG;rw[hn];cases uleb rest<;>rfl) _ D.same,fun p hp=>?_⟩
 obtain⟨cd,pO⟩:=D.cur
 refine⟨_,rfl,w,_,dx,_,_,rfl,D.ob,W.cl,W.ji,bF,cu,cd,_,rfl,pO,aY,cu,pr,part,i,rfl,⟨cd,pO⟩,D.row,fun hn H1 k=>?_,fun x r hx v H1 i1 ev c1 lt le er k=>?_⟩
 ·rw[D.rest]at hn
  exact k0 (by unfold jG;rw[hn];rfl) _ fun y o q=>k _ _ (D.same _ _ q) (fun z=>by obtain rfl:y=cu:=z;rw[D.nc]at q;cases q)
 ·subst ev
  rw[D.rest]at hx
  have D1:=D.read k c1 er
  refine⟨_,_,rfl,rfl,_,_,rfl,rfl,(by show(0:Int)<18446744073709551616;decide),_,rfl,w,_,dx,_,rfl,D1.ob,W.cl,W.place,D1.len,?_⟩
  rw[qJ]
  refine⟨_,rfl,w,_,dx,_,rfl,af,W.cl,W.zJ,D1.len,?_⟩
  rw[bN,t6]
  have e:((p:Int)+(x:Int))%18446744073709551616=(((p+x)%W64:Nat):Int):=by rw[MX.gX];lia
  have D':=D1.put (s':={s with place:=(p+x)%W64,placed:=true}) (mod_lt _ (by decide)) D.ext
  show Q V.dh (upd H1 w (.ins C dx (bE (.ref cu) (.ref gr) (.bl s.typed) (.bl true) (.int (((p:Int)+(x:Int))%18446744073709551616)) ext)))
  rw[e]
  refine k1 ({s with place:=(p+x)%W64,placed:=true},r) (by unfold jG;rw[hx,hp];rfl) _ ⟨dx,pr,part,i1,D'⟩ ?_
  exact(Kp.step (S:=ub w cu) Kp.refl k fun _ z=>.inl (.inr z)).step (Kp.upd (S:=At w) (.inl rfl)) fun _ z=>.inl (.inl z)
def CS (n skip:Nat) (t:Told) (s:Now):Option Now:=if s.typed=true∧s.placed=true then(t8 t n s.place skip).map fun y=>{s with place:=y.2} else none
inductive VP (a:Ad) (C:Addr) (vs:List V) (H:Hp) (Q:VK) (E:XK):Prop
 |mk (H0:Hp) (w cu gr:Addr) (b:List UInt8) (t:Told) (s:Now) (rest:List UInt8) (ext:List (Str×V)) (n skip:Nat) (q0:vs=[.ref w,.int n,.int skip]) (q1:qt a C H0 H w cu gr b t s rest ext) (q2:Clean ext) (q3:(CS n skip t s=none→∀H',ax H0 H'→E (.ref a.aE) none H')) (q4:∀s',CS n skip t s=some s'→∀x H',qt a C H0 H' w cu gr b t s' rest ext→pM a H' x s.place n (MX.aD n skip)→H x=none→Kp (ub w cu) H H'→Q (.ref x) H'):VP a C vs H Q E
theorem D0 (T:Tx g.K g.mg a) (W:WC g a C):Pr g 6 a.qA ["self","count","between"] (VP a C):=by
 refine Pr.on T.F3 Dp fun b6 A outer s H vs Q E hr h=>?_
 obtain⟨H0,w,cu,gr,b,t,s,rest,ext,n,skip,rfl,⟨dx,pr,part,i,D⟩,cln,k0,k1⟩:=h
 refine⟨_,ae (az (aB T) au hr (by decide) T.aA (KD (ar (pv 0) rfl) (ue (ar (pv 0) rfl))))
  (ae (aI (i:=3) Dp.nd rfl (Or.inl rfl) (aU (Th T) au hr (by decide) T.MY (aa (ar (pv 0) rfl) (aa (ar (pv 0) rfl) (aa (pv 1) (aa (pv 2) ai))))))
  (ae (aR (cN (pv 0) (lN T W) W.cl W.Yv au hr (by decide) (aa (aO yC (pv 1) (aO cq (pk T.mr) (pv 2))) ai)))
  (ag (aS (pv 3))))),?_⟩
 refine⟨_,rfl,w,_,dx,_,_,rfl,D.ob,W.cl,W.CQ,Cs,_,rfl,?_⟩
 cases ht:s.typed with
 |false=>exact eA ⟨false,rfl,eA (k0 (by unfold CS;rw[IN fun z=>by rw[ht]at z;cases z.1]) _ D.same)⟩
 |true =>
  refine iE ⟨_,rfl,w,_,dx,_,_,rfl,D.ob,W.cl,W.zJ,AU,_,rfl,?_⟩
  cases hp:s.placed with
  |false=>exact eA (k0 (by unfold CS;rw[IN fun z=>by rw[hp]at z;cases z.2]) _ D.same)
  |true =>
   have eF:CS n skip t s=(t8 t n s.place skip).map fun y=>{s with place:=y.2}:=by unfold CS;rw[iPp ⟨ht,hp⟩]
   have G:=D.gr.same D.same
   refine iE ⟨_,rfl,w,_,dx,_,_,rfl,D.ob,W.cl,W.ground,xY,_,rfl,w,_,dx,_,_,rfl,D.ob,W.cl,W.place,AV,_,rfl,_,rfl,gr,b,t,s.place,n,skip,rfl,G,D.tg,D.pl,fun hn H1 s1=>k0 (by rw[eF,hn];rfl) _ (D.same.trans s1),fun y hy x H1 hx nx s1=>?_⟩
   obtain⟨h1,h2,h3,h4⟩:=N6 D.pl hy
   have D1:=D.kept s1
   have ah1:(n:Int)≤65536:=by lia
   have lkn:(bE (.ref cu) (.ref gr) (.bl s.typed) (.bl s.placed) (.int (s.place:Int)) ext).lookup ("go_on" : Str)=none:=by
    rw[fB (by decide +kernel) (by decide +kernel) (by decide +kernel) (by decide +kernel) (by decide +kernel)]
    exact cln.aeB
   refine⟨_,rfl,w,dx,_,rfl,D1.ob,lkn,_,rfl,_,rfl,_,_,rfl,rfl,_,_,rfl,rfl,.inl ⟨?_,?_⟩,H0,w,cu,gr,b,t,s,rest,ext,n*(8+skip),?_,⟨dx,pr,part,i,D1⟩,(fun z=>by cases z),fun y' hy' H2 W2 k2=>?_⟩
   ·exact Int.lt_of_lt_of_le (by decide) (Int.natCast_nonneg n)
   ·exact Int.lt_of_le_of_lt ah1 (by decide)
   ·show[V.ref w,V.int ((n:Int)*((8:Int)+(skip:Int)))]=_
    have e:(n:Int)*((8:Int)+(skip:Int))=((n*(8+skip):Nat):Int):=by
     rw[Int.natCast_mul,natCast_add]
     rfl
    rw[e]
   ·obtain rfl:({s with place:=(s.place+n*(8+skip))%W64},rest)=y':=Option.some.inj hy'
    refine⟨_,rfl,k1 _ (by rw[eF,hy];rfl) x H2 (by dsimp only;rw[h4];exact W2) ?_ nx ((Kp.same s1).step k2 fun _ z=>.inl z)⟩
    obtain⟨d,e⟩:=hx
    refine⟨d,k2 _ _ e ?_⟩
    rintro(z|z)
    ·rw[z]at e
     rw[D1.ob]at e
     injection e with e
     injection e with _ _ e
     have:=congrArg length e
     simp[bE,xX]at this
    ·obtain⟨d',e'⟩:=D1.cur
     rw[z,e']at e
     injection e with e
     injection e with _ _ e
     have:=congrArg length e
     cases this
def vZ (s:Now) (r:List UInt8):Option (Now×List UInt8):=if (r.all fun x=>x==0)=true then some (s,[]) else none
inductive aeC (a:Ad) (C:Addr) (vs:List V) (H:Hp) (Q:VK) (E:XK):Prop
 |mk (H0:Hp) (w cu gr:Addr) (b:List UInt8) (t:Told) (s:Now) (rest:List UInt8) (ext:List (Str×V)) (q0:vs=[.ref w]) (q1:qt a C H0 H w cu gr b t s rest ext) (q2:(vZ s rest=none→∀H',ax H0 H'→E (.ref a.aE) none H')) (q3:∀y,vZ s rest=some y→∀H',qt a C H0 H' w cu gr b t y.1 y.2 ext→Kp (ub w cu) H H'→Q .dh H'):aeC a C vs H Q E
theorem xx (T:Tx g.K g.mg a) (W:WC g a C):Pr g 3 a.d7 ["self"] (aeC a C):=by
 refine Pr.on T.nZ wO fun b6 A outer s H vs Q E hr h=>?_
 obtain⟨H0,w,cu,gr,b,t,s,rest,ext,rfl,⟨dx,pr,part,i,D⟩,k0,k1⟩:=h
 refine⟨_,ag (qw tX (KC (jK (a7 (ar (pv 0) rfl) (mv T) T.aL T.jZ au hr (by decide)) (fun _=>rfl))) (ag (az (aB T) au hr (by decide) T.aA (aH b7 (a7 (ar (pv 0) rfl) (iz T) T.aL T.fD au hr (by decide)) ak (aC _))))),?_⟩
 refine⟨fun m σ H2=>∃j,σ=[some (.ref w)]∧HR a C H0 H2 w cu gr b t s (part.drop j) ext dx pr part j∧Kp (ub w cu) H H2∧m=part.length-j∧vZ s rest=vZ s (part.drop j),⟨_,i,rfl,by rw[D.rest];exact D,Kp.refl,rfl,by rw[D.rest]⟩,?_⟩
 rintro m σ H2 ⟨j,rfl,D2,kp,rfl,eF⟩
 obtain⟨cd,pO⟩:=D2.cur
 refine⟨_,rfl,w,_,dx,_,_,rfl,D2.ob,W.cl,W.ji,bF,cu,cd,_,rfl,pO,kg,cu,pr,part,j,rfl,⟨cd,pO⟩,D2.row,_,rfl,?_⟩
 by_cases hj:part.length≤j
 ·rw[decide_eq_true hj]
  refine eA (k1 (s,[]) ?_ _ ⟨dx,pr,part,j,?_⟩ kp)
  ·rw[eF,drop_of_length_le hj]
   rfl
  ·have:=D2
   rw[drop_of_length_le hj]at this
   exact this
 ·rw[decide_eq_false hj]
  refine iE ⟨fun σ' H'=>∃m',m'<part.length-j∧_,fun σ' H' q=>q,?_⟩
  refine⟨_,rfl,w,_,dx,_,_,rfl,D2.ob,W.cl,W.ji,bF,cu,cd,_,rfl,pO,d9,cu,pr,part,j,rfl,⟨cd,pO⟩,D2.row,fun hn H3 k3=>?_,fun x r hx v H3 j3 ev c3 lt le er k3=>?_⟩
  ·have:part.drop j≠[]:=fun z=>hj (by have:=congrArg length z;simp at this;lia)
   cases hd:part.drop j with
   |nil=>exact absurd hd this
   |cons y ys=>rw[hd]at hn;cases hn
  ·subst ev
   have hdj:part.drop j=x::r:=by
    cases hd:part.drop j with
    |nil=>rw[hd]at hx;cases hx
    |cons y ys=>rw[hd]at hx;cases hx;rfl
   have D3:=D2.read k3 c3 rfl
   have kp3:Kp (ub w cu) H H3:=kp.step k3 fun _ z=>.inl (.inr z)
   refine⟨rfl,_,rfl,aw (fun c1=>?_) fun c1=>k0 ?_ _ D3.same⟩
   ·have c1:=bp c1
    have NU:x=0:=toNat.inj (by show x.toNat=0;lia)
    refine⟨part.length-j3,by lia,j3,rfl,D3,kp3,rfl,?_⟩
    rw[eF,hdj,er,NU]
    unfold vZ
    rw[all_cons]
    simp
   ·rw[eF,hdj]
    unfold vZ
    rw[all_cons,IN]
    intro z
    rw[and_eq_true]at z
    have:=beq_iff_eq.mp z.1
    exact br c1 (by rw[this];rfl)
end
def jH {α:Type} (step:Nat→Nat→Now→α→List UInt8→Option (Now×α×List UInt8)):Nat→Now→α→List UInt8→Option (Now×α)
 |0,_,_,_=>none
 |_+1,s,x,[]=>some (s,x)
 |f+1,s,x,c::r=>if c=0 then(if (r.all fun y=>y==0)=true then some (s,x) else none) else(step (c.toNat/16) (c.toNat%16) s x r).bind fun y=>jH step f y.1 y.2.1 y.2.2
def Wk (a:Ad) (C:Addr) (w cu gr:Addr) (b:List UInt8) (t:Told) {α:Type} (J:Hp→Now→α→List (Str×V)→Nat→Prop) (H0 H:Hp) (s:Now) (x:α) (rest:List UInt8):Prop:=∃ext,qt a C H0 H w cu gr b t s rest ext∧J H s x ext rest.length
section
variable {g:Gm} {a:Ad} {C:Addr} {w cu gr:Addr} {b:List UInt8} {t:Told} {α:Type} {J:Hp→Now→α→List (Str×V)→Nat→Prop} {H0:Hp}
inductive L8 (a:Ad) (C:Addr) (w cu gr:Addr) (b:List UInt8) (t:Told) (J:Hp→Now→α→List (Str×V)→Nat→Prop) (H0:Hp) (step:Nat→Nat→Now→α→List UInt8→Option (Now×α×List UInt8)) (vs:List V) (H:Hp) (Q:VK) (E:XK):Prop
 |mk (op cx:Nat) (s:Now) (x:α) (rest:List UInt8) (ext:List (Str×V)) (q0:vs=[.ref w,.int op,.int cx]) (q1:qt a C H0 H w cu gr b t s rest ext) (q2:J H s x ext (rest.length+1)) (q3:op<16) (q4:cx<16) (q5:(step op cx s x rest=none→∀H',ax H0 H'→E (.ref a.aE) none H')) (q6:∀y,step op cx s x rest=some y→∀H',Wk a C w cu gr b t J H0 H' y.1 y.2.1 y.2.2→Q .dh H'):L8 a C w cu gr b t J H0 step vs H Q E
inductive L9 (a:Ad) (C:Addr) (w cu gr:Addr) (b:List UInt8) (t:Told) (J:Hp→Now→α→List (Str×V)→Nat→Prop) (H0:Hp) (step:Nat→Nat→Now→α→List UInt8→Option (Now×α×List UInt8)) (vs:List V) (H:Hp) (Q:VK) (E:XK):Prop
 |mk (s:Now) (x:α) (rest:List UInt8) (q0:vs=[.ref w]) (q1:Wk a C w cu gr b t J H0 H s x rest) (q2:(jH step (rest.length+1) s x rest=none→∀H',ax H0 H'→E (.ref a.aE) none H')) (q3:∀y,jH step (rest.length+1) s x rest=some y→∀H',Wk a C w cu gr b t J H0 H' y.1 y.2 []→Q .dh H'):L9 a C w cu gr b t J H0 step vs H Q E
theorem l6 {k:Nat} {fs:Addr} {step:Nat→Nat→Now→α→List UInt8→Option (Now×α×List UInt8)} (T:Tx g.K g.mg a) (W:WC g a C) (M:Meth g.K C "take_step" fs) (G:Pr g k fs ["self","what","n"] (L8 a C w cu gr b t J H0 step)) (hk:3≤k)
 (cln:∀H s x ext n,J H s x ext n→Clean ext) (hJ:∀H H' s x ext n n',J H s x ext n→Kp (ub w cu) H H'→n'≤n→J H' s x ext n') (hlen:∀op cx s x r y,step op cx s x r=some y→y.2.2.length≤r.length) :
 Pr g (k+1) a.cA ["self"] (L9 a C w cu gr b t J H0 step):=by
 refine Pr.on T.mx lR fun b6 A outer s H vs Q E hr h=>?_
 obtain⟨s0,x0,VQ,rfl,W0,k0,k1⟩:=h
 refine⟨_,ag (qw tX (KC (jK (a7 (ar (pv 0) rfl) (mv T) T.aL T.jZ au hr (le_trans (by decide) hk)) (fun _=>rfl))) (ae (aI (i:=1) lR.nd rfl (Or.inl rfl) (a7 (ar (pv 0) rfl) (iz T) T.aL T.fD au hr (le_trans (by decide) hk)))
  (ag (dt (bH b7 (pv 1) ak (aC _)) (ag (aR (a7 (pv 0) (xx T W) W.cl W.Jl au hr hk))) (ag (aR (cN (pv 0) G W.cl M au hr (le_refl _) (aa (aO KH (pv 1) ak) (aa (aO jJ (pv 1) ak) ai))))))))),?_⟩
 refine⟨fun m σ H2=>∃(s:Now) (x:α) (rest:List UInt8) (v:Option V),σ=[some (.ref w),v]∧Wk a C w cu gr b t J H0 H2 s x rest∧rest.length<m∧jH step (VQ.length+1) s0 x0 VQ=jH step m s x rest,⟨_,s0,x0,VQ,none,rfl,W0,lt_succ_self _,rfl⟩,?_⟩
 rintro m σ H2 ⟨s,x,rest,v,rfl,⟨ext,⟨dx,pr,part,i,D⟩,hj⟩,hm,eF⟩
 obtain⟨cd,pO⟩:=D.cur
 obtain⟨f,rfl⟩:∃f,m=f+1:=⟨m-1,by lia⟩
 refine⟨_,rfl,w,_,dx,_,_,rfl,D.ob,W.cl,W.ji,bF,cu,cd,_,rfl,pO,kg,cu,pr,part,i,rfl,⟨cd,pO⟩,D.row,_,rfl,?_⟩
 by_cases hi:part.length≤i
 ·rw[decide_eq_true hi]
  have er:rest=[]:=by rw[←D.rest,drop_of_length_le hi]
  subst er
  exact eA (k1 (s,x) (by rw[eF];rfl) _ ⟨ext,⟨dx,pr,part,i,D⟩,hj⟩)
 ·rw[decide_eq_false hi]
  refine iE ⟨fun σ' H'=>∃m',m'<f+1∧_,fun σ' H' q=>q,?_⟩
  refine⟨_,rfl,w,_,dx,_,_,rfl,D.ob,W.cl,W.ji,bF,cu,cd,_,rfl,pO,d9,cu,pr,part,i,rfl,⟨cd,pO⟩,D.row,fun hn H3 k3=>?_,fun c r hx v3 H3 j3 ev c3 lt le er k3=>?_⟩
  ·have:part.drop i≠[]:=fun z=>hi (by have:=congrArg length z;simp at this;lia)
   cases hd:part.drop i with
   |nil=>exact absurd hd this
   |cons y ys=>rw[hd]at hn;cases hn
  ·subst ev
   have hdj:rest=c::r:=by
    rw[←D.rest]
    cases hd:part.drop i with
    |nil=>rw[hd]at hx;cases hx
    |cons y ys=>rw[hd]at hx;cases hx;rfl
   subst hdj
   have hr:r.length<f:=by simpa using hm
   have D3:=D.read k3 c3 er
   have hj3:J H3 s x ext (r.length+1):=hJ _ _ _ _ _ _ _ hj (Kp.step (S:=ub w cu) Kp.refl k3 fun _ z=>.inl (.inr z)) (le_refl _)
   have lkz:(bE (.ref cu) (.ref gr) (.bl s.typed) (.bl s.placed) (.int (s.place:Int)) ext).lookup ("check_zeros" : Str)=none:=by
    rw[fB (by decide +kernel) (by decide +kernel) (by decide +kernel) (by decide +kernel) (by decide +kernel)]
    exact(cln _ _ _ _ _ hj).N8
   have lks:(bE (.ref cu) (.ref gr) (.bl s.typed) (.bl s.placed) (.int (s.place:Int)) ext).lookup ("take_step" : Str)=none:=by
    rw[fB (by decide +kernel) (by decide +kernel) (by decide +kernel) (by decide +kernel) (by decide +kernel)]
    exact(cln _ _ _ _ _ hj).Ti
   refine⟨_,rfl,rfl,_,rfl,aw (fun c1=>?_) fun c1=>?_⟩
   ·have c1:=bp c1
    have ZT:c=0:=toNat.inj (by show c.toNat=0;lia)
    subst ZT
    have eF2:jH step (f+1) s x (0::r)=if (r.all fun y=>y==0)=true then some (s,x) else none:=by
     unfold jH
     rw[iPp rfl]
    refine⟨_,rfl,w,dx,_,rfl,D3.ob,lkz,H0,w,cu,gr,b,t,s,r,ext,rfl,⟨dx,pr,part,j3,D3⟩,fun hz H4 s4=>k0 ?_ _ s4,fun y hy H4 W4 k4=>?_⟩
    ·rw[eF,eF2]
     unfold vZ at hz
     split at hz
     ·cases hz
     ·rw[IN (by assumption)]
    ·unfold vZ at hy
     split at hy
     ·rename_i MR
      cases hy
      refine⟨f,lt_succ_self _,s,x,[],_,rfl,⟨ext,W4,hJ _ _ _ _ _ _ _ hj3 k4 (zero_le _)⟩,by simp;lia,?_⟩
      rw[eF,eF2,iPp MR]
      cases f with
      |zero=>lia
      |succ f=>rfl
     ·cases hy
   ·have c1:=br c1
    have ZT:c≠0:=fun z=>c1 (by rw[z];rfl)
    have eF2:jH step (f+1) s x (c::r)=(step (c.toNat/16) (c.toNat%16) s x r).bind fun y=>jH step f y.1 y.2.1 y.2.2:=by
     conv=>lhs;unfold jH
     rw[IN ZT]
    have aml:=c.toNat_lt
    refine⟨_,rfl,w,dx,_,rfl,D3.ob,lks,_,rfl,_,_,rfl,rfl,⟨by decide,by decide⟩,_,rfl,_,_,rfl,rfl,(by show(0:Int)<16;decide),c.toNat/16,c.toNat%16,s,x,r,ext,rfl,⟨dx,pr,part,j3,D3⟩,hj3,by lia,by lia,fun hz H4 s4=>k0 (by rw[eF,eF2,hz];rfl) _ s4,fun y hy H4 W4=>?_⟩
    have:=hlen _ _ _ _ _ _ hy
    exact⟨f,lt_succ_self _,y.1,y.2.1,y.2.2,_,rfl,W4,by lia,by rw[eF,eF2,hy];rfl⟩
end
structure Rn where
 p:Nat
 n:Nat
 skip:Nat
abbrev Ma (a:Ad) (H:Hp) (ra:List Addr) (rs:List Rn):Prop:=Paired (fun x r=>pM a H x (r.p:Int) r.n (MX.aD r.n r.skip)) ra rs
section
variable {g:Gm} {a:Ad} {C:Addr}
inductive Ho (a:Ad) (C:Addr) (vs:List V) (H:Hp) (Q:VK) (E:XK):Prop
 |mk (w dx pr gr:Addr) (q0:vs=[.ref w,.ref pr,.ref gr]) (q1:H w=some (.ins C dx [])) (q2:∀cu H',H' w=some (.ins C dx (bE (.ref cu) (.ref gr) (.bl false) (.bl false) (.int 0) []))→oF a.bA H' cu pr 0→H cu=none→Kp (At w) H H'→Q .dh H'):Ho a C vs H Q E
theorem BC (T:Tx g.K g.mg a) (W:WC g a C):Pr g 3 a.wF ["self","part","ground"] (Ho a C):=by
 refine Pr.on T.Du KW fun b6 A outer s H vs Q E hr h=>?_
 obtain⟨w,dx,pr,gr,rfl,hw,k⟩:=h
 refine⟨_,ae (aT (pv 0) (kT (oG T) T.nG au hr (by decide) T.AH (aa (pv 1) (aa ak ai))) rfl)
  (ae (aT (pv 0) (pv 2) rfl)
  (ae (aT (pv 0) Fn rfl)
  (ae (aT (pv 0) Fn rfl)
  (ag (aT (pv 0) ak rfl))))),?_⟩
 refine⟨_,rfl,fun x d nx nd nex=>⟨x,d,pr,0,rfl,af,fun H1 cu k1=>⟨rfl,?_⟩⟩⟩
 have s1:ax H H1:=ax.tS nx nd k1
 have T4:=s1 _ _ hw
 obtain⟨d1,hx⟩:=cu
 have nxw:x≠w:=(aq hw nx).symm
 refine⟨_,rfl,w,_,dx,_,rfl,T4,W.cl,W.ji,(by show 0<1000;decide),_,rfl,_,rfl,w,_,dx,_,rfl,af,W.cl,W.ground,pl1,_,rfl,w,_,dx,_,rfl,af,W.cl,W.CQ,pl2,_,rfl,w,_,dx,_,rfl,af,W.cl,W.zJ,pl3,_,rfl,w,_,dx,_,rfl,af,W.cl,W.place,pl4,?_⟩
 rw[bN,bN,bN,bN,Sv]
 refine k x _ af ⟨d1,by rw[aj nxw];exact hx⟩ nx ((Kp.same s1).step (Kp.upd (S:=At w) (.inl rfl)) fun _ z=>.inl z)
theorem Qu (ml:Addr):Clean [("mended",.ref ml)]:=⟨by rw[c8 (by decide +kernel)];rfl,by rw[c8 (by decide +kernel)];rfl,by rw[c8 (by decide +kernel)];rfl,by rw[c8 (by decide +kernel)];rfl⟩
def mJ (a:Ad) (ml w cu:Addr) (H0:Hp) (L:Nat):Hp→Now→List Rn→Nat→Prop:=fun H _ rs m=>H0 ml=none∧ml≠w∧ml≠cu∧rs.length+m≤L∧L<16000000∧∃ra,H ml=some (.lst (ra.map V.ref))∧Ma a H ra rs∧∀x∈ra,x≠w∧x≠cu
def mJx (a:Ad) (ml w cu:Addr) (H0:Hp) (L:Nat):Hp→Now→List Rn→List (Str×V)→Nat→Prop:=fun H s rs ext m=>ext=([("mended",V.ref ml)]:List (Str×V))∧mJ a ml w cu H0 L H s rs m
theorem BD {ml w cu:Addr} {H0:Hp} {L:Nat}:∀H H' s x n n',mJ a ml w cu H0 L H s x n→Kp (ub w cu) H H'→n'≤n→mJ a ml w cu H0 L H' s x n':=by
 rintro H H' s x n n' ⟨h1,h2,h3,h4,h5,ra,h6,h7,h8⟩ k hn
 have off:∀{y:Addr},y≠w→y≠cu→¬ub w cu y:=fun a1 a2 z=>z.elim a1 a2
 refine⟨h1,h2,h3,by lia,h5,ra,k _ _ h6 (off h2 h3),bf h7 fun y hy r ⟨d,e⟩=>⟨d,k _ _ e (off (h8 y hy).1 (h8 y hy).2)⟩,h8⟩
def HS (n skip:Nat) (t:Told) (s:Now) (rs:List Rn):Option (Now×List Rn):=(CS n skip t s).map fun s'=>(s',rs++[⟨s.place,n,skip⟩])
inductive ZU (a:Ad) (ml w cu gr:Addr) (b:List UInt8) (t:Told) (H0:Hp) (L:Nat) (vs:List V) (H:Hp) (Q:VK) (E:XK):Prop
 |mk (s:Now) (rs:List Rn) (rest:List UInt8) (m n skip:Nat) (q0:vs=[.ref w,.int n,.int skip]) (q1:qt a a.a9 H0 H w cu gr b t s rest [("mended",.ref ml)]) (q2:mJ a ml w cu H0 L H s rs (m+1)) (q3:(HS n skip t s rs=none→∀H',ax H0 H'→E (.ref a.aE) none H')) (q4:∀y,HS n skip t s rs=some y→∀H',qt a a.a9 H0 H' w cu gr b t y.1 rest [("mended",.ref ml)]→mJ a ml w cu H0 L H' y.1 y.2 m→Q .dh H'):ZU a ml w cu gr b t H0 L vs H Q E
theorem gc (T:Tx g.K g.mg a) {ml w cu gr:Addr} {b:List UInt8} {t:Told} {H0:Hp} {L:Nat}:Pr g 7 a.iH ["self","count","between"] (ZU a ml w cu gr b t H0 L):=by
 refine Pr.on T.n9 wQ fun b6 A outer s H vs Q E hr h=>?_
 obtain⟨s,rs,rest,m,n,skip,rfl,Wk0,hj,k0,k1⟩:=h
 obtain⟨dx,pr,part,i,D⟩:=id Wk0
 obtain⟨h1,h2,h3,h4,h5,ra,h6,h7,h8⟩:=id hj
 have W:=wcM T
 refine⟨_,ag (aR (uh PySem.F.plainAttrs_list PySem.F.slot_list_append PySem.F.type_list_append iC (ar (pv 0) rfl) (aa (cN (pv 0) (D0 T W) T.cO T.qe au hr (by decide) (aa (pv 1) (aa (pv 2) ai))) ai))),?_⟩
 have lkm:(bE (.ref cu) (.ref gr) (.bl s.typed) (.bl s.placed) (.int (s.place:Int)) [("mended",V.ref ml)]).lookup ("mended" : Str)=some (.ref ml):=by
  rw[fB (by decide +kernel) (by decide +kernel) (by decide +kernel) (by decide +kernel) (by decide +kernel)]
  exact Rb
 have lkr:(bE (.ref cu) (.ref gr) (.bl s.typed) (.bl s.placed) (.int (s.place:Int)) [("mended",V.ref ml)]).lookup ("run" : Str)=none:=by
  rw[fB (by decide +kernel) (by decide +kernel) (by decide +kernel) (by decide +kernel) (by decide +kernel),c8 (by decide +kernel)]
  rfl
 refine⟨_,rfl,w,_,dx,_,_,rfl,D.ob,T.cO,T.dO,lkm,.inl ⟨rfl,_,bP.of h6⟩,_,rfl,w,dx,_,rfl,D.ob,lkr,_,rfl,_,rfl,H0,w,cu,gr,b,t,s,rest,_,n,skip,rfl,Wk0,Qu ml,fun hn H1 s1=>k0 (by unfold HS;rw[hn];rfl) _ s1,fun s' hs' x H1 Wk1 hx nx k=>?_⟩
 have hj1:=BD _ _ _ _ _ _ hj k (le_refl _)
 obtain⟨_,_,_,_,_,ra1,g6,g7,g8⟩:=hj1
 obtain⟨Yx,pr1,part1,i1,D1⟩:=Wk1
 have nxm:x≠ml:=fun z=>by rw[z,h6]at nx;cases nx
 have nxw:x≠w:=fun z=>by rw[z,D.ob]at nx;cases nx
 have nxc:x≠cu:=fun z=>by obtain⟨d,e⟩:=D.cur;rw[z,e]at nx;cases nx
 refine⟨ml,_,_,rfl,rfl,g6,?_,?_⟩
 ·rw[length_map,bw g7]
  exact lt_of_lt_of_le (show rs.length<16000000 by lia) (by decide)
 refine k1 (s',rs++[⟨s.place,n,skip⟩]) (by unfold HS;rw[hs'];rfl) _ ⟨Yx,pr1,part1,i1,D1.other h1 h2 h3⟩ ⟨h1,h2,h3,by simp;lia,h5,ra1++[x],by rw[af,map_append];rfl,?_,?_⟩
 ·refine gy (bf g7 fun y hy r ⟨d,e⟩=>⟨d,?_⟩) ?_
  ·rw[aj (cS e g6 (by intro z;cases z))]
   exact e
  ·obtain⟨d,e⟩:=hx
   exact⟨d,by rw[aj nxm];exact e⟩
 ·intro y hy
  rcases mem_append.mp hy with z|z
  ·exact g8 y z
  ·obtain rfl:y=x:=by simpa using z
   exact⟨nxw,nxc⟩
inductive ZV {β:Type} (a:Ad) (w:Addr) (H0:Hp) (P:Hp→List UInt8→Prop) (F:Nat→Nat→Option β) (R:Hp→β→List UInt8→Prop) (vs:List V) (H:Hp) (Q:VK) (E:XK):Prop
 |mk (rest:List UInt8) (n skip:Nat) (q0:vs=[.ref w,.int n,.int skip]) (q1:P H rest) (q2:(F n skip=none→∀H',ax H0 H'→E (.ref a.aE) none H')) (q3:∀y,F n skip=some y→∀H',R H' y rest→Q .dh H'):ZV a w H0 P F R vs H Q E
inductive Fb {β:Type} (a:Ad) (w:Addr) (H0:Hp) (P:Hp→List UInt8→Prop) (F:Nat→Nat→Option β) (R:Hp→β→List UInt8→Prop) (vs:List V) (H:Hp) (Q:VK) (E:XK):Prop
 |mk (rest:List UInt8) (q0:vs=[.ref w]) (q1:P H rest) (q2:(((uleb rest).bind fun x=>(uleb x.2).bind fun y=>(F x.1 y.1).map fun z=>(z,y.2))=none→∀H',ax H0 H'→E (.ref a.aE) none H')) (q3:∀y,((uleb rest).bind fun x=>(uleb x.2).bind fun y=>(F x.1 y.1).map fun z=>(z,y.2))=some y→∀H',R H' y.1 y.2→Q .dh H'):Fb a w H0 P F R vs H Q E
theorem kz {β:Type} {w cu gr:Addr} {b:List UInt8} {t:Told} {s:Now} {ext:List (Str×V)} {H0:Hp} {P:Hp→List UInt8→Prop} {F:Nat→Nat→Option β} {R:Hp→β→List UInt8→Prop} {k:Nat} {f:Addr} (T:Tx g.K g.mg a) (W:WC g a C) (M:Meth g.K C "do_words" f) (G:Pr g k f ["self","count","between"] (ZV a w H0 P F R)) (hk:4≤k)
 (cln:Clean ext) (hP:∀H rest,P H rest→qt a C H0 H w cu gr b t s rest ext) (hPk:∀H H' rest N7,P H rest→qt a C H0 H' w cu gr b t s N7 ext→Kp (ub w cu) H H'→P H' N7):Pr g (k+1) a.bU ["self"] (Fb a w H0 P F R):=by
 refine Pr.on T.kI gC fun b6 A outer sh H vs Q E hr h=>?_
 obtain⟨rest,rfl,hp,k0,k1⟩:=h
 refine⟨_,ae (aI (i:=1) gC.nd rfl (Or.inl rfl) (a7 (ar (pv 0) rfl) (bo T) T.aL T.bq au hr hk))
  (ae (aI (i:=2) gC.nd rfl (Or.inl rfl) (a7 (ar (pv 0) rfl) (bo T) T.aL T.bq au hr hk))
  (ag (aR (cN (pv 0) G W.cl M au hr (le_refl _) (aa (pv 1) (aa (pv 2) ai)))))),?_⟩
 obtain⟨dx,pr,part,i,D⟩:=hP _ _ hp
 have gone:∀{H1 H2:Hp},Kp (At cu) H1 H2→ax H0 H1→ax H0 H2:=fun{H1 H2} k s y o q=>k _ _ (s _ _ q) (fun z=>by obtain rfl:y=cu:=z;rw[D.nc]at q;cases q)
 obtain⟨cd,pO⟩:=D.cur
 refine⟨_,rfl,w,_,dx,_,_,rfl,D.ob,W.cl,W.ji,bF,cu,cd,_,rfl,pO,aY,cu,pr,part,i,rfl,⟨cd,pO⟩,D.row,fun hn H1 k=>?_,fun x r hx v H1 i1 ev c1 lt le er k=>?_⟩
 ·rw[D.rest]at hn
  exact k0 (by rw[hn];rfl) _ (gone k D.same)
 ·subst ev
  rw[D.rest]at hx
  have D1:=D.read k c1 er
  have xw:Kp (ub w cu) H H1:=Kp.step (S:=ub w cu) Kp.refl k fun _ z=>.inl (.inr z)
  obtain⟨cd1,aeG⟩:=D1.cur
  refine⟨_,rfl,w,_,dx,_,_,rfl,D1.ob,W.cl,W.ji,bF,cu,cd1,_,rfl,aeG,aY,cu,pr,part,i1,rfl,⟨cd1,aeG⟩,D1.row,fun hn H2 k2=>?_,fun x2 r2 WQ v H2 i2 ev c2 lt2 le2 er2 k2=>?_⟩
  ·rw[D1.rest]at hn
   exact k0 (by rw[hx];show(uleb r).bind _=none;rw[hn];rfl) _ (gone k2 D1.same)
  ·subst ev
   rw[D1.rest]at WQ
   have D2:=D1.read k2 c2 er2
   have kp2:Kp (ub w cu) H H2:=xw.step k2 fun _ z=>.inl (.inr z)
   have lkd:(bE (.ref cu) (.ref gr) (.bl s.typed) (.bl s.placed) (.int (s.place:Int)) ext).lookup ("do_words" : Str)=none:=by
    rw[fB (by decide +kernel) (by decide +kernel) (by decide +kernel) (by decide +kernel) (by decide +kernel)]
    exact cln.VO
   have eF:((uleb rest).bind fun x=>(uleb x.2).bind fun y=>(F x.1 y.1).map fun z=>(z,y.2))=(F x x2).map fun z=>(z,r2):=by
    rw[hx]
    show((uleb r).bind fun y=>(F x y.1).map fun z=>(z,y.2))=_
    rw[WQ]
    rfl
   refine⟨_,rfl,w,dx,_,rfl,D2.ob,lkd,_,rfl,_,rfl,r2,x,x2,rfl,hPk _ _ _ _ hp ⟨dx,pr,part,i2,D2⟩ kp2,fun hn H3 s3=>k0 (by rw[eF,hn];rfl) _ s3,fun y hy H3 hR=>k1 (y,r2) (by rw[eF,hy];rfl) _ hR⟩
inductive RL (a:Ad) (vs:List V) (H:Hp) (Q:VK) (E:XK):Prop
 |mk (w dx pr gr:Addr) (q0:vs=[.ref w,.ref pr,.ref gr]) (q1:H w=some (.ins a.a9 dx [])) (q2:∀cu ml H',H' w=some (.ins a.a9 dx (bE (.ref cu) (.ref gr) (.bl false) (.bl false) (.int 0) [("mended",.ref ml)]))→oF a.bA H' cu pr 0→H' ml=some (.lst [])→H cu=none→H ml=none→ml≠cu→Kp (At w) H H'→Q .dh H'):RL a vs H Q E
theorem EU (T:Tx g.K g.mg a):Pr g 4 a.r6 ["self","part","ground"] (RL a):=by
 refine Pr.on T.vg Ep fun b6 A outer s H vs Q E hr h=>?_
 obtain⟨w,dx,pr,gr,rfl,hw,k⟩:=h
 have W:=wcM T
 refine⟨_,ae (aR (ZE T.La (BC T W) au hr (by decide) T.Pd (aa (pv 0) (aa (pv 1) (aa (pv 2) ai)))))
  (ag (aT (pv 0) (cy ai) rfl)),?_⟩
 refine⟨_,rfl,_,rfl,_,rfl,w,dx,pr,gr,rfl,hw,fun cu H1 T4 pO VR k1=>⟨zero_le _,fun ml Mw=>?_⟩⟩
 have nwm:w≠ml:=aq T4 Mw
 obtain⟨d,hc⟩:=pO
 have ncm:cu≠ml:=aq hc Mw
 have nwc:cu≠w:=fun z=>by rw[z,hw]at VR;cases VR
 have Yy:H ml=none:=by
  cases e:H ml with
  |none=>rfl
  |some o=>rw[k1 _ _ e nwm.symm]at Mw;cases Mw
 refine⟨_,rfl,w,_,dx,_,rfl,(by rw[aj nwm];exact T4),T.cO,T.dO,(by show 5<1000;decide),?_⟩
 have e:aF "mended" (V.ref ml) (bE (.ref cu) (.ref gr) (.bl false) (.bl false) (.int 0) [])=bE (.ref cu) (.ref gr) (.bl false) (.bl false) (.int 0) [("mended",.ref ml)]:=by
  have:=Lf (x0:=V.ref cu) (x1:=V.ref gr) (x2:=V.bl false) (x3:=V.bl false) (x4:=V.int 0) (x5:=V.ref ml)
  rw[this]
  rfl
 rw[e]
 refine k cu ml _ af ⟨d,by rw[aj nwc,aj ncm];exact hc⟩ (by rw[aj nwm.symm];exact af) VR Yy ncm.symm ?_
 exact(k1.step (Kp.upd (S:=At ml) (.inl rfl)) fun y z=>.inr (by obtain rfl:y=ml:=z;exact Yy)).step (Kp.upd (S:=At w) (.inl rfl)) fun _ z=>.inl z
end
def ff (t:Told) (op cx:Nat) (s:Now) (rs:List Rn) (r:List UInt8):Option (Now×List Rn×List UInt8) :=
 if cx=0∨(op=1∨op=2∨op=4∨op=5) then
  if op=1 then(kR cx t s r).map fun y=>(y.1,rs,y.2)
  else if op=2 then(jG cx t s r).map fun y=>(y.1,rs,y.2)
  else if op=3 then(uleb r).bind fun x=>(N9 x.1 t s x.2).map fun y=>(y.1,rs,y.2)
  else if op=4 then(N9 (8*cx) t s r).map fun y=>(y.1,rs,y.2)
  else if op=5 then(HS cx 0 t s rs).map fun y=>(y.1,y.2,r)
  else if op=6 then(uleb r).bind fun x=>(HS x.1 0 t s rs).map fun y=>(y.1,y.2,x.2)
  else if op=7 then(uleb r).bind fun x=>(HS 1 x.1 t s rs).map fun y=>(y.1,y.2,x.2)
  else if op=8 then((uleb r).bind fun x=>(uleb x.2).bind fun y=>(HS x.1 y.1 t s rs).map fun z=>(z,y.2)).map fun z=>(z.1.1,z.1.2,z.2)
  else none
 else none
theorem VS {C:Addr} {E:XK} {te:TE} {U:TS} {D:Ends} {σ:St} {H:Hp} {c:Prop} [Decidable c] (rd:∀Q:VK,Q (.bl (decide c)) H→te σ H Q) (h1:c→U D σ H) (h2:¬c→E (.ref C) none H):adm (Ud (Fy (Ag C) [] E (Di te HX))) U D σ H:=rd _ ⟨_,rfl,aw h1 h2⟩
section
variable {g:Gm} {a:Ad}
theorem Yz {ml cu gr:Addr} {s:Now} {m:Str} (h1:¬m = "cursor":=by decide +kernel) (h2:¬m = "ground":=by decide +kernel) (h3:¬m = "kind_told":=by decide +kernel) (h4:¬m = "place_told":=by decide +kernel) (h5:¬m = "place":=by decide +kernel) (h6:¬m = "mended":=by decide +kernel):(bE (.ref cu) (.ref gr) (.bl s.typed) (.bl s.placed) (.int (s.place:Int)) [("mended",V.ref ml)]).lookup m=none:=by
 rw[fB h1 h2 h3 h4 h5,c8 h6]
 rfl
theorem v8 (T:Tx g.K g.mg a) {ml w cu gr:Addr} {b:List UInt8} {t:Told} {H0:Hp} {L:Nat}:Pr g 9 a.jW ["self","what","n"] (L8 a a.a9 w cu gr b t (mJx a ml w cu H0 L) H0 (ff t)):=by
 refine Pr.on T.mF uN fun b6 A outer sh H vs Q E hr h=>?_
 obtain⟨op,cx,s,rs,rest,ext,rfl,W0,⟨rfl,hj⟩,hop,Oa,k0,k1⟩:=h
 have W:=wcM T
 have GA:Pr g 8 a.bU ["self"] (Fb a w H0 (fun H r=>qt a a.a9 H0 H w cu gr b t s r [("mended",.ref ml)]∧mJ a ml w cu H0 L H s rs (rest.length+1)) (fun n skip=>HS n skip t s rs) fun H' y r=>qt a a.a9 H0 H' w cu gr b t y.1 r [("mended",.ref ml)]∧mJ a ml w cu H0 L H' y.1 y.2 rest.length) :=
  kz (k:=7) (f:=a.iH) T W T.eN ((gc T (ml:=ml) (w:=w) (cu:=cu) (gr:=gr) (b:=b) (t:=t) (H0:=H0) (L:=L)).imp (by
   rintro vs H Q E ⟨r,n,skip,rfl,⟨p1,p2⟩,q0,q1⟩
   exact⟨s,rs,r,rest.length,n,skip,rfl,p1,p2,q0,fun y hy H' r1 r2=>q1 y hy H' ⟨r1,r2⟩⟩)) (by decide) (Qu ml) (fun H r p=>p.1) fun H H' r r' p w1 k=>⟨w1,BD _ _ _ _ _ _ p.2 k (le_refl _)⟩
 refine⟨_,ae (az (aB T) au hr (by decide) T.aA (QV (aH b7 (pv 2) ak (aC _)) (ue (aH BX (pv 1) (pkr T.de) (by with_unfolding_all rfl)))))
  (ag (dt (bH b7 (pv 1) ak (aC _)) (ag (aR (cN (pv 0) (pN T W) T.cO T.je au hr (by decide) (aa (pv 2) ai)))) (ag (dt (bH b7 (pv 1) ak (aC _)) (ag (aR (cN (pv 0) (tT T W) T.cO T.kc au hr (by decide) (aa (pv 2) ai)))) (ag (dt (bH b7 (pv 1) ak (aC _)) (ag (aR (cN (pv 0) (lN T W) T.cO T.jm au hr (by decide) (aa (a7 (ar (pv 0) rfl) (bo T) T.aL T.bq au hr (by decide)) ai)))) (ag (dt (bH b7 (pv 1) ak (aC _)) (ag (aR (cN (pv 0) (lN T W) T.cO T.jm au hr (by decide) (aa (aO yC (pk T.mr) (pv 2)) ai)))) (ag (dt (bH b7 (pv 1) ak (aC _)) (ag (aR (cN (pv 0) (gc T (ml:=ml) (w:=w) (cu:=cu) (gr:=gr) (b:=b) (t:=t) (H0:=H0) (L:=L)) T.cO T.eN au hr (by decide) (aa (pv 2) (aa ak ai))))) (ag (dt (bH b7 (pv 1) ak (aC _)) (ag (aR (cN (pv 0) (gc T (ml:=ml) (w:=w) (cu:=cu) (gr:=gr) (b:=b) (t:=t) (H0:=H0) (L:=L)) T.cO T.eN au hr (by decide) (aa (a7 (ar (pv 0) rfl) (bo T) T.aL T.bq au hr (by decide)) (aa ak ai))))) (ag (dt (bH b7 (pv 1) ak (aC _)) (ag (aR (cN (pv 0) (gc T (ml:=ml) (w:=w) (cu:=cu) (gr:=gr) (b:=b) (t:=t) (H0:=H0) (L:=L)) T.cO T.eN au hr (by decide) (aa ak (aa (a7 (ar (pv 0) rfl) (bo T) T.aL T.bq au hr (by decide)) ai))))) (ag (dt (bH b7 (pv 1) ak (aC _)) (ag (aR (a7 (pv 0) GA T.cO T.fI au hr (by decide)))) (ag (nK T.qF rfl rF rfl)))))))))))))))))),?_⟩
 obtain⟨dx,pr,part,i,D⟩:=id W0
 have gone:∀{H1 H2:Hp},Kp (At cu) H1 H2→ax H0 H1→ax H0 H2:=fun{H1 H2} k s y o q=>k _ _ (s _ _ q) (fun z=>by obtain rfl:y=cu:=z;rw[D.nc]at q;cases q)
 obtain⟨cd,pO⟩:=D.cur
 have R8:Uy (V.int (op:Int)) [.int 1,.int 2,.int 4,.int 5]=decide (op=1∨op=2∨op=4∨op=5):=by
  rw[Bool.eq_iff_iff]
  simp[Uy,Uw]
  lia
 refine VS (c:=cx=0∨(op=1∨op=2∨op=4∨op=5)) (fun Q' hq=>?_) (fun hd=>?_) (fun hd=>k0 (by unfold ff;rw[IN hd]) _ D.same)
 ·refine⟨_,rfl,rfl,_,rfl,aw (fun c1=>?_) fun c1=>?_⟩
  ·have c1:=bp c1
   rw[decide_eq_true (.inl (by lia))]at hq
   exact hq
  ·have c1:=br c1
   refine⟨_,rfl,_,_,rfl,.inr (T.kf _),rfl,rfl,?_⟩
   show Q' (V.bl (Uy (V.int (op:Int)) [.int 1,.int 2,.int 4,.int 5])) H
   rw[R8]
   have e:decide (cx=0∨(op=1∨op=2∨op=4∨op=5))=decide (op=1∨op=2∨op=4∨op=5):=by
    rw[Bool.eq_iff_iff,decide_eq_true_iff,decide_eq_true_iff]
    lia
   rw[←e]
   exact hq
 have eS:ff t op cx s rs rest=(if op=1 then(kR cx t s rest).map fun y=>(y.1,rs,y.2)
  else if op=2 then(jG cx t s rest).map fun y=>(y.1,rs,y.2)
  else if op=3 then(uleb rest).bind fun x=>(N9 x.1 t s x.2).map fun y=>(y.1,rs,y.2)
  else if op=4 then(N9 (8*cx) t s rest).map fun y=>(y.1,rs,y.2)
  else if op=5 then(HS cx 0 t s rs).map fun y=>(y.1,y.2,rest)
  else if op=6 then(uleb rest).bind fun x=>(HS x.1 0 t s rs).map fun y=>(y.1,y.2,x.2)
  else if op=7 then(uleb rest).bind fun x=>(HS 1 x.1 t s rs).map fun y=>(y.1,y.2,x.2)
  else if op=8 then((uleb rest).bind fun x=>(uleb x.2).bind fun y=>(HS x.1 y.1 t s rs).map fun z=>(z,y.2)).map fun z=>(z.1.1,z.1.2,z.2)
  else none):=by
  unfold ff
  rw[iPp hd]
 have keep:∀{H':Hp} {m:Nat},m≤rest.length+1→Kp (ub w cu) H H'→∀s',mJ a ml w cu H0 L H' s' rs m:=fun{H' m} hm k s'=>BD _ _ _ _ _ _ hj k hm
 refine⟨_,rfl,rfl,_,rfl,aw (fun e=>?_) fun e=>?_⟩
 ·have e:op=1:=by have:=bp e;lia
  rw[iPp e]at eS
  refine⟨_,rfl,w,dx,_,rfl,D.ob,Yz,_,rfl,H0,w,cu,gr,b,t,s,rest,_,cx,rfl,W0,fun hn H1 s1=>k0 (by rw[eS,hn];rfl) _ s1,fun y hy H1 W1 kp=>k1 (y.1,rs,y.2) (by rw[eS,hy];rfl) _ ⟨_,W1,rfl,keep ?_ kp _⟩⟩
  unfold kR at hy
  split at hy
  ·cases hy
   exact Nat.le_succ _
  ·cases hy
 have e1:¬op=1:=by have:=br e;lia
 rw[IN e1]at eS
 refine⟨_,rfl,rfl,_,rfl,aw (fun e=>?_) fun e=>?_⟩
 ·have e:op=2:=by have:=bp e;lia
  rw[iPp e]at eS
  refine⟨_,rfl,w,dx,_,rfl,D.ob,Yz,_,rfl,H0,w,cu,gr,b,t,s,rest,_,cx,rfl,W0,fun hn H1 s1=>k0 (by rw[eS,hn];rfl) _ s1,fun y hy H1 W1 kp=>k1 (y.1,rs,y.2) (by rw[eS,hy];rfl) _ ⟨_,W1,rfl,keep ?_ kp _⟩⟩
  unfold jG at hy
  obtain⟨x,hx,hy⟩:=oBb hy
  obtain⟨p,hp,rfl⟩:=oMm hy
  have:=(MX.bh hx).1
  dsimp only
  lia
 have e2:¬op=2:=by have:=br e;lia
 rw[IN e2]at eS
 refine⟨_,rfl,rfl,_,rfl,aw (fun e=>?_) fun e=>?_⟩
 ·have e:op=3:=by have:=bp e;lia
  rw[iPp e]at eS
  refine⟨_,rfl,w,dx,_,rfl,D.ob,Yz,_,rfl,w,_,dx,_,_,rfl,D.ob,W.cl,W.ji,bF,cu,cd,_,rfl,pO,aY,cu,pr,part,i,rfl,⟨cd,pO⟩,D.row,fun hn H1 k=>?_,fun x r hx v H1 i1 ev c1 lt le er k=>?_⟩
  ·rw[D.rest]at hn
   exact k0 (by rw[eS,hn];rfl) _ (gone k D.same)
  ·subst ev
   rw[D.rest]at hx
   have hlen:=(MX.bh hx).1
   have D1:=D.read k c1 er
   have xw:Kp (ub w cu) H H1:=Kp.step (S:=ub w cu) Kp.refl k fun _ z=>.inl (.inr z)
   refine⟨H0,w,cu,gr,b,t,s,r,_,x,rfl,⟨dx,pr,part,i1,D1⟩,(fun hn=>by cases hn),fun y hy H2 W2 kp=>k1 (y.1,rs,y.2) (by rw[eS,hx];show map (fun y:Now×List UInt8=>(y.1,rs,y.2)) (N9 x t s r)=_;rw[hy];rfl) _ ⟨_,W2,rfl,keep ?_ (xw.step kp fun _ z=>.inl z) _⟩⟩
   unfold N9 at hy
   cases hy
   dsimp only at *
   lia
 have e3:¬op=3:=by have:=br e;lia
 rw[IN e3]at eS
 refine⟨_,rfl,rfl,_,rfl,aw (fun e=>?_) fun e=>?_⟩
 ·have e:op=4:=by have:=bp e;lia
  rw[iPp e]at eS
  refine⟨_,rfl,w,dx,_,rfl,D.ob,Yz,_,rfl,_,_,rfl,rfl,.inl ⟨by decide,by decide⟩,H0,w,cu,gr,b,t,s,rest,_,8*cx,?_,W0,(fun hn=>by cases hn),fun y hy H1 W1 kp=>k1 (y.1,rs,y.2) (by rw[eS,hy];rfl) _ ⟨_,W1,rfl,keep ?_ kp _⟩⟩
  ·show[V.ref w,V.int ((8:Int)*(cx:Int))]=_
   rw[show(8:Int)*(cx:Int)=((8*cx:Nat):Int) by lia]
  ·unfold N9 at hy
   cases hy
   exact Nat.le_succ _
 have e4:¬op=4:=by have:=br e;lia
 rw[IN e4]at eS
 refine⟨_,rfl,rfl,_,rfl,aw (fun e=>?_) fun e=>?_⟩
 ·have e:op=5:=by have:=bp e;lia
  rw[iPp e]at eS
  exact⟨_,rfl,w,dx,_,rfl,D.ob,Yz,_,rfl,s,rs,rest,rest.length,cx,0,rfl,W0,hj,fun hn H1 s1=>k0 (by rw[eS,hn];rfl) _ s1,fun y hy H1 W1 j1=>k1 (y.1,y.2,rest) (by rw[eS,hy];rfl) _ ⟨_,W1,rfl,j1⟩⟩
 have e5:¬op=5:=by have:=br e;lia
 rw[IN e5]at eS
 refine⟨_,rfl,rfl,_,rfl,aw (fun e=>?_) fun e=>?_⟩
 ·have e:op=6:=by have:=bp e;lia
  rw[iPp e]at eS
  refine⟨_,rfl,w,dx,_,rfl,D.ob,Yz,_,rfl,w,_,dx,_,_,rfl,D.ob,W.cl,W.ji,bF,cu,cd,_,rfl,pO,aY,cu,pr,part,i,rfl,⟨cd,pO⟩,D.row,fun hn H1 k=>?_,fun x r hx v H1 i1 ev c1 lt le er k=>?_⟩
  ·rw[D.rest]at hn
   exact k0 (by rw[eS,hn];rfl) _ (gone k D.same)
  ·subst ev
   rw[D.rest]at hx
   have hlen:=(MX.bh hx).1
   have D1:=D.read k c1 er
   have xw:Kp (ub w cu) H H1:=Kp.step (S:=ub w cu) Kp.refl k fun _ z=>.inl (.inr z)
   have ZW:ff t op cx s rs rest=(HS x 0 t s rs).map fun y=>(y.1,y.2,r):=by rw[eS,hx];rfl
   exact⟨s,rs,r,r.length,x,0,rfl,⟨dx,pr,part,i1,D1⟩,keep (by dsimp only at hlen;lia) xw s,fun hn H2 s2=>k0 (by rw[ZW,hn];rfl) _ s2,fun y hy H2 W2 j2=>k1 (y.1,y.2,r) (by rw[ZW,hy];rfl) _ ⟨_,W2,rfl,j2⟩⟩
 have e6:¬op=6:=by have:=br e;lia
 rw[IN e6]at eS
 refine⟨_,rfl,rfl,_,rfl,aw (fun e=>?_) fun e=>?_⟩
 ·have e:op=7:=by have:=bp e;lia
  rw[iPp e]at eS
  refine⟨_,rfl,w,dx,_,rfl,D.ob,Yz,_,rfl,w,_,dx,_,_,rfl,D.ob,W.cl,W.ji,bF,cu,cd,_,rfl,pO,aY,cu,pr,part,i,rfl,⟨cd,pO⟩,D.row,fun hn H1 k=>?_,fun x r hx v H1 i1 ev c1 lt le er k=>?_⟩
  ·rw[D.rest]at hn
   exact k0 (by rw[eS,hn];rfl) _ (gone k D.same)
  ·subst ev
   rw[D.rest]at hx
   have hlen:=(MX.bh hx).1
   have D1:=D.read k c1 er
   have xw:Kp (ub w cu) H H1:=Kp.step (S:=ub w cu) Kp.refl k fun _ z=>.inl (.inr z)
   have ZW:ff t op cx s rs rest=(HS 1 x t s rs).map fun y=>(y.1,y.2,r):=by rw[eS,hx];rfl
   exact⟨s,rs,r,r.length,1,x,rfl,⟨dx,pr,part,i1,D1⟩,keep (by dsimp only at hlen;lia) xw s,fun hn H2 s2=>k0 (by rw[ZW,hn];rfl) _ s2,fun y hy H2 W2 j2=>k1 (y.1,y.2,r) (by rw[ZW,hy];rfl) _ ⟨_,W2,rfl,j2⟩⟩
 have e7:¬op=7:=by have:=br e;lia
 rw[IN e7]at eS
 refine⟨_,rfl,rfl,_,rfl,aw (fun e=>?_) fun e=>?_⟩
 ·have e:op=8:=by have:=bp e;lia
  rw[iPp e]at eS
  refine⟨_,rfl,w,dx,_,rfl,D.ob,Yz,rest,rfl,⟨W0,hj⟩,fun hn H1 s1=>k0 (by rw[eS,hn];rfl) _ s1,fun y hy H1 hR=>k1 (y.1.1,y.1.2,y.2) (by rw[eS,hy];rfl) _ ⟨_,hR.1,rfl,BD _ _ _ _ _ _ hR.2 Kp.refl ?_⟩⟩
  obtain⟨x,hx,hy⟩:=oBb hy
  obtain⟨z,hz,hy⟩:=oBb hy
  obtain⟨q,hq,rfl⟩:=oMm hy
  have h1:=(MX.bh hx).1
  have h2:=(MX.bh hz).1
  dsimp only
  lia
 have e8:¬op=8:=by have:=br e;lia
 rw[IN e8]at eS
 exact k0 eS _ D.same
end
theorem Kh {t:Told}:∀op cx s rs r y,ff t op cx s rs r=some y→y.2.2.length≤r.length:=by
 intro op cx s rs r y h
 unfold ff kR jG N9 at h
 repeat' split at h
 all_goals first
  |(cases h;done)
  |(cases h;exact le_refl _)
  |(obtain⟨z,hz,rfl⟩:=oMm h
    first
     |(cases hz;exact le_refl _)
     |(obtain⟨x,hx,hz⟩:=oBb hz
       have h1:=(MX.bh hx).1
       first
        |(obtain⟨p,hp,rfl⟩:=oMm hz
          dsimp only
          lia)
        |(obtain⟨x2,WQ,hz⟩:=oBb hz
          have h2:=(MX.bh WQ).1
          obtain⟨p,hp,rfl⟩:=oMm hz
          dsimp only
          lia))
     |exact le_refl _)
  |(obtain⟨x,hx,h⟩:=oBb h
    have h1:=(MX.bh hx).1
    obtain⟨z,hz,rfl⟩:=oMm h
    first
     |(cases hz;dsimp only;lia)
     |(dsimp only;lia))
def v9 (t:Told) (part:List UInt8):Option (List Rn):=(jH (ff t) (part.length+1) {} [] part).map (·.2)
section
variable {g:Gm} {a:Ad}
structure MIx where
 ml:Addr
 w:Addr
 cu:Addr
 gr:Addr
 b:List UInt8
 t:Told
 H0:Hp
 L:Nat
theorem EV (T:Tx g.K g.mg a):Pr g 10 a.cA ["self"] (fun vs H Q E=>∃i:MIx,L9 a a.a9 i.w i.cu i.gr i.b i.t (mJx a i.ml i.w i.cu i.H0 i.L) i.H0 (ff i.t) vs H Q E) :=
 Pr.ex (ι:=MIx) ⟨0,0,0,0,[],{},fun _=>none,0⟩ fun i=>l6 (k:=9) T (wcM T) T.mQ (v8 T) (by decide) (fun _ _ _ _ _ h=>by rw[h.1];exact Qu _) (fun H H' s x ext n n' h k hn=>⟨h.1,BD _ _ _ _ _ _ h.2 k hn⟩) Kh
inductive Hq (a:Ad) (vs:List V) (H:Hp) (Q:VK) (E:XK):Prop
 |mk (pr gr:Addr) (b part:List UInt8) (t:Told) (q0:vs=[.ref pr,.ref gr]) (q1:H pr=some (.lst (bv part))) (q2:part.length<15000000) (q3:Bz a H gr t) (q4:TG b t) (q5:(v9 t part=none→∀H',ax H H'→E (.ref a.aE) none H')) (q6:∀rs,v9 t part=some rs→∀ml ra H',H' ml=some (.lst (ra.map V.ref))→Ma a H' ra rs→rs.length≤part.length→H ml=none→ax H H'→Q (.ref ml) H'):Hq a vs H Q E
theorem Mb (T:Tx g.K g.mg a):Pr g 11 a.Ci ["part","ground"] (Hq a):=by
 refine Pr.on T.DD An fun b6 A outer s H vs Q E hr h=>?_
 obtain⟨pr,gr,b,part,t,rfl,hpr,oM,G,tg,k0,k1⟩:=h
 refine⟨_,ae (aI (i:=2) An.nd rfl (Or.inl rfl) (kT (EU T) T.si au hr (by decide) T.J1 (aa (pv 0) (aa (pv 1) ai))))
  (ae (aR (a7 (pv 2) (EV T) T.cO T.gF au hr (by decide)))
  (ag (aS (ar (pv 2) rfl)))),?_⟩
 refine⟨_,rfl,_,rfl,fun w d nw nd ZN=>⟨w,d,pr,gr,rfl,af,fun cu ml H1 T4 pO Mw VR Yy nmc k=>⟨rfl,?_⟩⟩⟩
 have s1:ax H H1:=ax.tS nw nd k
 have old:∀{x:Addr},upd (upd H d (.own w)) w (.ins a.a9 d []) x=none→H x=none:=fun{x} e=>by
  have h1:x≠w:=fun z=>by rw[z,af]at e;cases e
  rw[aj h1]at e
  have h2:x≠d:=fun z=>by rw[z,af]at e;cases e
  rw[aj h2]at e
  exact e
 have abZ:=old VR
 have aeH:=old Yy
 have nmw:ml≠w:=fun z=>by rw[z,af]at Yy;cases Yy
 have D:HR a a.a9 H H1 w cu gr b t {} part [("mended",.ref ml)] d pr part 0:=⟨T4,pO,hpr,rfl,G,tg,s1,nw,abZ,by decide,by show 1≤10;decide⟩
 have J:mJ a ml w cu H part.length H1 {} [] part.length:=⟨aeH,nmw,nmc,by simp,by lia,[],Mw,.nil,fun x hx=>by cases hx⟩
 refine⟨_,rfl,w,d,_,rfl,T4,Yz (s:={}),⟨ml,w,cu,gr,b,t,H,part.length⟩,{},[],part,rfl,⟨_,⟨d,pr,part,0,D⟩,rfl,J⟩,fun hn H2 s2=>k0 (by unfold v9;rw[hn];rfl) _ s2,fun y hy H2 W2=>?_⟩
 obtain⟨_,⟨d2,pr2,part2,i2,D2⟩,rfl,⟨_,_,_,hl,_,ra,ab0,hra,_⟩⟩:=W2
 refine⟨_,rfl,w,_,d2,_,_,rfl,D2.ob,T.cO,T.dO,?_,k1 y.2 (by unfold v9;rw[hy];rfl) ml ra H2 ab0 hra (by lia) aeH D2.same⟩
 rw[fB (by decide +kernel) (by decide +kernel) (by decide +kernel) (by decide +kernel) (by decide +kernel)]
 exact Rb
end
structure Wn where
 r:Rn
 wb:Nat
 name:List UInt8
 plus:Nat
inductive CT (a:Ad) (libs:List (List UInt8)) (bad:Addr→Prop) (H:Hp) (y:Addr) (u:Wn):Prop
 |mk (dx:_) (xr:_) (nl:_) (ln:_) (q0:H y=some (.ins a.mi dx (so (.ref xr) (.int (u.wb:Int)) (.ref ln) (.ref nl) (.int (u.plus:Int))))) (q1:pM a H xr (u.r.p:Int) u.r.n (MX.aD u.r.n u.r.skip)) (q2:H nl=some (.lst (bv u.name))) (q3:H ln=some (.lst (bv (libs.getD (u.wb-1) [])))) (q4:¬bad y∧¬bad xr∧¬bad nl∧¬bad ln∧a.new y∧a.new xr∧a.new nl∧a.new ln):CT a libs bad H y u
theorem CT.keep {a:Ad} {libs:List (List UInt8)} {bad S:Addr→Prop} {H H':Hp} {y:Addr} {u:Wn} (h:CT a libs bad H y u) (k:Kp S H H') (hs:∀z,S z→bad z):CT a libs bad H' y u:=by
 obtain⟨dx,xr,nl,ln,h1,⟨d,h2⟩,h3,h4,n1,n2,n3,n4,w⟩:=h
 exact⟨dx,xr,nl,ln,k _ _ h1 fun z=>n1 (hs _ z),⟨d,k _ _ h2 fun z=>n2 (hs _ z)⟩,k _ _ h3 fun z=>n3 (hs _ z),k _ _ h4 fun z=>n4 (hs _ z),n1,n2,n3,n4,w⟩
def sY (ll:Addr) (wb:Nat) (nl:Addr) (plus:Nat) (wl:Addr):List (Str×V):=[("libraries",.ref ll),("library",.int (wb:Int)),("name",.ref nl),("added",.int (plus:Int)),("wanted",.ref wl)]
theorem fb {x0 x1 x2 x3 x4:V} {ll nl wl:Addr} {wb plus:Nat}:bE x0 x1 x2 x3 x4 (sY ll wb nl plus wl)=ef x0 x1 x2 x3 x4 (.ref ll) (.int (wb:Int)) (.ref nl) (.int (plus:Int)) (.ref wl):=rfl
abbrev ab1 (w cu wl:Addr):Addr→Prop:=fun z=>z=w∨z=cu∨z=wl
structure bD (a:Ad) (ll wl w cu:Addr) (H0:Hp) (t:Told) (L:Nat) (H:Hp) (s:Now) (ws:List Wn) (m:Nat) (nl:Addr):Prop where
 nw0:H0 wl=none
 n1:wl≠w
 n2:wl≠cu
 len:ws.length+m≤L
 big:L<16000000
 libs:∃la:List Addr,H0 ll=some (.lst (la.map V.ref))∧Paired (fun x l=>H0 x=some (.lst (bv l))∧a.new x) la t.libraries
 fresh:∀z,H0 z=none→a.new z
 YA:a.new nl
 nm:H nl=some (.lst (bv (s.name.getD [])))
 nb:¬ab1 w cu wl nl
 told:∀x,s.name=some x→x≠[]
 wa:∃wa:List Addr,H wl=some (.lst (wa.map V.ref))∧Paired (CT a t.libraries (ab1 w cu wl) H) wa ws
def bJ (a:Ad) (ll wl w cu:Addr) (H0:Hp) (t:Told) (L:Nat):Hp→Now→List Wn→List (Str×V)→Nat→Prop:=fun H s ws ext m=>∃nl,ext=sY ll s.library nl s.plus wl∧bD a ll wl w cu H0 t L H s ws m nl
section
variable {g:Gm} {a:Ad} {ll wl w cu:Addr} {H0:Hp} {t:Told} {L:Nat}
theorem bD.keep {H H':Hp} {s:Now} {ws:List Wn} {m m':Nat} {nl:Addr} (h:bD a ll wl w cu H0 t L H s ws m nl) (k:Kp (ub w cu) H H') (hm:m'≤m):bD a ll wl w cu H0 t L H' s ws m' nl:=by
 obtain⟨wa,e,p⟩:=h.wa
 exact⟨h.nw0,h.n1,h.n2,by have:=h.len;lia,h.big,h.libs,h.fresh,h.YA,k _ _ h.nm fun z=>h.nb (z.elim .inl fun q=>.inr (.inl q)),h.nb,h.told,wa,k _ _ e fun z=>z.elim h.n1 h.n2,bf p fun y _ u q=>q.keep k fun z hz=>hz.elim .inl fun q=>.inr (.inl q)⟩
theorem bD.now {H:Hp} {s s':Now} {ws:List Wn} {m:Nat} {nl:Addr} (h:bD a ll wl w cu H0 t L H s ws m nl) (e:s'.name=s.name):bD a ll wl w cu H0 t L H s' ws m nl :=
 ⟨h.nw0,h.n1,h.n2,h.len,h.big,h.libs,h.fresh,h.YA,by rw[e];exact h.nm,h.nb,fun x hx=>h.told x (by rw[←e];exact hx),h.wa⟩
theorem Qv {wb nl plus:Nat}:Clean (sY ll wb nl plus wl):=by
 have h:∀m:Str,¬m = "libraries"→¬m = "library"→¬m = "name"→¬m = "added"→¬m = "wanted"→(sY ll wb nl plus wl).lookup m=none:=by
  intro m h1 h2 h3 h4 h5
  unfold sY
  rw[c8 h1,c8 h2,c8 h3,c8 h4,c8 h5]
  rfl
 exact⟨h _ (by decide +kernel) (by decide +kernel) (by decide +kernel) (by decide +kernel) (by decide +kernel),h _ (by decide +kernel) (by decide +kernel) (by decide +kernel) (by decide +kernel) (by decide +kernel),h _ (by decide +kernel) (by decide +kernel) (by decide +kernel) (by decide +kernel) (by decide +kernel),h _ (by decide +kernel) (by decide +kernel) (by decide +kernel) (by decide +kernel) (by decide +kernel)⟩
inductive Hr (a:Ad) (vs:List V) (H:Hp) (Q:VK) (E:XK):Prop
 |mk (y dx xr nl ln:Addr) (wb plus:Nat) (q0:vs=[.ref y,.ref xr,.int wb,.ref ln,.ref nl,.int plus]) (q1:H y=some (.ins a.mi dx [])) (q2:∀H',H' y=some (.ins a.mi dx (so (.ref xr) (.int (wb:Int)) (.ref ln) (.ref nl) (.int (plus:Int))))→Kp (At y) H H'→Q .dh H'):Hr a vs H Q E
theorem Mc (T:Tx g.K g.mg a):Pr g 1 a.Cc ["self","run","library","library_name","name","added"] (Hr a):=by
 refine Pr.on T.Dv KY fun b6 A outer s H vs Q E hr h=>?_
 obtain⟨y,dx,xr,nl,ln,wb,plus,rfl,hy,k⟩:=h
 refine⟨_,ae (aT (pv 0) (pv 1) rfl) (ae (aT (pv 0) (pv 2) rfl) (ae (aT (pv 0) (pv 3) rfl) (ae (aT (pv 0) (pv 4) rfl) (ag (aT (pv 0) (pv 5) rfl))))),?_⟩
 refine⟨_,rfl,_,rfl,y,_,dx,_,rfl,hy,T.eU,T.bC,(by show 0<1000;decide),_,rfl,_,rfl,y,_,dx,_,rfl,af,T.eU,T.gO,pl1,_,rfl,_,rfl,y,_,dx,_,rfl,af,T.eU,T.dH,pl2,_,rfl,_,rfl,y,_,dx,_,rfl,af,T.eU,T.iI,pl3,_,rfl,_,rfl,y,_,dx,_,rfl,af,T.eU,T.gT,pl4,?_⟩
 rw[bN,bN,bN,bN,Sw]
 exact k _ af (Kp.upd (.inl rfl))
def rj (s:Now) (r:List UInt8):Option (Now×List UInt8):=(textIn r).bind fun x=>if x.1.isEmpty=true then none else some ({s with name:=some x.1},x.2)
inductive RM (a:Ad) (ll wl w cu gr:Addr) (b:List UInt8) (t:Told) (H0:Hp) (L:Nat) (vs:List V) (H:Hp) (Q:VK) (E:XK):Prop
 |mk (s:Now) (ws:List Wn) (rest:List UInt8) (ext:List (Str×V)) (m:Nat) (q0:vs=[.ref w]) (q1:qt a a.aP H0 H w cu gr b t s rest ext) (q2:bJ a ll wl w cu H0 t L H s ws ext m) (q3:(rj s rest=none→∀H',ax H0 H'→E (.ref a.aE) none H')) (q4:∀y,rj s rest=some y→∀ext' H',qt a a.aP H0 H' w cu gr b t y.1 y.2 ext'→bJ a ll wl w cu H0 t L H' y.1 ws ext' m→Q .dh H'):RM a ll wl w cu gr b t H0 L vs H Q E
theorem wd (T:Tx g.K g.mg a) {gr:Addr} {b:List UInt8}:Pr g 4 a.jQ ["self"] (RM a ll wl w cu gr b t H0 L):=by
 refine Pr.on T.my uI fun b6 A outer sh H vs Q E hr h=>?_
 obtain⟨s,ws,rest,ext,m,rfl,⟨dx,pr,part,i,D⟩,⟨nl,rfl,B⟩,k0,k1⟩:=h
 have W:=wcB T
 refine⟨_,ae (aT (pv 0) (a7 (ar (pv 0) rfl) (oH T) T.aL T.lE au hr (by decide)) rfl)
  (ag (az (aB T) au hr (by decide) T.aA (aH JB (aV aJ (by rfl) T.eO PySem.boot_len (aa (ar (pv 0) rfl) ai)) ak (aC _)))),?_⟩
 have gone:∀{H1 H2:Hp},Kp (At cu) H1 H2→ax H0 H1→ax H0 H2:=fun{H1 H2} k s y o q=>k _ _ (s _ _ q) (fun z=>by obtain rfl:y=cu:=z;rw[D.nc]at q;cases q)
 obtain⟨cd,pO⟩:=D.cur
 refine⟨_,rfl,w,_,dx,_,_,rfl,D.ob,W.cl,W.ji,bF,cu,cd,_,rfl,pO,k7,cu,pr,part,i,rfl,⟨cd,pO⟩,D.row,fun hn H1 k=>?_,fun x r hx v H1 i1 hv c1 lt le er k=>?_⟩
 ·rw[D.rest]at hn
  exact k0 (by unfold rj;rw[hn];rfl) _ (gone k D.same)
 ·obtain⟨l,rfl,hl,hL⟩:=hv
  rw[D.rest]at hx
  have D1:=D.read k c1 er
  have xw:Kp (ub w cu) H H1:=Kp.step (S:=ub w cu) Kp.refl k fun _ z=>.inl (.inr z)
  have B1:=B.keep xw (le_refl _)
  obtain⟨wa,zQ,pw⟩:=id B.wa
  have nlw:l≠w:=fun z=>by rw[z,D.ob]at hl;cases hl
  have WM:l≠cu:=fun z=>by rw[z,pO]at hl;cases hl
  have WO:l≠wl:=fun z=>by rw[z,zQ]at hl;cases hl
  refine⟨_,rfl,w,_,dx,_,rfl,D1.ob,T.aQ,T.du,D1.len,?_⟩
  rw[fb,y6]
  have D2:=D1.put (s':={s with name:=some x}) (ext':=sY ll s.library l s.plus wl) D.pl (by show 5≤10;decide)
  generalize hH2:upd H1 w (.ins a.aP dx (bE (.ref cu) (.ref gr) (.bl s.typed) (.bl s.placed) (.int (s.place:Int)) (sY ll s.library l s.plus wl)))=H2 at D2
  have kp2:Kp (ub w cu) H1 H2:=by rw[←hH2];exact Kp.upd (.inl (.inl rfl))
  have hL2:H2 l=some (.lst (bv x)):=kp2 _ _ hL fun z=>z.elim nlw WM
  have aeJ:=D2.ob
  rw[fb]at hH2 aeJ
  rw[hH2]
  refine⟨_,rfl,w,_,dx,_,_,rfl,aeJ,T.aQ,T.du,oj,l,_,rfl,.inl (bP.of hL2),_,_,rfl,rfl,_,rfl,aw (fun c2=>?_) fun c2=>k0 ?_ _ D2.same⟩
  ·rw[bt]at c2
   have HP:x≠[]:=fun z=>by rw[z]at c2;simp at c2
   have ab2:¬x.isEmpty=true:=fun z=>HP (isEmpty_iff.mp z)
   refine k1 ({s with name:=some x},r) (by unfold rj;rw[hx];show(if x.isEmpty=true then none else some ({s with name:=some x},r))=_;rw[IN ab2]) _ H2 ⟨dx,pr,part,i1,D2⟩ ⟨l,rfl,?_⟩
   have B2:=B1.keep kp2 (le_refl _)
   exact⟨B2.nw0,B2.n1,B2.n2,B2.len,B2.big,B2.libs,B2.fresh,B2.fresh l (D.same.free hl),hL2,fun z=>z.elim nlw fun q=>q.elim WM WO,fun y hy=>by cases hy;exact HP,B2.wa⟩
  ·rw[bt]at c2
   have ab2:x.isEmpty=true:=by
    rw[isEmpty_iff]
    cases x with
    |nil=>rfl
    |cons _ _=>exact absurd (by simp) c2
   unfold rj
   rw[hx]
   show(if x.isEmpty=true then none else some ({s with name:=some x},r))=_
   rw[iPp ab2]
theorem WR {x0 x1 x2 x3 x4:V} {nl:Addr} {wb plus:Nat} {m:Str} (h1:¬m = "cursor":=by decide +kernel) (h2:¬m = "ground":=by decide +kernel) (h3:¬m = "kind_told":=by decide +kernel) (h4:¬m = "place_told":=by decide +kernel) (h5:¬m = "place":=by decide +kernel)
 (h6:¬m = "libraries":=by decide +kernel) (h7:¬m = "library":=by decide +kernel) (h8:¬m = "name":=by decide +kernel) (h9:¬m = "added":=by decide +kernel) (VC:¬m = "wanted":=by decide +kernel):(bE x0 x1 x2 x3 x4 (sY ll wb nl plus wl)).lookup m=none:=by
 rw[fB h1 h2 h3 h4 h5]
 unfold sY
 rw[c8 h6,c8 h7,c8 h8,c8 h9,c8 VC]
 rfl
def Hs (n skip:Nat) (t:Told) (s:Now) (ws:List Wn):Option (Now×List Wn):=if (1≤s.library∧s.library≤t.libraries.length)∧s.name≠none then(CS n skip t s).map fun s'=>(s',ws++[⟨⟨s.place,n,skip⟩,s.library,s.name.getD [],s.plus⟩]) else none
theorem Tj {n skip:Nat} {s s':Now} (h:CS n skip t s=some s'):s'.name=s.name∧s'.library=s.library∧s'.plus=s.plus:=by
 unfold CS at h
 split at h
 ·obtain⟨y,hy,rfl⟩:=oMm h
  exact⟨rfl,rfl,rfl⟩
 ·cases h
inductive ZX (a:Ad) (ll wl w cu gr:Addr) (b:List UInt8) (t:Told) (H0:Hp) (L:Nat) (vs:List V) (H:Hp) (Q:VK) (E:XK):Prop
 |mk (s:Now) (ws:List Wn) (rest:List UInt8) (ext:List (Str×V)) (m n skip:Nat) (q0:vs=[.ref w,.int n,.int skip]) (q1:qt a a.aP H0 H w cu gr b t s rest ext) (q2:bJ a ll wl w cu H0 t L H s ws ext (m+1)) (q3:(Hs n skip t s ws=none→∀H',ax H0 H'→E (.ref a.aE) none H')) (q4:∀y,Hs n skip t s ws=some y→∀H',qt a a.aP H0 H' w cu gr b t y.1 rest ext→bJ a ll wl w cu H0 t L H' y.1 y.2 ext m→Q .dh H'):ZX a ll wl w cu gr b t H0 L vs H Q E
theorem gf (T:Tx g.K g.mg a) {gr:Addr} {b:List UInt8}:Pr g 7 a.iG ["self","count","between"] (ZX a ll wl w cu gr b t H0 L):=by
 refine Pr.on T.n8 ja fun b6 A outer sh H vs Q E hr h=>?_
 obtain⟨s,ws,rest,ext,m,n,skip,rfl,Wk0,⟨nl,rfl,B⟩,k0,k1⟩:=h
 obtain⟨dx,pr,part,i,D⟩:=id Wk0
 have W:=wcB T
 refine⟨_,ae (az (aB T) au hr (by decide) T.aA (zW iO iO ak (ar (pv 0) rfl) (aV aJ (by rfl) T.eO PySem.boot_len (aa (ar (pv 0) rfl) ai))))
  (ae (az (aB T) au hr (by decide) T.aA (aH JB (aV aJ (by rfl) T.eO PySem.boot_len (aa (ar (pv 0) rfl) ai)) ak (aC _)))
  (ae (aI (i:=3) ja.nd rfl (Or.inl rfl) (cN (pv 0) (D0 T W) T.aQ T.qd au hr (by decide) (aa (pv 1) (aa (pv 2) ai))))
  (ae (aI (i:=4) ja.nd rfl (Or.inl rfl) (fN cJ (ar (pv 0) rfl) (aO gA (ar (pv 0) rfl) ak) (fun _ _=>rfl)))
  (ag (aR (uh PySem.F.plainAttrs_list PySem.F.slot_list_append PySem.F.type_list_append iC (ar (pv 0) rfl) (aa (kT (Mc T) T.E3 au hr (by decide) T.U4 (aa (pv 3) (aa (ar (pv 0) rfl) (aa (pv 4) (aa (ar (pv 0) rfl) (aa (ar (pv 0) rfl) ai)))))) ai))))))),?_⟩
 have fail:¬((1≤s.library∧s.library≤t.libraries.length)∧s.name≠none)→E (.ref a.aE) none H:=fun z=>k0 (by unfold Hs;rw[IN z]) _ D.same
 have Dob:=D.ob
 rw[fb]at Dob
 obtain⟨la,hla,oM⟩:=B.libs
 have hlen:=bw oM
 have hll:=D.same _ _ hla
 refine⟨_,rfl,w,_,dx,_,_,rfl,Dob,T.aQ,T.bO,kh,_,_,rfl,rfl,_,rfl,aw (fun c1=>?_) fun c1=>⟨false,rfl,eA (fail fun z=>c1 (by have:=z.1.1;lia))⟩⟩
 refine⟨_,rfl,w,_,dx,_,_,rfl,Dob,T.aQ,T.cT,mR,ll,_,rfl,.inl (bP.of hll),_,_,rfl,rfl,_,rfl,aw (fun c2=>?_) fun c2=>fail fun z=>c2 (by rw[length_map,hlen];have:=z.1.2;lia)⟩
 rw[length_map,hlen]at c2
 refine⟨_,rfl,w,_,dx,_,_,rfl,Dob,T.aQ,T.du,oj,nl,_,rfl,.inl (bP.of B.nm),_,_,rfl,rfl,_,rfl,aw (fun c3=>?_) fun c3=>fail fun z=>c3 ?_⟩
 ·rw[bt]at c3
  have hnm:s.name≠none:=fun z=>by rw[z]at c3;simp at c3
  have cG:(1≤s.library∧s.library≤t.libraries.length)∧s.name≠none:=⟨⟨by lia,by lia⟩,hnm⟩
  have eF:Hs n skip t s ws=(CS n skip t s).map fun s'=>(s',ws++[⟨⟨s.place,n,skip⟩,s.library,s.name.getD [],s.plus⟩]):=by unfold Hs;rw[iPp cG]
  refine⟨_,rfl,w,dx,_,rfl,D.ob,WR,_,rfl,_,rfl,H0,w,cu,gr,b,t,s,rest,_,n,skip,rfl,Wk0,Qv,fun hn H1 s1=>k0 (by rw[eF,hn];rfl) _ s1,fun s' hs' x H1 Wk1 hx nx k=>?_⟩
  obtain⟨en,el,ep⟩:=Tj hs'
  have B1:=B.keep k (le_refl _)
  obtain⟨Yx,pr1,part1,i1,D1⟩:=Wk1
  have Qw:=D1.ob
  rw[fb]at Qw
  obtain⟨wa,zQ,pw⟩:=id B1.wa
  obtain⟨wa0,YB,pw0⟩:=id B.wa
  have nxw:x≠w:=fun z=>by rw[z,D.ob]at nx;cases nx
  have nxc:x≠cu:=fun z=>by obtain⟨d,e⟩:=D.cur;rw[z,e]at nx;cases nx
  have nxl:x≠wl:=fun z=>by rw[z,YB]at nx;cases nx
  obtain⟨lj,hlj⟩:∃j:Nat,s.library=j+1:=⟨s.library-1,by lia⟩
  have hjl:lj<la.length:=by lia
  have hlv:la[lj]?=some la[lj]:=getElem?_eq_getElem hjl
  generalize la[lj]=ln at hlv
  obtain⟨lx,hlx,T5,wln⟩:=rg oM hlv
  have elx:t.libraries.getD (s.library-1) []=lx:=by rw[hlj,Nat.add_sub_cancel,List.getD_eq_getElem?_getD,hlx];rfl
  have nln:¬ab1 w cu wl ln:=fun z=>z.elim (fun q=>by rw[q,D.nw]at T5;cases T5) fun q=>q.elim (fun q=>by rw[q,D.nc]at T5;cases T5) fun q=>by rw[q,B.nw0]at T5;cases T5
  refine⟨_,rfl,w,_,Yx,_,_,rfl,Qw,T.aQ,T.cT,mR,_,rfl,w,_,Yx,_,_,rfl,Qw,T.aQ,T.bO,kh,_,_,rfl,rfl,ll,_,_,.ref ln,rfl,rfl,bP.of (D1.same _ _ hla),at_of (j:=lj) (by lia) (by rw[getElem?_map,hlv];rfl),?_⟩
  refine⟨_,rfl,w,_,Yx,_,_,rfl,Qw,T.aQ,T.dN,qK,.inl ⟨rfl,_,bP.of zQ⟩,_,rfl,_,rfl,w,_,Yx,_,_,rfl,Qw,T.aQ,T.bO,kh,_,rfl,_,rfl,w,_,Yx,_,_,rfl,Qw,T.aQ,T.du,oj,_,rfl,w,_,Yx,_,_,rfl,Qw,T.aQ,T.d8,Ew,fun y d ny nd ZN=>⟨y,d,x,nl,ln,s.library,s.plus,rfl,af,fun H2 hy k2=>⟨rfl,?_⟩⟩⟩
  have s2:ax H1 H2:=ax.tS ny nd k2
  have D2:=D1.kept s2
  have YC:=s2 _ _ zQ
  have nyw:y≠w:=fun z=>by rw[z,D1.ob]at ny;cases ny
  have nyc:y≠cu:=fun z=>by obtain⟨d',e⟩:=D1.cur;rw[z,e]at ny;cases ny
  have nyl:y≠wl:=fun z=>by rw[z,zQ]at ny;cases ny
  refine⟨wl,_,_,rfl,rfl,YC,?_,?_⟩
  ·rw[length_map,bw pw]
   exact lt_of_lt_of_le (show ws.length<16000000 by have:=B.len;have:=B.big;lia) (by decide)
  have B2:bD a ll wl w cu H0 t L H2 s ws (m+1) nl:=B1.keep (Kp.same s2) (le_refl _)
  obtain⟨wa2,aeL,pw2⟩:=id B2.wa
  have ewa:wa2=wa:=by
   rw[YC]at aeL
   injection aeL with e
   injection e with e
   have inj:∀l1 l2:List Addr,l1.map V.ref=l2.map V.ref→l1=l2:=by
    intro l1
    induction l1 with
    |nil=>intro l2 h;cases l2 with|nil=>rfl|cons _ _=>simp at h
    |cons p l1 ih =>
     intro l2 h
     cases l2 with
     |nil=>simp at h
     |cons q l2 =>
      simp only[map_cons]at h
      injection h with h1 h2
      injection h1 with h1
      rw[h1,ih l2 h2]
   exact(inj _ _ e).symm
  subst ewa
  have kw:Kp (At wl) H2 (upd H2 wl (.lst (wa2.map V.ref++[.ref y]))):=Kp.upd (.inl rfl)
  refine k1 (s',ws++[⟨⟨s.place,n,skip⟩,s.library,s.name.getD [],s.plus⟩]) (by rw[eF,hs'];rfl) _ ⟨Yx,pr1,part1,i1,D2.other B.nw0 B.n1 B.n2⟩ ⟨nl,by rw[el,ep],?_⟩
  refine⟨B.nw0,B.n1,B.n2,by simp;have:=B.len;lia,B.big,B.libs,B.fresh,B.YA,?_,B.nb,fun z hz=>B.told z (by rw[←en];exact hz),wa2++[y],by rw[af,map_append];rfl,?_⟩
  ·rw[en,aj (fun z=>B.nb (.inr (.inr z)))]
   exact B2.nm
  ·refine gy (bf pw2 fun q _ u hu=>hu.keep kw fun z hz=>.inr (.inr hz)) ?_
   obtain⟨rd,Td⟩:=hx.same s2
   refine⟨d,x,nl,ln,?_,⟨rd,?_⟩,?_,?_,fun z=>z.elim nyw fun q=>q.elim nyc nyl,fun z=>z.elim nxw fun q=>q.elim nxc nxl,B.nb,nln,B.fresh y (D1.same.free ny),B.fresh x (D.same.free nx),B.YA,wln⟩
   ·rw[aj nyl]
    exact hy
   ·rw[aj nxl]
    exact Td
   ·rw[aj (fun z=>B.nb (.inr (.inr z)))]
    exact B2.nm
   ·rw[aj (fun z=>nln (.inr (.inr z))),elx]
    exact D2.same _ _ T5
 ·rw[bt]
  cases hs:s.name with
  |none=>exact absurd hs z.2
  |some x =>
   have:=B.told x hs
   show(0:Int)<(x.length:Nat)
   cases x with
   |nil=>exact absurd rfl this
   |cons _ _=>simp
end
def eQ (t:Told) (op cx:Nat) (s:Now) (ws:List Wn) (r:List UInt8):Option (Now×List Wn×List UInt8) :=
 if cx=0∨(op=1∨op=5∨op=7∨op=11) then
  if op=1 then some ({s with library:=cx},ws,r)
  else if op=2 then(uleb r).map fun x=>({s with library:=x.1},ws,x.2)
  else if op=4 then(rj s r).map fun y=>(y.1,ws,y.2)
  else if op=5 then(kR cx t s r).map fun y=>(y.1,ws,y.2)
  else if op=6 then(sleb r).map fun x=>({s with plus:=x.1},ws,x.2)
  else if op=7 then(jG cx t s r).map fun y=>(y.1,ws,y.2)
  else if op=8 then(uleb r).bind fun x=>(N9 x.1 t s x.2).map fun y=>(y.1,ws,y.2)
  else if op=9 then(Hs 1 0 t s ws).map fun y=>(y.1,y.2,r)
  else if op=10 then(uleb r).bind fun x=>(Hs 1 x.1 t s ws).map fun y=>(y.1,y.2,x.2)
  else if op=11 then(Hs 1 (8*cx) t s ws).map fun y=>(y.1,y.2,r)
  else if op=12 then((uleb r).bind fun x=>(uleb x.2).bind fun y=>(Hs x.1 y.1 t s ws).map fun z=>(z,y.2)).map fun z=>(z.1.1,z.1.2,z.2)
  else none
 else none
section
variable {g:Gm} {a:Ad} {ll wl w cu gr:Addr} {b:List UInt8} {H0:Hp} {t:Told} {L:Nat}
theorem we (T:Tx g.K g.mg a):Pr g 9 a.jR ["self","what","n"] (L8 a a.aP w cu gr b t (bJ a ll wl w cu H0 t L) H0 (eQ t)):=by
 refine Pr.on T.mz uJ fun b6 A outer sh H vs Q E hr h=>?_
 obtain⟨op,cx,s,ws,rest,ext,rfl,W0,⟨nl,rfl,B⟩,hop,Oa,k0,k1⟩:=h
 have W:=wcB T
 have GA:Pr g 8 a.bU ["self"] (Fb a w H0 (fun H r=>qt a a.aP H0 H w cu gr b t s r (sY ll s.library nl s.plus wl)∧bJ a ll wl w cu H0 t L H s ws (sY ll s.library nl s.plus wl) (rest.length+1)) (fun n skip=>Hs n skip t s ws) fun H' y r=>qt a a.aP H0 H' w cu gr b t y.1 r (sY ll s.library nl s.plus wl)∧bJ a ll wl w cu H0 t L H' y.1 y.2 (sY ll s.library nl s.plus wl) rest.length) :=
  kz (k:=7) (f:=a.iG) T W T.eI ((gf T (ll:=ll) (wl:=wl) (w:=w) (cu:=cu) (gr:=gr) (b:=b) (t:=t) (H0:=H0) (L:=L)).imp (by
   rintro vs H Q E ⟨r,n,skip,rfl,⟨p1,p2⟩,q0,q1⟩
   exact⟨s,ws,r,_,rest.length,n,skip,rfl,p1,p2,q0,fun y hy H' r1 r2=>q1 y hy H' ⟨r1,r2⟩⟩)) (by decide) Qv (fun H r p=>p.1) fun H H' r r' p w1 k=>⟨w1,(by obtain⟨nl',e',B'⟩:=p.2;exact⟨nl',e',B'.keep k (le_refl _)⟩)⟩
 refine⟨_,ae (az (aB T) au hr (by decide) T.aA (QV (aH b7 (pv 2) ak (aC _)) (ue (aH BX (pv 1) (pkr T.da) (by with_unfolding_all rfl)))))
  (ag (dt (bH b7 (pv 1) ak (aC _)) (ag (aT (pv 0) (pv 2) rfl)) (ag (dt (bH b7 (pv 1) ak (aC _)) (ag (aT (pv 0) (a7 (ar (pv 0) rfl) (bo T) T.aL T.bq au hr (by decide)) rfl)) (ag (dt (bH b7 (pv 1) ak (aC _)) (ag (aR (a7 (pv 0) (wd T (ll:=ll) (wl:=wl) (w:=w) (cu:=cu) (gr:=gr) (b:=b) (t:=t) (H0:=H0) (L:=L)) T.aQ T.mK au hr (by decide)))) (ag (dt (bH b7 (pv 1) ak (aC _)) (ag (aR (cN (pv 0) (pN T W) T.aQ T.jc au hr (by decide) (aa (pv 2) ai)))) (ag (dt (bH b7 (pv 1) ak (aC _)) (ag (aT (pv 0) (a7 (ar (pv 0) rfl) (rf T) T.aL T.j7 au hr (by decide)) rfl)) (ag (dt (bH b7 (pv 1) ak (aC _)) (ag (aR (cN (pv 0) (tT T W) T.aQ T.j9 au hr (by decide) (aa (pv 2) ai)))) (ag (dt (bH b7 (pv 1) ak (aC _)) (ag (aR (cN (pv 0) (lN T W) T.aQ T.mq au hr (by decide) (aa (a7 (ar (pv 0) rfl) (bo T) T.aL T.bq au hr (by decide)) ai)))) (ag (dt (bH b7 (pv 1) ak (aC _)) (ag (aR (cN (pv 0) (gf T (ll:=ll) (wl:=wl) (w:=w) (cu:=cu) (gr:=gr) (b:=b) (t:=t) (H0:=H0) (L:=L)) T.aQ T.eI au hr (by decide) (aa ak (aa ak ai))))) (ag (dt (bH b7 (pv 1) ak (aC _)) (ag (aR (cN (pv 0) (gf T (ll:=ll) (wl:=wl) (w:=w) (cu:=cu) (gr:=gr) (b:=b) (t:=t) (H0:=H0) (L:=L)) T.aQ T.eI au hr (by decide) (aa ak (aa (a7 (ar (pv 0) rfl) (bo T) T.aL T.bq au hr (by decide)) ai))))) (ag (dt (bH b7 (pv 1) ak (aC _)) (ag (aR (cN (pv 0) (gf T (ll:=ll) (wl:=wl) (w:=w) (cu:=cu) (gr:=gr) (b:=b) (t:=t) (H0:=H0) (L:=L)) T.aQ T.eI au hr (by decide) (aa ak (aa (aO yC (pk T.mr) (pv 2)) ai))))) (ag (dt (bH b7 (pv 1) ak (aC _)) (ag (aR (a7 (pv 0) GA T.aQ T.fE au hr (by decide)))) (ag (nK T.qF rfl rF rfl)))))))))))))))))))))))),?_⟩
 obtain⟨dx,pr,part,i,D⟩:=id W0
 have gone:∀{H1 H2:Hp},Kp (At cu) H1 H2→ax H0 H1→ax H0 H2:=fun{H1 H2} k s y o q=>k _ _ (s _ _ q) (fun z=>by obtain rfl:y=cu:=z;rw[D.nc]at q;cases q)
 obtain⟨cd,pO⟩:=D.cur
 have R8:Uy (V.int (op:Int)) [.int 1,.int 5,.int 7,.int 11]=decide (op=1∨op=5∨op=7∨op=11):=by
  rw[Bool.eq_iff_iff]
  simp[Uy,Uw]
  lia
 refine VS (c:=cx=0∨(op=1∨op=5∨op=7∨op=11)) (fun Q' hq=>?_) (fun hd=>?_) (fun hd=>k0 (by unfold eQ;rw[IN hd]) _ D.same)
 ·refine⟨_,rfl,rfl,_,rfl,aw (fun c1=>?_) fun c1=>?_⟩
  ·have c1:=bp c1
   rw[decide_eq_true (.inl (by lia))]at hq
   exact hq
  ·have c1:=br c1
   refine⟨_,rfl,_,_,rfl,.inr (T.ke _),rfl,rfl,?_⟩
   show Q' (V.bl (Uy (V.int (op:Int)) [.int 1,.int 5,.int 7,.int 11])) H
   rw[R8]
   have e:decide (cx=0∨(op=1∨op=5∨op=7∨op=11))=decide (op=1∨op=5∨op=7∨op=11):=by
    rw[Bool.eq_iff_iff,decide_eq_true_iff,decide_eq_true_iff]
    lia
   rw[←e]
   exact hq
 have eS:eQ t op cx s ws rest=(
  if op=1 then some ({s with library:=cx},ws,rest)
  else if op=2 then(uleb rest).map fun x=>({s with library:=x.1},ws,x.2)
  else if op=4 then(rj s rest).map fun y=>(y.1,ws,y.2)
  else if op=5 then(kR cx t s rest).map fun y=>(y.1,ws,y.2)
  else if op=6 then(sleb rest).map fun x=>({s with plus:=x.1},ws,x.2)
  else if op=7 then(jG cx t s rest).map fun y=>(y.1,ws,y.2)
  else if op=8 then(uleb rest).bind fun x=>(N9 x.1 t s x.2).map fun y=>(y.1,ws,y.2)
  else if op=9 then(Hs 1 0 t s ws).map fun y=>(y.1,y.2,rest)
  else if op=10 then(uleb rest).bind fun x=>(Hs 1 x.1 t s ws).map fun y=>(y.1,y.2,x.2)
  else if op=11 then(Hs 1 (8*cx) t s ws).map fun y=>(y.1,y.2,rest)
  else if op=12 then((uleb rest).bind fun x=>(uleb x.2).bind fun y=>(Hs x.1 y.1 t s ws).map fun z=>(z,y.2)).map fun z=>(z.1.1,z.1.2,z.2)
  else none):=by
  unfold eQ
  rw[iPp hd]
 refine⟨_,rfl,rfl,_,rfl,aw (fun e=>?_) fun e=>?_⟩
 ·have e:op=1:=by have:=bp e;lia
  rw[iPp e]at eS
  refine⟨_,rfl,_,rfl,w,_,dx,_,rfl,D.ob,T.aQ,T.bO,D.len,?_⟩
  rw[fb,kP]
  exact k1 ({s with library:=cx},ws,rest) eS _ ⟨_,⟨dx,pr,part,i,D.put (s':={s with library:=cx}) (ext':=sY ll cx nl s.plus wl) D.pl (by show 5≤10;decide)⟩,nl,rfl,((B.now (s':={s with library:=cx}) rfl).keep (Kp.upd (.inl (.inl rfl))) (Nat.le_succ _))⟩
 have e1:¬op=1:=by have:=br e;lia
 rw[IN e1]at eS
 refine⟨_,rfl,rfl,_,rfl,aw (fun e=>?_) fun e=>?_⟩
 ·have e:op=2:=by have:=bp e;lia
  rw[iPp e]at eS
  refine⟨_,rfl,w,_,dx,_,_,rfl,D.ob,W.cl,W.ji,bF,cu,cd,_,rfl,pO,aY,cu,pr,part,i,rfl,⟨cd,pO⟩,D.row,fun hn H1 k=>?_,fun x r hx v H1 i1 ev c1 lt le er k=>?_⟩
  ·rw[D.rest]at hn
   exact k0 (by rw[eS,hn];rfl) _ (gone k D.same)
  ·subst ev
   rw[D.rest]at hx
   have hlen:=(MX.bh hx).1
   have D1:=D.read k c1 er
   have xw:Kp (ub w cu) H H1:=Kp.step (S:=ub w cu) Kp.refl k fun _ z=>.inl (.inr z)
   have B1:bD a ll wl w cu H0 t L H1 s ws (r.length+1) nl:=B.keep xw (by dsimp only at hlen;lia)
   refine⟨_,rfl,w,_,dx,_,rfl,D1.ob,T.aQ,T.bO,D1.len,?_⟩
   rw[fb,kP]
   exact k1 ({s with library:=x},ws,r) (by rw[eS,hx];rfl) _ ⟨_,⟨dx,pr,part,i1,D1.put (s':={s with library:=x}) (ext':=sY ll x nl s.plus wl) D.pl (by show 5≤10;decide)⟩,nl,rfl,((B1.now (s':={s with library:=x}) rfl).keep (Kp.upd (.inl (.inl rfl))) (Nat.le_succ _))⟩
 have e2:¬op=2:=by have:=br e;lia
 rw[IN e2]at eS
 refine⟨_,rfl,rfl,_,rfl,aw (fun e=>?_) fun e=>?_⟩
 ·have e:op=4:=by have:=bp e;lia
  rw[iPp e]at eS
  refine⟨_,rfl,w,dx,_,rfl,D.ob,WR,s,ws,rest,_,rest.length+1,rfl,W0,⟨nl,rfl,B⟩,fun hn H1 s1=>k0 (by rw[eS,hn];rfl) _ s1,fun y hy ext' H1 W1 j1=>?_⟩
  obtain⟨nl1,ee,B1⟩:=j1
  refine k1 (y.1,ws,y.2) (by rw[eS,hy];rfl) _ ⟨ext',W1,nl1,ee,B1.keep Kp.refl ?_⟩
  unfold rj at hy
  obtain⟨x,hx,hy⟩:=oBb hy
  split at hy
  ·cases hy
  ·cases hy
   have:=MX.vY hx
   dsimp only
   lia
 have e4:¬op=4:=by have:=br e;lia
 rw[IN e4]at eS
 refine⟨_,rfl,rfl,_,rfl,aw (fun e=>?_) fun e=>?_⟩
 ·have e:op=5:=by have:=bp e;lia
  rw[iPp e]at eS
  refine⟨_,rfl,w,dx,_,rfl,D.ob,WR,_,rfl,H0,w,cu,gr,b,t,s,rest,_,cx,rfl,W0,fun hn H1 s1=>k0 (by rw[eS,hn];rfl) _ s1,fun y hy H1 W1 kp=>?_⟩
  have hy0:=hy
  unfold kR at hy
  split at hy
  ·cases hy
   exact k1 ({s with typed:=true},ws,rest) (by rw[eS,hy0];rfl) _ ⟨_,W1,nl,rfl,((B.now (s':={s with typed:=true}) rfl).keep kp (Nat.le_succ _))⟩
  ·cases hy
 have e5:¬op=5:=by have:=br e;lia
 rw[IN e5]at eS
 refine⟨_,rfl,rfl,_,rfl,aw (fun e=>?_) fun e=>?_⟩
 ·have e:op=6:=by have:=bp e;lia
  rw[iPp e]at eS
  refine⟨_,rfl,w,_,dx,_,_,rfl,D.ob,W.cl,W.ji,bF,cu,cd,_,rfl,pO,oO,cu,pr,part,i,rfl,⟨cd,pO⟩,D.row,fun hn H1 k=>?_,fun x r hx v H1 i1 ev c1 lt le er k=>?_⟩
  ·rw[D.rest]at hn
   exact k0 (by rw[eS,hn];rfl) _ (gone k D.same)
  ·subst ev
   rw[D.rest]at hx
   have hlen:=MX.Hl hx
   have D1:=D.read k c1 er
   have xw:Kp (ub w cu) H H1:=Kp.step (S:=ub w cu) Kp.refl k fun _ z=>.inl (.inr z)
   have B1:bD a ll wl w cu H0 t L H1 s ws (r.length+1) nl:=B.keep xw (by dsimp only at hlen;lia)
   refine⟨_,rfl,w,_,dx,_,rfl,D1.ob,T.aQ,T.d8,D1.len,?_⟩
   rw[fb,wZ]
   exact k1 ({s with plus:=x},ws,r) (by rw[eS,hx];rfl) _ ⟨_,⟨dx,pr,part,i1,D1.put (s':={s with plus:=x}) (ext':=sY ll s.library nl x wl) D.pl (by show 5≤10;decide)⟩,nl,rfl,((B1.now (s':={s with plus:=x}) rfl).keep (Kp.upd (.inl (.inl rfl))) (Nat.le_succ _))⟩
 have e6:¬op=6:=by have:=br e;lia
 rw[IN e6]at eS
 refine⟨_,rfl,rfl,_,rfl,aw (fun e=>?_) fun e=>?_⟩
 ·have e:op=7:=by have:=bp e;lia
  rw[iPp e]at eS
  refine⟨_,rfl,w,dx,_,rfl,D.ob,WR,_,rfl,H0,w,cu,gr,b,t,s,rest,_,cx,rfl,W0,fun hn H1 s1=>k0 (by rw[eS,hn];rfl) _ s1,fun y hy H1 W1 kp=>?_⟩
  have hy0:=hy
  unfold jG at hy
  obtain⟨x,hx,hy⟩:=oBb hy
  obtain⟨p,hp,rfl⟩:=oMm hy
  have:=(MX.bh hx).1
  exact k1 ({s with place:=(p+x.1)%W64,placed:=true},ws,x.2) (by rw[eS,hy0];rfl) _ ⟨_,W1,nl,rfl,((B.now (s':={s with place:=(p+x.1)%W64,placed:=true}) rfl).keep kp (by dsimp only;lia))⟩
 have e7:¬op=7:=by have:=br e;lia
 rw[IN e7]at eS
 refine⟨_,rfl,rfl,_,rfl,aw (fun e=>?_) fun e=>?_⟩
 ·have e:op=8:=by have:=bp e;lia
  rw[iPp e]at eS
  refine⟨_,rfl,w,dx,_,rfl,D.ob,WR,_,rfl,w,_,dx,_,_,rfl,D.ob,W.cl,W.ji,bF,cu,cd,_,rfl,pO,aY,cu,pr,part,i,rfl,⟨cd,pO⟩,D.row,fun hn H1 k=>?_,fun x r hx v H1 i1 ev c1 lt le er k=>?_⟩
  ·rw[D.rest]at hn
   exact k0 (by rw[eS,hn];rfl) _ (gone k D.same)
  ·subst ev
   rw[D.rest]at hx
   have hlen:=(MX.bh hx).1
   have D1:=D.read k c1 er
   have xw:Kp (ub w cu) H H1:=Kp.step (S:=ub w cu) Kp.refl k fun _ z=>.inl (.inr z)
   have B1:bD a ll wl w cu H0 t L H1 s ws (r.length+1) nl:=B.keep xw (by dsimp only at hlen;lia)
   refine⟨H0,w,cu,gr,b,t,s,r,_,x,rfl,⟨dx,pr,part,i1,D1⟩,(fun hn=>by cases hn),fun y hy H2 W2 kp=>?_⟩
   have hy0:=hy
   unfold N9 at hy
   cases hy
   exact k1 ({s with place:=(s.place+x)%W64},ws,r) (by rw[eS,hx];rfl) _ ⟨_,W2,nl,rfl,((B1.now (s':={s with place:=(s.place+x)%W64}) rfl).keep kp (Nat.le_succ _))⟩
 have e8:¬op=8:=by have:=br e;lia
 rw[IN e8]at eS
 refine⟨_,rfl,rfl,_,rfl,aw (fun e=>?_) fun e=>?_⟩
 ·have e:op=9:=by have:=bp e;lia
  rw[iPp e]at eS
  exact⟨_,rfl,w,dx,_,rfl,D.ob,WR,s,ws,rest,_,rest.length,1,0,rfl,W0,⟨nl,rfl,B⟩,fun hn H1 s1=>k0 (by rw[eS,hn];rfl) _ s1,fun y hy H1 W1 j1=>k1 (y.1,y.2,rest) (by rw[eS,hy];rfl) _ ⟨_,W1,j1⟩⟩
 have e9:¬op=9:=by have:=br e;lia
 rw[IN e9]at eS
 refine⟨_,rfl,rfl,_,rfl,aw (fun e=>?_) fun e=>?_⟩
 ·have e:op=10:=by have:=bp e;lia
  rw[iPp e]at eS
  refine⟨_,rfl,w,dx,_,rfl,D.ob,WR,_,rfl,w,_,dx,_,_,rfl,D.ob,W.cl,W.ji,bF,cu,cd,_,rfl,pO,aY,cu,pr,part,i,rfl,⟨cd,pO⟩,D.row,fun hn H1 k=>?_,fun x r hx v H1 i1 ev c1 lt le er k=>?_⟩
  ·rw[D.rest]at hn
   exact k0 (by rw[eS,hn];rfl) _ (gone k D.same)
  ·subst ev
   rw[D.rest]at hx
   have hlen:=(MX.bh hx).1
   have D1:=D.read k c1 er
   have xw:Kp (ub w cu) H H1:=Kp.step (S:=ub w cu) Kp.refl k fun _ z=>.inl (.inr z)
   have B1:bD a ll wl w cu H0 t L H1 s ws (r.length+1) nl:=B.keep xw (by dsimp only at hlen;lia)
   have ZW:eQ t op cx s ws rest=(Hs 1 x t s ws).map fun y=>(y.1,y.2,r):=by rw[eS,hx];rfl
   exact⟨s,ws,r,_,r.length,1,x,rfl,⟨dx,pr,part,i1,D1⟩,⟨nl,rfl,B1⟩,fun hn H2 s2=>k0 (by rw[ZW,hn];rfl) _ s2,fun y hy H2 W2 j2=>k1 (y.1,y.2,r) (by rw[ZW,hy];rfl) _ ⟨_,W2,j2⟩⟩
 have e10:¬op=10:=by have:=br e;lia
 rw[IN e10]at eS
 refine⟨_,rfl,rfl,_,rfl,aw (fun e=>?_) fun e=>?_⟩
 ·have e:op=11:=by have:=bp e;lia
  rw[iPp e]at eS
  refine⟨_,rfl,w,dx,_,rfl,D.ob,WR,_,rfl,_,_,rfl,rfl,.inl ⟨by decide,by decide⟩,s,ws,rest,_,rest.length,1,8*cx,?_,W0,⟨nl,rfl,B⟩,fun hn H1 s1=>k0 (by rw[eS,hn];rfl) _ s1,fun y hy H1 W1 j1=>k1 (y.1,y.2,rest) (by rw[eS,hy];rfl) _ ⟨_,W1,j1⟩⟩
  show[V.ref w,V.int 1,V.int ((8:Int)*(cx:Int))]=_
  rw[show(8:Int)*(cx:Int)=((8*cx:Nat):Int) by lia]
  rfl
 have e11:¬op=11:=by have:=br e;lia
 rw[IN e11]at eS
 refine⟨_,rfl,rfl,_,rfl,aw (fun e=>?_) fun e=>?_⟩
 ·have e:op=12:=by have:=bp e;lia
  rw[iPp e]at eS
  refine⟨_,rfl,w,dx,_,rfl,D.ob,WR,rest,rfl,⟨W0,nl,rfl,B⟩,fun hn H1 s1=>k0 (by rw[eS,hn];rfl) _ s1,fun y hy H1 hR=>?_⟩
  obtain⟨W1,nl1,ee,B1⟩:=hR
  refine k1 (y.1.1,y.1.2,y.2) (by rw[eS,hy];rfl) _ ⟨_,W1,nl1,ee,B1.keep Kp.refl ?_⟩
  obtain⟨x,hx,hy⟩:=oBb hy
  obtain⟨z,hz,hy⟩:=oBb hy
  obtain⟨q,hq,rfl⟩:=oMm hy
  have h1:=(MX.bh hx).1
  have h2:=(MX.bh hz).1
  dsimp only
  lia
 have e12:¬op=12:=by have:=br e;lia
 rw[IN e12]at eS
 exact k0 eS _ D.same
end
theorem Tn {s:Now} {r:List UInt8} {y:Now×List UInt8} (h:rj s r=some y):y.2.length≤r.length:=by
 unfold rj at h
 obtain⟨x,hx,h⟩:=oBb h
 have h1:=MX.vY hx
 split at h
 ·cases h
 ·cases h
  exact le_of_lt h1
theorem To {n:Nat} {t:Told} {s:Now} {r:List UInt8} {y:Now×List UInt8} (h:kR n t s r=some y):y.2.length≤r.length:=by
 unfold kR at h
 split at h
 ·cases h
  exact le_refl _
 ·cases h
theorem Tp {n:Nat} {t:Told} {s:Now} {r:List UInt8} {y:Now×List UInt8} (h:jG n t s r=some y):y.2.length≤r.length:=by
 unfold jG at h
 obtain⟨x,hx,h⟩:=oBb h
 obtain⟨p,hp,rfl⟩:=oMm h
 exact le_of_lt (MX.bh hx).1
theorem YD {n:Nat} {t:Told} {s:Now} {r:List UInt8} {y:Now×List UInt8} (h:N9 n t s r=some y):y.2.length≤r.length:=by
 unfold N9 at h
 cases h
 exact le_refl _
theorem Ki {t:Told}:∀op cx s ws r y,eQ t op cx s ws r=some y→y.2.2.length≤r.length:=by
 intro op cx s ws r y h
 unfold eQ at h
 by_cases hd:cx=0∨(op=1∨op=5∨op=7∨op=11)
 ·rw[iPp hd]at h
  by_cases e1:op=1
  ·rw[iPp e1]at h
   cases h;exact le_refl _
  rw[IN e1]at h
  by_cases e2:op=2
  ·rw[iPp e2]at h
   obtain⟨z,hz,rfl⟩:=oMm h;exact le_of_lt (MX.bh hz).1
  rw[IN e2]at h
  by_cases e4:op=4
  ·rw[iPp e4]at h
   obtain⟨z,hz,rfl⟩:=oMm h;exact Tn hz
  rw[IN e4]at h
  by_cases e5:op=5
  ·rw[iPp e5]at h
   obtain⟨z,hz,rfl⟩:=oMm h;exact To hz
  rw[IN e5]at h
  by_cases e6:op=6
  ·rw[iPp e6]at h
   obtain⟨z,hz,rfl⟩:=oMm h;exact le_of_lt (MX.Hl hz)
  rw[IN e6]at h
  by_cases e7:op=7
  ·rw[iPp e7]at h
   obtain⟨z,hz,rfl⟩:=oMm h;exact Tp hz
  rw[IN e7]at h
  by_cases e8:op=8
  ·rw[iPp e8]at h
   obtain⟨x,hx,h⟩:=oBb h;obtain⟨z,hz,rfl⟩:=oMm h;exact le_trans (YD hz) (le_of_lt (MX.bh hx).1)
  rw[IN e8]at h
  by_cases e9:op=9
  ·rw[iPp e9]at h
   obtain⟨z,hz,rfl⟩:=oMm h;exact le_refl _
  rw[IN e9]at h
  by_cases e10:op=10
  ·rw[iPp e10]at h
   obtain⟨x,hx,h⟩:=oBb h;obtain⟨z,hz,rfl⟩:=oMm h;exact le_of_lt (MX.bh hx).1
  rw[IN e10]at h
  by_cases e11:op=11
  ·rw[iPp e11]at h
   obtain⟨z,hz,rfl⟩:=oMm h;exact le_refl _
  rw[IN e11]at h
  by_cases e12:op=12
  ·rw[iPp e12]at h
   obtain⟨z,hz,rfl⟩:=oMm h;obtain⟨x,hx,hz⟩:=oBb hz;obtain⟨x2,WQ,hz⟩:=oBb hz;obtain⟨p,hp,rfl⟩:=oMm hz;exact le_of_lt (lt_trans (MX.bh WQ).1 (MX.bh hx).1)
  rw[IN e12]at h
  cases h
 ·rw[IN hd]at h
  cases h
def wg (t:Told) (part:List UInt8):Option (List Wn):=(jH (eQ t) (part.length+1) {} [] part).map (·.2)
section
variable {g:Gm} {a:Ad}
structure BIx where
 ll:Addr
 wl:Addr
 w:Addr
 cu:Addr
 gr:Addr
 b:List UInt8
 t:Told
 H0:Hp
 L:Nat
theorem EW (T:Tx g.K g.mg a):Pr g 10 a.cA ["self"] (fun vs H Q E=>∃i:BIx,L9 a a.aP i.w i.cu i.gr i.b i.t (bJ a i.ll i.wl i.w i.cu i.H0 i.t i.L) i.H0 (eQ i.t) vs H Q E) :=
 Pr.ex (ι:=BIx) ⟨0,0,0,0,0,[],{},fun _=>none,0⟩ fun i=>l6 (k:=9) T (wcB T) T.mL (we T) (by decide) (fun _ _ _ _ _ h=>by obtain⟨nl,e,_⟩:=h;rw[e];exact Qv) (fun H H' s x ext n n' h k hn=>by obtain⟨nl,e,B⟩:=h;exact⟨nl,e,B.keep k hn⟩) Ki
inductive RN (a:Ad) (vs:List V) (H:Hp) (Q:VK) (E:XK):Prop
 |mk (w dx pr gr ll:Addr) (q0:vs=[.ref w,.ref pr,.ref gr,.ref ll]) (q1:H w=some (.ins a.aP dx [])) (q2:∀cu nl wl H',H' w=some (.ins a.aP dx (bE (.ref cu) (.ref gr) (.bl false) (.bl false) (.int 0) (sY ll 0 nl 0 wl)))→oF a.bA H' cu pr 0→H' nl=some (.lst [])→H' wl=some (.lst [])→H cu=none→H nl=none→H wl=none→nl≠wl→Kp (At w) H H'→Q .dh H'):RN a vs H Q E
theorem EX (T:Tx g.K g.mg a):Pr g 4 a.rV ["self","part","ground","libraries"] (RN a):=by
 refine Pr.on T.u5 Em fun b6 A outer s H vs Q E hr h=>?_
 obtain⟨w,dx,pr,gr,ll,rfl,hw,k⟩:=h
 have W:=wcB T
 refine⟨_,ae (aR (ZE T.La (BC T W) au hr (by decide) T.Pd (aa (pv 0) (aa (pv 1) (aa (pv 2) ai)))))
  (ae (aT (pv 0) (pv 3) rfl)
  (ae (aT (pv 0) ak rfl)
  (ae (aT (pv 0) (cy ai) rfl)
  (ae (aT (pv 0) ak rfl)
  (ag (aT (pv 0) (cy ai) rfl)))))),?_⟩
 refine⟨_,rfl,_,rfl,_,rfl,w,dx,pr,gr,rfl,hw,fun cu H1 T4 pO VR k1=>?_⟩
 obtain⟨d,hc⟩:=pO
 have ncw:cu≠w:=fun z=>by rw[z,hw]at VR;cases VR
 refine⟨_,rfl,_,rfl,w,_,dx,_,rfl,T4,T.aQ,T.cT,(by show 5<1000;decide),_,rfl,w,_,dx,_,rfl,af,T.aQ,T.bO,?_,zero_le _,fun nl YE=>?_⟩
 ·exact lt_of_le_of_lt (bj _ _ _) (by show 5+1<1000;decide)
 rw[bN]at YE ⊢
 have ZY:w≠nl:=aq af YE
 have ab4:H1 nl=none:=by rw[aj ZY.symm]at YE;exact YE
 refine⟨_,rfl,w,_,dx,_,rfl,(by rw[aj ZY];exact af),T.aQ,T.du,?_,_,rfl,w,_,dx,_,rfl,af,T.aQ,T.d8,?_,zero_le _,fun wl zQ=>?_⟩
 ·exact lt_of_le_of_lt (bj _ _ _) (lt_of_le_of_lt (succ_le_succ (bj _ _ _)) (by show 5+1+1<1000;decide))
 ·exact lt_of_le_of_lt (bj _ _ _) (lt_of_le_of_lt (succ_le_succ (bj _ _ _)) (lt_of_le_of_lt (succ_le_succ (succ_le_succ (bj _ _ _))) (by show 5+1+1+1<1000;decide)))
 rw[bN]at zQ ⊢
 have nww:w≠wl:=aq af zQ
 have nnn:nl≠wl:=fun z=>by
  rw[←z,aj ZY.symm,af]at zQ
  cases zQ
 have ab6:H1 wl=none:=by rw[aj nww.symm,aj nnn.symm,aj nww.symm]at zQ;exact zQ
 refine⟨_,rfl,w,_,dx,_,rfl,(by rw[aj nww];exact af),T.aQ,T.dN,?_,?_⟩
 ·exact lt_of_le_of_lt (bj _ _ _) (lt_of_le_of_lt (succ_le_succ (bj _ _ _)) (lt_of_le_of_lt (succ_le_succ (succ_le_succ (bj _ _ _))) (lt_of_le_of_lt (succ_le_succ (succ_le_succ (succ_le_succ (bj _ _ _)))) (by show 5+1+1+1+1<1000;decide))))
 have e:aF "wanted" (V.ref wl) (aF "added" (V.int 0) (aF "name" (V.ref nl) (aF "library" (V.int 0) (aF "libraries" (V.ref ll) (bE (.ref cu) (.ref gr) (.bl false) (.bl false) (.int 0) [])))))=bE (.ref cu) (.ref gr) (.bl false) (.bl false) (.int 0) (sY ll 0 nl 0 wl):=by
  have:=Ld (x0:=V.ref cu) (x1:=V.ref gr) (x2:=V.bl false) (x3:=V.bl false) (x4:=V.int 0) (x5:=V.ref ll) (x6:=V.int 0) (x7:=V.ref nl) (x8:=V.int 0) (x9:=V.ref wl)
  rw[this]
  rfl
 rw[e]
 have back:∀{x:Addr},x≠w→H1 x=none→H x=none:=fun{x} n e=>by
  cases q:H x with
  |none=>rfl
  |some o=>rw[k1 _ _ q n]at e;cases e
 have ncn:cu≠nl:=aq hc ab4
 have ncl:cu≠wl:=aq hc ab6
 refine k cu nl wl _ af ⟨d,by rw[aj ncw,aj ncl,aj ncw,aj ncn,aj ncw];exact hc⟩ (by rw[aj ZY.symm,aj nnn,aj ZY.symm];exact af) (by rw[aj nww.symm];exact af) VR (back ZY.symm ab4) (back nww.symm ab6) nnn ?_
 intro y o q n
 have hy:=k1 _ _ q n
 rw[aj n,aj (aq hy ab6),aj n,aj (aq hy ab4),aj n]
 exact hy
inductive Ht (a:Ad) (vs:List V) (H:Hp) (Q:VK) (E:XK):Prop
 |mk (pr gr ll:Addr) (la:List Addr) (b part:List UInt8) (t:Told) (q0:vs=[.ref pr,.ref gr,.ref ll]) (q1:H pr=some (.lst (bv part))) (q2:part.length<15000000) (q3:H ll=some (.lst (la.map V.ref))) (q4:Paired (fun x l=>H x=some (.lst (bv l))∧a.new x) la t.libraries) (q5:(∀z,H z=none→a.new z)) (q6:Bz a H gr t) (q7:TG b t) (q8:(wg t part=none→∀H',ax H H'→E (.ref a.aE) none H')) (q9:∀ws,wg t part=some ws→∀wl wa bad H',H' wl=some (.lst (wa.map V.ref))→Paired (CT a t.libraries bad H') wa ws→ws.length≤part.length→H wl=none→ax H H'→Q (.ref wl) H'):Ht a vs H Q E
theorem Md (T:Tx g.K g.mg a):Pr g 11 a.Cd ["part","ground","libraries"] (Ht a):=by
 refine Pr.on T.Dw Ak fun b6 A outer s H vs Q E hr h=>?_
 obtain⟨pr,gr,ll,la,b,part,t,rfl,hpr,oM,hll,hla,Eh,G,tg,k0,k1⟩:=h
 refine⟨_,ae (aI (i:=3) Ak.nd rfl (Or.inl rfl) (kT (EX T) T.se au hr (by decide) T.JZ (aa (pv 0) (aa (pv 1) (aa (pv 2) ai)))))
  (ae (aR (a7 (pv 3) (EW T) T.aQ T.gE au hr (by decide)))
  (ag (aS (ar (pv 3) rfl)))),?_⟩
 refine⟨_,rfl,_,rfl,_,rfl,fun w d nw nd ZN=>⟨w,d,pr,gr,ll,rfl,af,fun cu nl wl H1 T4 pO YE zQ VR nnl nwl nnn k=>⟨rfl,?_⟩⟩⟩
 have s1:ax H H1:=ax.tS nw nd k
 have old:∀{x:Addr},upd (upd H d (.own w)) w (.ins a.aP d []) x=none→H x=none:=fun{x} e=>by
  have h1:x≠w:=fun z=>by rw[z,af]at e;cases e
  rw[aj h1]at e
  have h2:x≠d:=fun z=>by rw[z,af]at e;cases e
  rw[aj h2]at e
  exact e
 have abZ:=old VR
 have aeQ:=old nwl
 have nww:wl≠w:=fun z=>by rw[z,af]at nwl;cases nwl
 have ZY:nl≠w:=fun z=>by rw[z,af]at nnl;cases nnl
 obtain⟨cd,hc⟩:=id pO
 have nwc:wl≠cu:=cS zQ hc (by intro z;cases z)
 have nnc:nl≠cu:=cS YE hc (by intro z;cases z)
 have D:HR a a.aP H H1 w cu gr b t {} part (sY ll 0 nl 0 wl) d pr part 0:=⟨T4,pO,hpr,rfl,G,tg,s1,nw,abZ,by decide,by show 5≤10;decide⟩
 have B:bD a ll wl w cu H t part.length H1 {} [] part.length nl:=⟨aeQ,nww,nwc,by simp,by lia,⟨la,hll,hla⟩,Eh,Eh nl (old nnl),YE,(fun z=>z.elim ZY fun q=>q.elim nnc nnn),(fun x hx=>by cases hx),⟨[],zQ,.nil⟩⟩
 refine⟨_,rfl,w,d,_,rfl,T4,WR,⟨ll,wl,w,cu,gr,b,t,H,part.length⟩,{},[],part,rfl,⟨_,⟨d,pr,part,0,D⟩,nl,rfl,B⟩,fun hn H2 s2=>k0 (by unfold wg;rw[hn];rfl) _ s2,fun y hy H2 W2=>?_⟩
 obtain⟨_,⟨d2,pr2,part2,i2,D2⟩,nl2,rfl,B2⟩:=W2
 obtain⟨wa,YC,pw⟩:=B2.wa
 have Dob:=D2.ob
 rw[fb]at Dob
 exact⟨_,rfl,w,_,d2,_,_,rfl,Dob,T.aQ,T.dN,qK,k1 y.2 (by unfold wg;rw[hy];rfl) wl wa _ H2 YC pw (by have:=B2.len;lia) aeQ D2.same⟩
end
end MI
namespace MX
open Rc31
def jI:Nat→Bytes→Bytes→Option (List (Nat×Bytes))
 |0,_,_=>some []
 |k+1,pre,r=>(textIn r).bind fun s=>if s.1.isEmpty=true∨255<pre.length+s.1.length then none else(uleb s.2).bind fun x=>(jI k pre x.2).map fun l=>(x.1,pre++s.1)::l
def fP (size:Nat) (pre:Bytes) (x:Nat×Bytes):Option (List (Bytes×Nat)) :=
 if x.1=0 then some [] else if x.2.length<x.1 then none else(uleb (x.2.take x.1)).bind fun y=>(uleb y.2).bind fun z=>if y.1=0∧z.1<size∧z.2.isEmpty=true∧pre.isEmpty=false then some [(pre,z.1)] else none
def kA (e:Bytes) (size i:Nat) (pre:Bytes):Option (List (Bytes×Nat)×List (Nat×Bytes)) :=
 if e.length≤i then none else(uleb (e.drop i)).bind fun x=>(fP size pre x).bind fun h=>match x.2.drop x.1 with
  | []=>none
  |n::r=>(jI n.toNat pre r).map fun l=>(h,l)
inductive cR (e:Bytes) (size:Nat):List (Nat×Bytes)→List (Bytes×Nat)→List Nat→Prop
 |nil:cR e size [] [] []
 |cons {i:Nat} {pre:Bytes} {h:List (Bytes×Nat)} {kids rest:List (Nat×Bytes)} {gk gr:List (Bytes×Nat)} {nk nr:List Nat} :
  kA e size i pre=some (h,kids)→cR e size kids gk nk→cR e size rest gr nr→cR e size ((i,pre)::rest) (h++(gk++gr)) (i::(nk++nr))
theorem cR.append {e:Bytes} {size:Nat} {a b:List (Nat×Bytes)} {ga gb:List (Bytes×Nat)} {na nb:List Nat} (A:cR e size a ga na) (B:cR e size b gb nb):cR e size (a++b) (ga++gb) (na++nb):=by
 induction A with
 |nil=>exact B
 |cons h k r _ ihr =>
  have:=cR.cons h k ihr
  simpa [append_assoc] using this
theorem cR.split {e:Bytes} {size:Nat} {b:List (Nat×Bytes)}:∀{a:List (Nat×Bytes)} {g:List (Bytes×Nat)} {n:List Nat},cR e size (a++b) g n→∃ga gb na nb,cR e size a ga na∧cR e size b gb nb∧g=ga++gb∧n=na++nb
 | [],g,n,h=>⟨[],g,[],n,.nil,h,rfl,rfl⟩
 |(i,pre)::a,g,n,h=>by
  cases h with
  |cons h k r =>
   obtain⟨ga,gb,na,nb,h1,h2,rfl,rfl⟩:=cR.split r
   exact⟨_,gb,_,nb,.cons h k h1,h2,by simp[append_assoc],by simp[append_assoc]⟩
theorem BE (e:Bytes) (size:Nat):∀f:Nat,(∀(i:Nat) (pre:Bytes) (l:List (Bytes×Nat)×List Nat),names e size f i pre=some l→cR e size [(i,pre)] l.1 l.2) ∧
 (∀(k:Nat) (pre r:Bytes) (l:List (Bytes×Nat)×List Nat),children e size f k pre r=some l→∃kids,jI k pre r=some kids∧cR e size kids l.1 l.2)
 |0=>⟨fun i pre l h=>by simp[names]at h,fun k pre r l h=>by simp[children]at h⟩
 |f+1=>by
  obtain⟨ihn,ihc⟩:=BE e size f
  refine⟨fun i pre l h=>?_,fun k pre r l h=>?_⟩
  ·rw[names]at h
   by_cases hl:e.length≤i
   ·simp[hl]at h
   ·rw[IN hl]at h
    obtain⟨x,hx,h⟩:=oBb h
    obtain⟨hh,hhe,h⟩:=oBb h
    cases hd:x.2.drop x.1 with
    |nil=>rw[hd]at h;simp at h
    |cons n r =>
     rw[hd]at h
     simp only[map_eq_some_iff]at h
     obtain⟨c,hc,rfl⟩:=h
     obtain⟨kids,hk,F⟩:=ihc _ _ _ _ hc
     have hn:kA e size i pre=some (hh,kids):=by
      unfold kA
      rw[IN hl,hx]
      simp only[bind_some]
      have:fP size pre x=some hh:=hhe
      rw[this]
      simp only[bind_some]
      rw[hd]
      simp only[hk,map_some]
     have:=cR.cons hn F cR.nil
     simpa using this
  ·cases k with
   |zero=>rw[children]at h;cases h;exact⟨[],rfl,.nil⟩
   |succ k =>
    rw[children]at h
    obtain⟨s,hs,h⟩:=oBb h
    by_cases hb:s.1.isEmpty=true∨255<pre.length+s.1.length
    ·rw[iPp hb]at h;cases h
    ·rw[IN hb]at h
     obtain⟨x,hx,h⟩:=oBb h
     obtain⟨l1,h1,h⟩:=oBb h
     obtain⟨m,hm,rfl⟩:=oMm h
     obtain⟨kids,hk,F⟩:=ihc _ _ _ _ hm
     refine⟨(x.1,pre++s.1)::kids,?_,?_⟩
     ·unfold jI
      rw[hs];simp only[bind_some]
      rw[IN hb,hx];simp only[bind_some]
      rw[hk];rfl
     ·have F1:=ihn _ _ _ h1
      exact F1.append F
theorem rl:∀{k:Nat} {pre r:Bytes} {kids:List (Nat×Bytes)},jI k pre r=some kids→kids.length=k∧∀x∈kids,pre.length<x.2.length∧x.2.length≤255
 |0,_,_,kids,h=>by cases h;exact⟨rfl,fun _ h=>nomatch h⟩
 |k+1,pre,r,kids,h=>by
  unfold jI at h
  obtain⟨s,hs,h⟩:=oBb h
  by_cases hb:s.1.isEmpty=true∨255<pre.length+s.1.length
  ·rw[iPp hb]at h;cases h
  ·rw[IN hb]at h
   obtain⟨x,hx,h⟩:=oBb h
   obtain⟨m,hm,rfl⟩:=oMm h
   obtain⟨e1,e2⟩:=rl hm
   refine⟨by simp[e1],fun y hy=>?_⟩
   cases hy with
   |head =>
    have:s.1≠[]:=fun q=>hb (.inl (by rw[q];rfl))
    have:0<s.1.length:=List.length_pos_iff.mpr this
    simp only[length_append]
    lia
   |tail _ hy=>exact e2 y hy
theorem zK {e:Bytes} {size i:Nat} {pre:Bytes} {h:List (Bytes×Nat)} {kids:List (Nat×Bytes)} (q:kA e size i pre=some (h,kids)):i<e.length∧kids.length≤255∧∀x∈kids,pre.length<x.2.length∧x.2.length≤255:=by
 unfold kA at q
 by_cases hl:e.length≤i
 ·rw[iPp hl]at q;cases q
 ·rw[IN hl]at q
  obtain⟨x,hx,q⟩:=oBb q
  obtain⟨hh,hhe,q⟩:=oBb q
  cases hd:x.2.drop x.1 with
  |nil=>rw[hd]at q;cases q
  |cons n r =>
   rw[hd]at q
   obtain⟨c,hc,q⟩:=oMm q
   cases q
   obtain⟨e1,e2⟩:=rl hc
   refine⟨by lia,?_,e2⟩
   rw[e1]
   have:=n.toNat_lt
   lia
theorem Me {e:Bytes} {size:Nat} {L:List (Nat×Bytes)} {g:List (Bytes×Nat)} {ns:List Nat} (F:cR e size L g ns) :
 (∀(i:Nat) (pre:Bytes),L=[(i,pre)]→pre.length≤255→∀f,257*(255-pre.length)+2≤f→names e size f i pre=some (g,ns)) ∧
 (∀(k:Nat) (pre r:Bytes),jI k pre r=some L→pre.length≤255→k≤255→∀f,257*(255-pre.length)+1≤f+(255-k)→k+1≤f→children e size f k pre r=some (g,ns)):=by
 induction F with
 |nil =>
  refine⟨fun i pre h=>(nomatch h),fun k pre r hk hp hk2 f hf hkf=>?_⟩
  have:=(rl hk).1
  simp at this
  subst this
  obtain⟨f,rfl⟩:∃f',f=f'+1:=⟨f-1,by lia⟩
  simp[children]
 |@cons i pre h kids rest gk gr nk nr hn Fk Fr ihk ihr =>
  have one:∀f,pre.length≤255→257*(255-pre.length)+2≤f→names e size f i pre=some (h++gk,i::nk):=by
   intro f hp hf
   obtain⟨f,rfl⟩:∃f',f=f'+1:=⟨f-1,by lia⟩
   obtain⟨hi,hkl,hkk⟩:=zK hn
   unfold kA at hn
   rw[IN (by lia)]at hn
   obtain⟨x,hx,hn⟩:=oBb hn
   obtain⟨hh,hhe,hn⟩:=oBb hn
   rw[names,IN (by lia),hx]
   simp only[bind_some]
   have aeR:=hhe
   unfold fP at aeR
   rw[aeR]
   simp only[bind_some]
   cases hd:x.2.drop x.1 with
   |nil=>rw[hd]at hn;cases hn
   |cons n r =>
    rw[hd]at hn
    obtain⟨c,hc,hn⟩:=oMm hn
    cases hn
    have hnk:=(rl hc).1
    have hlen:n.toNat≤255:=by lia
    have hc':children e size f n.toNat pre r=some (gk,nk):=by
     refine ihk.2 _ _ _ hc hp hlen f ?_ ?_
     ·lia
     ·by_cases amO:pre.length=255
      ·cases kids with
       |nil=>simp at hnk;lia
       |cons y ys =>
        have:=hkk y (mem_cons_self ..)
        lia
      ·lia
    dsimp only
    rw[hc']
    simp
  refine⟨fun i' amP hL hp f hf=>?_,fun k p r hk hp hk2 f hf hkf=>?_⟩
  ·cases hL
   cases Fr
   rw[one f hp hf]
   simp
  ·cases k with
   |zero=>cases hk
   |succ k =>
    have hk0:=hk
    unfold jI at hk
    obtain⟨s,hs,hk⟩:=oBb hk
    by_cases hb:s.1.isEmpty=true∨255<p.length+s.1.length
    ·rw[iPp hb]at hk;cases hk
    ·rw[IN hb]at hk
     obtain⟨x,hx,hk⟩:=oBb hk
     obtain⟨m,hm,hk⟩:=oMm hk
     cases hk
     have hlen:=(rl hk0).2 _ (mem_cons_self ..)
     simp only at hlen
     obtain⟨f,rfl⟩:∃f',f=f'+1:=⟨f-1,by lia⟩
     rw[children,hs]
     simp only[bind_some]
     rw[IN hb,hx]
     simp only[bind_some]
     rw[one f (by lia) (by lia)]
     simp only[bind_some]
     have:=ihr.2 _ _ _ hm hp (by lia) f (by lia) (by lia)
     rw[this]
     simp
theorem kB {α:Type} [BEq α] [LawfulBEq α]:∀l:List α,distinct l=true↔l.Nodup
 | []=>by simp[distinct]
 |x::r=>by
  have ih:=kB r
  simp only[distinct,and_eq_true,ih,nodup_cons]
  simp
theorem CU {e:Bytes} {size:Nat} (he:e≠[]) {g:List (Bytes×Nat)}:gives e size=some g↔∃ns,cR e size [(0,[])] g ns∧ns.Nodup∧(g.map fun x=>x.1).Nodup:=by
 unfold gives
 rw[IN (by simpa using he)]
 constructor
 ·intro h
  obtain⟨l,hl,h⟩:=oBb h
  by_cases hd:distinct l.2=true∧distinct (l.1.map fun x=>x.1)=true
  ·rw[iPp hd]at h
   cases h
   exact⟨l.2,(BE e size _).1 _ _ _ hl,(kB _).mp hd.1,(kB _).mp hd.2⟩
  ·rw[IN hd]at h;cases h
 ·rintro⟨ns,F,h1,h2⟩
  rw[(Me F).1 0 [] rfl (by decide) 70000 (by decide)]
  simp only[bind_some]
  rw[iPp ⟨(kB _).mpr h1,(kB _).mpr h2⟩]
def Left (e:Bytes) (size:Nat) (S:List (Nat×Bytes)) (P:List Nat) (G:List (Bytes×Nat)) (g':List (Bytes×Nat)) (ES:List Nat):Prop :=
 cR e size S g' ES∧(P++ES).Nodup∧((G++g').map fun x=>x.1).Nodup
structure l7 (e:Bytes) (size:Nat) (S:List (Nat×Bytes)) (P:List Nat) (G:List (Bytes×Nat)):Prop where
 fwd:∀g,gives e size=some g→∃g' ES,Left e size S P G g' ES∧g.Perm (G++g')
 bwd:∀g' ES,Left e size S P G g' ES→∃g,gives e size=some g∧g.Perm (G++g')
theorem l7.start {e:Bytes} {size:Nat} (he:e≠[]):l7 e size [(0,[])] [] [] where
 fwd:=fun g h=>by
  obtain⟨ns,F,h1,h2⟩:=(CU he).mp h
  exact⟨g,ns,⟨F,by simpa using h1,by simpa using h2⟩,by simp⟩
 bwd:=fun g' ES ⟨F,h1,h2⟩=>⟨g',(CU he).mpr ⟨ES,F,by simpa using h1,by simpa using h2⟩,by simp⟩
theorem l7.no {e:Bytes} {size:Nat} {S:List (Nat×Bytes)} {P:List Nat} {G:List (Bytes×Nat)} (W:l7 e size S P G) (h:∀g' ES,¬Left e size S P G g' ES):gives e size=none:=by
 cases hg:gives e size with
 |none=>rfl
 |some g =>
  obtain⟨g',ES,L,_⟩:=W.fwd g hg
  exact absurd L (h _ _)
theorem cR.last {e:Bytes} {size:Nat} {S:List (Nat×Bytes)} {i:Nat} {pre:Bytes} {g:List (Bytes×Nat)} {n:List Nat} (F:cR e size (S++[(i,pre)]) g n) :
 ∃h kids gS nS gk nk,kA e size i pre=some (h,kids)∧cR e size S gS nS∧cR e size kids gk nk∧g=gS++(h++gk)∧n=nS++i::nk:=by
 obtain⟨ga,gb,na,nb,h1,h2,rfl,rfl⟩:=F.split
 cases h2 with
 |cons hn k r =>
  cases r
  exact⟨_,_,ga,na,_,_,hn,h1,k,by simp,by simp⟩
theorem l7.bad {e:Bytes} {size:Nat} {S:List (Nat×Bytes)} {P:List Nat} {G:List (Bytes×Nat)} {i:Nat} {pre:Bytes} (W:l7 e size (S++[(i,pre)]) P G) (h:kA e size i pre=none):gives e size=none:=by
 refine W.no fun g' ES ⟨F,_,_⟩=>?_
 obtain⟨_,_,_,_,_,_,hn,_⟩:=F.last
 rw[h]at hn
 cases hn
theorem l7.twice {e:Bytes} {size:Nat} {S:List (Nat×Bytes)} {P:List Nat} {G:List (Bytes×Nat)} {i z:Nat} {pre:Bytes} {kids:List (Nat×Bytes)} (W:l7 e size (S++[(i,pre)]) P G) (h:kA e size i pre=some ([(pre,z)],kids)) (hm:pre∈G.map fun x=>x.1):gives e size=none:=by
 refine W.no fun g' ES ⟨F,_,h2⟩=>?_
 obtain⟨_,_,_,_,_,_,hn,_,_,rfl,rfl⟩:=F.last
 rw[h]at hn
 cases hn
 rw[map_append,nodup_append]at h2
 exact h2.2.2 pre hm pre (by simp) rfl
theorem l7.step {e:Bytes} {size:Nat} {S:List (Nat×Bytes)} {P:List Nat} {G:List (Bytes×Nat)} {i:Nat} {pre:Bytes} {h:List (Bytes×Nat)} {kids:List (Nat×Bytes)} (W:l7 e size (S++[(i,pre)]) P G) (hn:kA e size i pre=some (h,kids)) :
 l7 e size (S++kids) (P++[i]) (G++h):=by
 have key:∀gS nS gk nk,cR e size S gS nS→cR e size kids gk nk→(Left e size (S++[(i,pre)]) P G (gS++(h++gk)) (nS++i::nk)↔Left e size (S++kids) (P++[i]) (G++h) (gS++gk) (nS++nk))∧(G++(gS++(h++gk))).Perm (G++h++(gS++gk)):=by
  intro gS nS gk nk FS Fk
  have p1:(G++(gS++(h++gk))).Perm (G++h++(gS++gk)):=by
   rw[append_assoc]
   refine Perm.append_left _ ?_
   rw[←append_assoc,←append_assoc]
   exact Perm.append_right _ List.perm_append_comm
  have p2:(P++(nS++i::nk)).Perm (P++[i]++(nS++nk)):=by
   rw[append_assoc]
   exact Perm.append_left _ List.perm_middle
  refine⟨⟨fun⟨_,h1,h2⟩=>⟨FS.append Fk,p2.nodup_iff.mp h1,(p1.map _).nodup_iff.mp h2⟩,fun⟨_,h1,h2⟩=>⟨FS.append (by simpa using cR.cons hn Fk .nil),p2.nodup_iff.mpr h1,(p1.map _).nodup_iff.mpr h2⟩⟩,p1⟩
 refine⟨fun g hg=>?_,fun g' ES L=>?_⟩
 ·obtain⟨g',ES,L,p⟩:=W.fwd g hg
  obtain⟨_,_,gS,nS,gk,nk,WZ,FS,Fk,rfl,rfl⟩:=L.1.last
  rw[hn]at WZ
  cases WZ
  obtain⟨k1,k2⟩:=key gS nS gk nk FS Fk
  exact⟨gS++gk,nS++nk,k1.mp L,p.trans k2⟩
 ·obtain⟨gS,gk,nS,nk,FS,Fk,rfl,rfl⟩:=L.1.split
  obtain⟨k1,k2⟩:=key gS nS gk nk FS Fk
  obtain⟨g,hg,p⟩:=W.bwd _ _ (k1.mpr L)
  exact⟨g,hg,p.trans k2⟩
theorem cR.roots {e:Bytes} {size:Nat} {S:List (Nat×Bytes)} {g:List (Bytes×Nat)} {n:List Nat} (F:cR e size S g n):(S.map fun x=>x.1).Sublist n:=by
 induction F with
 |nil=>exact .slnil
 |cons _ _ _ _ ih =>
  refine Sublist.cons_cons _ ?_
  exact ih.trans (List.sublist_append_right _ _)
theorem l7.met {e:Bytes} {size:Nat} {S:List (Nat×Bytes)} {P:List Nat} {G:List (Bytes×Nat)} (W:l7 e size S P G) (h:¬(P++S.map fun x=>x.1).Nodup):gives e size=none:=by
 refine W.no fun g' ES ⟨F,h1,_⟩=>h ?_
 exact h1.sublist (Sublist.append (Sublist.refl _) F.roots)
theorem l7.done {e:Bytes} {size:Nat} {P:List Nat} {G:List (Bytes×Nat)} (W:l7 e size [] P G) (h1:P.Nodup) (h2:(G.map fun x=>x.1).Nodup):∃g,gives e size=some g∧g.Perm G:=by
 obtain⟨g,hg,p⟩:=W.bwd [] [] ⟨.nil,by simpa using h1,by simpa using h2⟩
 exact⟨g,hg,by simpa using p⟩
end MX
namespace L2
open PySem PySem.Spec PyProof.Rows
section
variable {X:Cx}
def ab7 (K:W.Frag):R2:=fun x y H Q=>∃a b xs ys,x = .ref a∧y = .ref b∧tV K H a xs∧tV K H b ys∧ys≠[]∧xs.length+ys.length≤sizeLine ∧
 (xs=[]→Q (.ref b) H)∧(xs≠[]→∀p,H p=none→Q (.ref p) (upd H p (.tup (xs++ys))))
theorem VT:zP X (binaryOp .Add) (ab7 X.K):=by
 intro pp s σ H x y v u Q I rx ry h
 obtain⟨a,b,xs,ys,rfl,rfl,ha,hb,hy,hz,q1,q2⟩:=h
 by_cases hx:xs=[]
 ·cases rx
  cases ry
  obtain⟨bu,r1,p1,_⟩:=I.tuple ha
  obtain⟨rE,r2,p2,_⟩:=I.tuple hb
  obtain⟨⟨cls,dd,data,sl⟩,ho,hc,n,hd⟩:=id p1
  obtain⟨⟨ag5,dd2,data2,sl2⟩,ho2,Mv,n2,hd2⟩:=id p2
  simp only at hc hd Mv hd2
  subst hc hd Mv hd2
  have e:bu=[]:=r1.E1.mpr hx
  exact concat_meets ⟨_,ho,rfl⟩ ⟨_,ho2,rfl⟩ noFill_tuple_add seq_tuple_add F.slot_tuple_add F.entry_tuple_add (F.args_tuple_add_2 _ _)
   (tuple_addW0 a b bu.toArray rE.toArray n n2 dd dd2 sl sl2 (by simp[e])) ⟨ho,ho2,⟨.ref b,H,I,rfl,q1 hx⟩⟩
 ·exact Xk pp s σ H _ _ v u Q I rx ry ⟨a,b,xs,ys,rfl,rfl,ha,hb,hx,hz,fun z=>absurd z hy,fun _=>q2 hx⟩
end
end L2
namespace MX
open Rc31
theorem Hu:∀{f:Nat} {b:Bytes} {v:Nat} {r:Bytes},sevens f b=some (v,r)→∃a,b=a++r∧∀t,sevens f (a++t)=some (v,t)
 |0,b,v,r,h=>by simp[sevens]at h
 |f+1,[],v,r,h=>by simp[sevens]at h
 |f+1,c::b,v,r,h=>by
  unfold sevens at h
  by_cases hc:c.toNat<128
  ·rw[iPp hc]at h
   cases h
   exact⟨[c],rfl,fun t=>by show sevens (f+1) (c::t)=_;unfold sevens;rw[iPp hc]⟩
  ·rw[IN hc]at h
   obtain⟨x,hx,hv⟩:=oMm h
   obtain⟨w,r'⟩:=x
   cases hv
   obtain⟨a,e,k⟩:=Hu hx
   refine⟨c::a,by rw[e];rfl,fun t=>?_⟩
   show sevens (f+1) (c::(a++t))=_
   unfold sevens
   rw[IN hc,k t]
   rfl
theorem BF {b:Bytes} {v:Nat} {r:Bytes} (h:uleb b=some (v,r)):∃a,b=a++r∧∀t,uleb (a++t)=some (v,t):=by
 unfold uleb at h
 obtain⟨x,hx,hv⟩:=oBb h
 by_cases hw:x.1<W64
 ·rw[iPp hw]at hv
  cases hv
  obtain⟨a,e,k⟩:=Hu hx
  refine⟨a,e,fun t=>?_⟩
  unfold uleb
  rw[k t]
  show(if _ then _ else _)=_
  rw[iPp hw]
 ·rw[IN hw]at hv
  cases hv
def placeQ (size:Nat) (r:Bytes) (n:Nat):Option Nat:=(uleb r).bind fun y=>if y.1=0 then(uleb y.2).bind fun z=>if z.2.length+n=r.length∧z.1<size then some z.1 else none else none
theorem Kj {size:Nat} {x:Nat×Bytes} (hx:x.1≠0):fP size [] x=none:=by
 unfold fP
 rw[IN hx]
 by_cases h1:x.2.length<x.1
 ·rw[iPp h1]
 ·rw[IN h1]
  cases uleb (x.2.take x.1) with
  |none=>rfl
  |some y =>
   show(uleb y.2).bind _=none
   cases uleb y.2 with
   |none=>rfl
   |some z =>
    show(if _ then _ else _)=none
    rw[IN (fun q=>by have:=q.2.2.2;cases this)]
theorem Hv {size:Nat} {pre:Bytes} {x:Nat×Bytes} (hx:x.1≠0) (hp:pre≠[]):fP size pre x=(placeQ size x.2 x.1).map fun z=>[(pre,z)]:=by
 have pe:pre.isEmpty=false:=by cases pre with
  |nil=>exact absurd rfl hp
  |cons _ _=>rfl
 have fwd:∀l,fP size pre x=some l→∃z,placeQ size x.2 x.1=some z∧l=[(pre,z)]:=by
  intro l h
  unfold fP at h
  rw[IN hx]at h
  by_cases h1:x.2.length<x.1
  ·rw[iPp h1]at h;cases h
  ·rw[IN h1]at h
   obtain⟨y,hy,h⟩:=oBb h
   obtain⟨z,hz,h⟩:=oBb h
   by_cases hc:y.1=0∧z.1<size∧z.2.isEmpty=true∧pre.isEmpty=false
   ·rw[iPp hc]at h
    cases h
    obtain⟨y0,zs,ze,_⟩:=hc
    have ze:z.2=[]:=isEmpty_iff.mp ze
    obtain⟨a1,e1,k1⟩:=BF (v:=y.1) (r:=y.2) hy
    obtain⟨a2,e2,k2⟩:=BF (v:=z.1) (r:=z.2) hz
    refine⟨z.1,?_,rfl⟩
    have e0:x.2=a1++(a2++x.2.drop x.1):=by
     conv=>lhs;rw[←take_append_drop x.1 x.2,e1,e2,ze]
     simp
    unfold placeQ
    have eu:uleb x.2=some (y.1,a2++x.2.drop x.1):=by
     conv=>lhs;rw[e0]
     exact k1 _
    rw[eu]
    show(if y.1=0 then _ else _)=_
    rw[iPp y0]
    show(uleb (a2++x.2.drop x.1)).bind _=_
    rw[k2]
    show(if _∧_ then _ else _)=_
    rw[iPp ⟨by show(x.2.drop x.1).length+x.1=x.2.length;rw[length_drop];lia,zs⟩]
   ·rw[IN hc]at h;cases h
 have bwd:∀z,placeQ size x.2 x.1=some z→fP size pre x=some [(pre,z)]:=by
  intro p h
  unfold placeQ at h
  obtain⟨y,hy,h⟩:=oBb h
  by_cases y0:y.1=0
  ·rw[iPp y0]at h
   obtain⟨z,hz,h⟩:=oBb h
   by_cases hc:z.2.length+x.1=x.2.length∧z.1<size
   ·rw[iPp hc]at h
    cases h
    obtain⟨a1,e1,k1⟩:=BF (v:=y.1) (r:=y.2) hy
    obtain⟨a2,e2,k2⟩:=BF (v:=z.1) (r:=z.2) hz
    have e0:x.2=(a1++a2)++z.2:=by rw[e1,e2];simp
    have el:x.1=(a1++a2).length:=by
     have:=congrArg length e0
     rw[length_append]at this
     lia
    unfold fP
    have et:x.2.take x.1=a1++a2:=by
     rw[el]
     conv=>lhs;rw[e0]
     rw[List.take_left']
     rfl
    rw[IN hx,IN (by lia),et,k1]
    show(uleb a2).bind _=_
    have:=k2 []
    rw[append_nil]at this
    rw[this]
    show(if _∧_ then _ else _)=_
    rw[iPp ⟨y0,hc.2,rfl,pe⟩]
   ·rw[IN hc]at h;cases h
  ·rw[IN y0]at h;cases h
 cases hq:placeQ size x.2 x.1 with
 |some z=>rw[bwd z hq];rfl
 |none =>
  cases hh:fP size pre x with
  |none=>rfl
  |some l =>
   obtain⟨z,e,_⟩:=fwd l hh
   rw[hq]at e
   cases e
end MX
namespace MI
open PySem L2
def kb (b:List UInt8):List Key:=b.map fun c=>.inl (c.toNat:Int)
theorem aeS (b:List UInt8):(kb b).map kV=bv b:=by
 unfold kb bv
 rw[map_map]
 rfl
theorem Qx:∀{a b:List UInt8},kb a=kb b→a=b
 | [],[],_=>rfl
 | [],_::_,h=>by cases h
 |_::_,[],h=>by cases h
 |x::a,y::b,h=>by
  have h':((Sum.inl (x.toNat:Int):Key)::kb a)=(Sum.inl (y.toNat:Int):Key)::kb b:=h
  injection h' with h1 h2
  injection h1 with h1
  rw[Qx h2,toNat.inj (by lia:x.toNat=y.toNat)]
def gk (G:List (List UInt8×Nat)):List (List Key×V):=G.map fun x=>(kb x.1,V.int (x.2:Int))
theorem VU (G:List (List UInt8×Nat)) (b:List UInt8):(jt (gk G) (kb b)).isSome=decide (b∈G.map fun x=>x.1):=by
 induction G with
 |nil=>rfl
 |cons p r ih =>
  show(jt ((kb p.1,V.int (p.2:Int))::gk r) (kb b)).isSome=_
  by_cases h:p.1=b
  ·rw[lP (by show kb p.1=kb b;rw[h])]
   rw[decide_eq_true (by rw[map_cons,h];exact mem_cons_self ..)]
   rfl
  ·rw[lQ (fun z=>h (Qx z)),ih]
   congr 1
   rw[map_cons,mem_cons]
   exact propext ⟨.inr,fun z=>z.elim (fun q=>absurd q.symm h) id⟩
theorem ab8 {G:List (List UInt8×Nat)} {b:List UInt8} {z:Nat} (h:b∉G.map fun x=>x.1):putK (gk G) (kb b) (V.int (z:Int))=gk (G++[(b,z)]):=by
 unfold putK
 rw[um,VU,decide_eq_false h]
 show(if false=true then _ else _)=_
 rw[IN (by decide)]
 unfold gk
 rw[map_append]
 rfl
def jC (a:Ad) (H:Hp) (n:Addr) (i:Nat) (pre:List UInt8):Prop:=∃d tn,H n=some (.ins a.kX d (lh (.int (i:Int)) (.ref tn)))∧H tn=some (.tup (bv pre))
section
variable {g:Gm} {a:Ad}
inductive Hw (a:Ad) (vs:List V) (H:Hp) (Q:VK) (E:XK):Prop
 |mk (x dx:Addr) (v w:V) (q0:vs=[.ref x,v,w]) (q1:H x=some (.ins a.kX dx [])) (q2:Q .dh (upd H x (.ins a.kX dx (lh v w)))):Hw a vs H Q E
theorem BG (T:Tx g.K g.mg a):Pr g 1 a.Cj ["self","at","name"] (Hw a):=by
 refine Pr.on T.DF K0 fun b6 A outer s H vs Q E hr h=>?_
 obtain⟨x,dx,v,w,rfl,hx,k⟩:=h
 refine⟨_,ae (aT (pv 0) (pv 1) rfl) (ag (aT (pv 0) (pv 2) rfl)),?_⟩
 refine⟨_,rfl,_,rfl,x,_,dx,_,rfl,hx,T.lG,T.ir,(by show 0<1000;decide),_,rfl,_,rfl,x,_,dx,_,rfl,af,T.lG,T.gG,(by show 1<1000;decide),?_⟩
 rw[bN,Sy]
 exact k
end
open Rc31
theorem Ob:¬(("row" : Str) = "name"):=by decide +kernel
theorem Fc {H:Hp} {n c C D d e:Addr} {x y u v:V} (h:H n=some (.ins C d (lh x y))) (h':H c=some (.ins D e (bX u v))):n≠c:=by
 refine cS h h' fun z=>?_
 injection z with _ _ z
 have z1:List.lookup ("row" : Str) (lh x y)=List.lookup ("row" : Str) (bX u v):=by rw[z]
 rw[sm]at z1
 unfold lh at z1
 rw[c8 (by decide),c8 Ob]at z1
 cases z1
section
variable {g:Gm} {a:Ad}
inductive D9 (a:Ad) (vs:List V) (H:Hp) (Q:VK) (E:XK):Prop
 |mk (c r nd gd:Addr) (b:List UInt8) (i L:Nat) (pre:List UInt8) (G:List (List UInt8×Nat)) (q0:vs=[.ref c,.ref nd,.ref gd,.int (L:Int)]) (q1:oF a.bA H c r i) (q2:H r=some (.lst (bv b))) (q3:jC a H nd i pre) (q4:(i=0↔pre=[])) (q5:H gd=some (.dT (gk G))) (q6:G.length<sizeLine) (q7:((∀x h,uleb (b.drop i)=some x→MX.fP L pre x=some h→∃y∈h,y.1∈G.map fun x=>x.1)→∀H',Kp (At c) H H'→E (.ref a.aE) none H')) (q8:∀x h,uleb (b.drop i)=some x→MX.fP L pre x=some h→(∀y∈h,y.1∉G.map fun x=>x.1)→∀H' j,oF a.bA H' c r j→b.drop j=x.2.drop x.1→j≤b.length→Kp (ub c gd) H H'→H' gd=some (.dT (gk (G++h)))→h.length≤1→Q .dh H'):D9 a vs H Q E
theorem Jm (T:Tx g.K g.mg a):Pr g 5 a.yX ["cursor","node","given","length"] (D9 a):=by
 refine Pr.on T.AB lD fun b6 A outer s H vs Q E hr h=>?_
 obtain⟨c,r,nd,gd,b,i,L,pre,G,rfl,⟨dx,hc⟩,hb,⟨nx,tn,hn,ht⟩,hi,hg,hG,k0,k1⟩:=h
 refine⟨_,ae (aI (i:=4) lD.nd rfl (Or.inl rfl) (a7 (pv 0) (bo T) T.aL T.bq au hr (by decide)))
  (ae (dt (bH b7 (pv 4) ak (aC _)) (ag W5) gz)
  (ae (az (aB T) au hr (by decide) T.aA (aH Ul (ar (pv 1) rfl) ak (aC _)))
  (ae (aI (i:=5) lD.nd rfl (Or.inl rfl) (aO cq (ar (pv 0) rfl) (pv 4)))
  (ae (az (aB T) au hr (by decide) T.aA (aH b7 (a7 (pv 0) (bo T) T.aL T.bq au hr (by decide)) ak (aC _)))
  (ae (aI (i:=6) lD.nd rfl (Or.inl rfl) (a7 (pv 0) (bo T) T.aL T.bq au hr (by decide)))
  (ae (az (aB T) au hr (by decide) T.aA (aH b7 (ar (pv 0) rfl) (pv 5) (aC _)))
  (ae (az (aB T) au hr (by decide) T.aA (aH nH (pv 6) (pv 3) (aC _)))
  (ae (az (aB T) au hr (by decide) T.aA (Fo (B3 (FL hr) (ar (pv 1) rfl) (pv 2))))
  (ag (Q9 (FL hr) (pv 2) (ar (pv 1) rfl) (pv 6) rfl)))))))))),?_⟩
 have nnc:nd≠c:=Fc hn hc
 have ngc:gd≠c:=cS hg hc (by intro z;cases z)
 have ntc:tn≠c:=cS ht hc (by intro z;cases z)
 refine⟨_,rfl,c,dx,_,rfl,hc,aY,c,r,b,i,rfl,⟨dx,hc⟩,hb,fun RO H1 kp=>k0 (fun x h e=>by rw[RO]at e;cases e) _ kp,fun n rest hx v H1 j0 hv C1 lt1 le1 er xw=>?_⟩
 subst hv
 obtain⟨d1,J8⟩:=id C1
 have fail:∀{H':Hp},Kp (At c) H H'→MX.fP L pre (n,rest)=none→E (.ref a.aE) none H':=fun{H'} kp z=>k0 (fun x h e1 e2=>by rw[hx]at e1;cases e1;rw[z]at e2;cases e2) _ kp
 refine⟨_,rfl,rfl,_,rfl,aw (fun z0=>?_) fun z0=>?_⟩
 ·have z0:n=0:=by have:=bp z0;lia
  subst z0
  exact k1 (0,rest) [] hx (by unfold MX.fP;rw[iPp rfl]) (fun y hy=>by cases hy) H1 j0 C1 er le1 (fun y o e q=>xw y o e fun z=>q (.inl z)) (by rw[append_nil];exact xw _ _ hg ngc) (zero_le _)
 ·have z0:n≠0:=fun z=>br z0 (by lia)
  refine⟨_,rfl,nd,_,nx,_,_,rfl,xw _ _ hn nnc,T.lG,T.ir,wH,rfl,_,rfl,?_⟩
  have ne:(!decide (V.int (i:Int)=V.int 0))=decide (i≠0):=by
   by_cases q:i=0
   ·subst q;rfl
   ·rw[decide_eq_true q,decide_eq_false (fun z=>by injection z with z;lia)]
    rfl
  rw[ne]
  refine aw (fun i0=>?_) fun i0=>fail xw (by
   have:pre=[]:=hi.mp (Classical.byContradiction i0)
   rw[this]
   exact MX.Kj z0)
  have hp:pre≠[]:=fun z=>i0 (hi.mpr z)
  have eh:=MX.Hv (size:=L) (x:=(n,rest)) z0 hp
  have eh:MX.fP L pre (n,rest)=(MX.placeQ L rest n).map fun z=>[(pre,z)]:=eh
  unfold MX.placeQ at eh
  refine⟨_,rfl,c,_,d1,_,_,rfl,J8,T.aL,T.dS,lV,_,rfl,_,_,rfl,rfl,?_⟩
  refine⟨_,rfl,c,d1,_,rfl,J8,aY,c,r,b,j0,rfl,C1,xw _ _ hb (cS hb hc (by intro z;cases z)),fun RO H2 kp=>fail (xw.step kp fun _ z=>.inl z) (by rw[eh,←er,RO];rfl),fun y VW hy v H2 j1 hv C2 lt2 le2 er2 kp2=>?_⟩
  subst hv
  obtain⟨d2,Mv⟩:=id C2
  have YF:=xw.step kp2 fun _ z=>.inl z
  rw[show uleb rest=some (y,VW) by rw[←er];exact hy]at eh
  have eh:MX.fP L pre (n,rest)=(if y=0 then(uleb VW).bind fun z=>if z.2.length+n=rest.length∧z.1<L then some z.1 else none else none).map fun z=>[(pre,z)]:=eh
  refine⟨rfl,_,rfl,aw (fun y0=>?_) fun y0=>fail YF (by rw[eh,IN (fun z=>br y0 (by lia))];rfl)⟩
  have y0:y=0:=by have:=bp y0;lia
  rw[iPp y0]at eh
  refine⟨_,rfl,c,d2,_,rfl,Mv,aY,c,r,b,j1,rfl,C2,YF _ _ hb (cS hb hc (by intro z;cases z)),fun RO H3 kp=>fail (YF.step kp fun _ z=>.inl z) (by rw[eh,←er2,RO];rfl),fun z VX hz v H3 j2 hv C3 lt3 ZI er3 kp3=>?_⟩
  subst hv
  obtain⟨d3,hc3⟩:=id C3
  have Qy:=YF.step kp3 fun _ z=>.inl z
  rw[show uleb VW=some (z,VX) by rw[←er2];exact hz]at eh
  have eh:MX.fP L pre (n,rest)=(if VX.length+n=rest.length∧z<L then some z else none).map fun z=>[(pre,z)]:=eh
  have l3:VX.length=b.length-j2:=by rw[←er3,length_drop]
  have l1:rest.length=b.length-j0:=by rw[←er,length_drop]
  refine⟨_,rfl,c,_,d3,_,_,rfl,hc3,T.aL,T.dS,lV,_,rfl,rfl,_,rfl,aw (fun e1=>?_) fun e1=>fail Qy (by rw[eh,IN (fun q=>br e1 (by lia))];rfl)⟩
  have e1:j2=j0+n:=by have:=bp e1;lia
  refine⟨_,rfl,_,rfl,_,_,rfl,rfl,_,rfl,aw (fun e2=>?_) fun e2=>fail Qy (by rw[eh,IN (fun q=>e2 (by lia))];rfl)⟩
  have e2:z<L:=by lia
  rw[iPp ⟨by lia,e2⟩]at eh
  have eh:MX.fP L pre (n,rest)=some [(pre,z)]:=eh
  have hn3:=Qy _ _ hn nnc
  have hg3:=Qy _ _ hg ngc
  have ht3:H3 tn=some (.tup ((kb pre).map kV)):=by rw[aeS];exact Qy _ _ ht ntc
  refine⟨_,rfl,nd,_,nx,_,_,rfl,hn3,T.lG,T.gG,vx,_,rfl,gd,_,rfl,wM.t hg3 ht3,_,rfl,?_⟩
  rw[VU]
  have e3:(!decide (pre∈G.map fun x=>x.1))=decide (pre∉G.map fun x=>x.1):=by
   by_cases q:pre∈G.map fun x=>x.1
   ·rw[decide_eq_true q,decide_eq_false (fun z=>z q)];rfl
   ·rw[decide_eq_false q,decide_eq_true q];rfl
  rw[e3]
  refine aw (fun e4=>?_) fun e4=>k0 (fun x h q1 q2=>?_) _ Qy
  ·refine⟨_,rfl,_,rfl,_,rfl,nd,_,nx,_,_,rfl,hn3,T.lG,T.gG,vx,gd,_,rfl,MP.t hg3 ht3 (by unfold gk;rw[length_map];exact hG),?_⟩
   rw[ab8 e4]
   refine k1 (n,rest) [(pre,z)] hx eh (fun y hy=>?_) _ j2 ⟨d3,by rw[aj ngc.symm];exact hc3⟩ ?_ ZI (fun y o e q=>?_) af (le_refl _)
   ·obtain rfl:y=(pre,z):=by simpa using hy
    exact e4
   ·show b.drop j2=rest.drop n
    rw[←er,drop_drop,e1]
   ·rw[aj (fun w=>q (.inr w))]
    exact Qy _ _ e fun w=>q (.inl w)
  ·rw[hx]at q1
   cases q1
   rw[eh]at q2
   cases q2
   exact⟨(pre,z),mem_singleton.mpr rfl,Classical.byContradiction e4⟩
end
end MI
namespace L2
open PySem PySem.Spec PyProof.Rows
section
variable {X:Cx}
def ab9 (K:W.Frag):R2:=fun x y H Q=>∃a b xs ys,x = .ref a∧y = .ref b∧tV K H a xs∧H b=some (.tup ys)∧ys≠[]∧xs.length+ys.length≤sizeLine∧∀p H',H' p=some (.tup (xs++ys))→ax H H'→Q (.ref p) H'
theorem VY:zP X (binaryOp .Add) (ab9 X.K):=by
 intro pp s σ H x y v u Q I rx ry h
 obtain⟨a,b,xs,ys,rfl,rfl,ha,hb,hy,hz,q⟩:=h
 refine VT pp s σ H _ _ v u Q I rx ry ⟨a,b,xs,ys,rfl,rfl,ha,tV.of hb,hy,hz,fun z=>q b H (by rw[hb,z];rfl) (fun _ _ e=>e),fun _ p hp=>q p _ af (ax.upd hp)⟩
end
end L2
namespace MI
open PySem L2 Rc31
theorem jC.keep {a:Ad} {H H':Hp} {n i c l:Nat} {pre:List UInt8} {C d:Addr} {u v:V} {xs:List V} (h:jC a H n i pre) (k:Kp (ub c l) H H') (hc:H c=some (.ins C d (bX u v))) (hl:H l=some (.lst xs)):jC a H' n i pre:=by
 obtain⟨dn,tn,hn,ht⟩:=h
 refine⟨dn,tn,k _ _ hn fun z=>z.elim (Fc hn hc) (cS hn hl (by intro z;cases z)),k _ _ ht fun z=>z.elim (cS ht hc (by intro z;cases z)) (cS ht hl (by intro z;cases z))⟩
theorem sZ {α β:Type} {F:α→β→Prop}:∀{l₁ r₁:List α} {l₂ r₂:List β},Paired F l₁ l₂→Paired F r₁ r₂→Paired F (l₁++r₁) (l₂++r₂)
 |_,_,_,_,.nil,h=>h
 |_,_,_,_,.cons q t,h=>.cons q (sZ t h)
theorem aca (a b:List UInt8):bv (a++b)=bv a++bv b:=map_append ..
def yt (pre:List UInt8):List UInt8→Option (List (Nat×List UInt8))
 | []=>none
 |n::r=>MX.jI n.toNat pre r
section
variable {g:Gm} {a:Ad}
inductive BH (a:Ad) (vs:List V) (H:Hp) (Q:VK) (E:XK):Prop
 |mk (c r nd:Addr) (b:List UInt8) (i i0:Nat) (pre:List UInt8) (q0:vs=[.ref c,.ref nd]) (q1:oF a.bA H c r i) (q2:H r=some (.lst (bv b))) (q3:jC a H nd i0 pre) (q4:pre.length≤255) (q5:(yt pre (b.drop i)=none→∀H',Kp (At c) H H'→E (.ref a.aE) none H')) (q6:∀kids,yt pre (b.drop i)=some kids→∀l na H',H' l=some (.lst (na.map V.ref))→Paired (fun n k=>jC a H' n k.1 k.2) na kids→H l=none→Kp (At c) H H'→Q (.ref l) H'):BH a vs H Q E
theorem Tq (k:Nat) (pre r:List UInt8):MX.jI (k+1) pre r=(textIn r).bind fun s=>if s.1.isEmpty=true∨255<pre.length+s.1.length then none else(uleb s.2).bind fun x=>(MX.jI k pre x.2).map fun l=>(x.1,pre++s.1)::l:=by
 rw[MX.jI]
theorem Hx (T:Tx g.K g.mg a):Pr g 5 a.uX ["cursor","node"] (BH a):=by
 refine Pr.on T.xR ip fun b6 A outer s H vs Q E hr h=>?_
 obtain⟨c,r,nd,b,i,i0,pre,rfl,⟨dx,hc⟩,hb,⟨nx,tn,hn,ht⟩,YG,k0,k1⟩:=h
 refine⟨_,ae (aI (i:=2) ip.nd rfl (Or.inl rfl) (cy ai))
  (ae (ma tX rfl (BU rfl T.sk (aa (a7 (pv 0) (iz T) T.aL T.fD au hr (by decide)) ai)) (dJ (i:=3) ip.nd rfl (Or.inl rfl)) (ae (aI (i:=4) ip.nd rfl (Or.inl rfl) (a7 (pv 0) (oH T) T.aL T.lE au hr (by decide)))
  (ae (az (aB T) au hr (by decide) T.aA (aH JB (aV aJ (by rfl) T.eO boot_len (aa (pv 4) ai)) ak (aC _)))
  (ae (aI (i:=5) ip.nd rfl (Or.inl rfl) (aO VY (ar (pv 1) rfl) (wA xC (by rfl) T.Lb PyProof.Rows.boot_tuple (aa (pv 4) ai))))
  (ae (az (aB T) au hr (by decide) T.aA (aH iO (aV aJ (by rfl) T.eO boot_len (aa (pv 5) ai)) (pk T.ph) (aC _)))
  (ag (aR (uh F.plainAttrs_list F.slot_list_append F.type_list_append iC (pv 2) (aa (kT (BG T) T.AO au hr (by decide) T.Pf (aa (a7 (pv 0) (bo T) T.aL T.bq au hr (by decide)) (aa (pv 5) ai))) ai)))))))))
  (ag (aS (pv 2)))),?_⟩
 refine⟨zero_le _,fun l hl=>?_⟩
 have WM:c≠l:=aq hc hl
 have J8:upd H l (.lst []) c=some (.ins a.bA dx (bX (.ref r) (.int (i:Int)))):=by rw[aj WM];exact hc
 have Ym:upd H l (.lst []) r=some (.lst (bv b)):=by rw[aj (aq hb hl)];exact hb
 have xw:Kp (At c) H (upd H l (.lst [])):=Kp.upd (.inr hl)
 refine⟨_,rfl,c,dx,_,rfl,J8,d9,c,r,b,i,rfl,⟨dx,J8⟩,Ym,fun RO H3 k3=>?_,fun x rest hx v3 H3 j3 ev C3 lt3 ZI er k3=>?_⟩
 ·refine k0 ?_ _ (xw.step k3 fun _ z=>.inl z)
  cases hd:b.drop i with
  |nil=>rfl
  |cons y ys=>rw[hd]at RO;cases RO
 ·subst ev
  have hd:b.drop i=x::rest:=by
   cases hd:b.drop i with
   |nil=>rw[hd]at hx;cases hx
   |cons y ys=>rw[hd]at hx;cases hx;rfl
  have eK:yt pre (b.drop i)=MX.jI x.toNat pre rest:=by rw[hd];rfl
  have xb:=x.toNat_lt
  refine⟨_,rfl,by lia,by lia,qx (lo:=0) (n:=((x.toNat:Nat):Int).toNat) (fun k σ H2=>∃(ks:List (Nat×List UInt8)) (na:List Addr) (j:Nat) (v3 v4 v5:Option V),σ=[some (.ref c),some (.ref nd),some (.ref l),v3,v4,v5]∧H2 l=some (.lst (na.map V.ref))∧Paired (fun n k=>jC a H2 n k.1 k.2) na ks∧ks.length=k∧oF a.bA H2 c r j∧Kp (At c) H H2∧j≤b.length ∧
   yt pre (b.drop i)=(MX.jI (x.toNat-k) pre (b.drop j)).map fun z=>ks++z) ⟨[],[],j3,none,none,none,rfl,k3.lst af J8,.nil,rfl,C3,xw.step k3 fun _ z=>.inl z,ZI,?_⟩ ?_ ?_⟩
  ·rw[eK,er]
   show _=(MX.jI x.toNat pre rest).map _
   cases MX.jI x.toNat pre rest with
   |none=>rfl
   |some z=>rfl
  ·rintro k σ H2 hk ⟨ks,na,j,v3,v4,v5,rfl,hL,pn,hks,⟨d2,Mv⟩,kp,hj,e⟩
   have hk':k<x.toNat:=by lia
   rw[show x.toNat-k=(x.toNat-(k+1))+1 by lia,Tq]at e
   have hb2:H2 r=some (.lst (bv b)):=kp.lst hb hc
   refine⟨_,rfl,c,d2,_,rfl,Mv,k7,c,r,b,j,rfl,⟨d2,Mv⟩,hb2,fun RO H4 k4=>k0 (by rw[e,RO];rfl) _ (kp.step k4 fun _ z=>.inl z),fun t aeT htx v H4 j4 hv C4 lt4 le4 er4 k4=>?_⟩
   obtain⟨l4,rfl,nl4,hL4⟩:=hv
   obtain⟨d4,WN⟩:=id C4
   rw[htx]at e
   have e:yt pre (b.drop i)=(if t.isEmpty=true∨255<pre.length+t.length then none else(uleb aeT).bind fun x_1=>(MX.jI (x.toNat-(k+1)) pre x_1.2).map fun l=>(x_1.1,pre++t)::l).map fun z=>ks++z:=e
   have kp4:=kp.step k4 fun _ z=>.inl z
   refine⟨_,rfl,l4,_,rfl,.inl (bP.of hL4),_,_,rfl,rfl,_,rfl,?_⟩
   show if decide ((0:Int)<((bv t).length:Int))=true then _ else _
   rw[bt]
   refine aw (fun t0=>?_) fun t0=>k0 (by rw[e,iPp (.inl (by rw[isEmpty_iff];exact List.length_eq_zero_iff.mp (by lia)))];rfl) _ kp4
   have tne:t≠[]:=fun z=>by rw[z]at t0;exact absurd t0 (by decide)
   have ZZ:t.length≤255:=by
    have:=htx
    rw[G6,Qg _ 0 (by decide)]at this
    simp only at this
    split at this
    ·rename_i amS
     cases this
     lia
    ·cases this
   have hn4:=kp4 _ _ hn (Fc hn hc)
   have ht4:=kp4 _ _ ht (cS ht hc (by intro z;cases z))
   refine⟨_,rfl,nd,_,nx,_,_,rfl,hn4,T.lG,T.gG,vx,_,rfl,l4,_,rfl,.inl ⟨bP.of hL4,fun l5 hl5=>?_⟩⟩
   have s5:ax H4 (upd H4 l5 (.tup (bv t))):=ax.upd hl5
   refine⟨tn,l5,bv pre,bv t,rfl,rfl,tV.of (s5 _ _ ht4),af,(fun z=>tne (by have:=congrArg length z;rw[bt]at this;exact List.length_eq_zero_iff.mp this)),(by rw[bt,bt];exact le_trans (Nat.add_le_add YG ZZ) (by decide)),fun p5 H5 hp5 s5'=>?_⟩
   rw[←aca]at hp5
   have s45:ax H4 H5:=s5.trans s5'
   refine⟨_,rfl,p5,_,rfl,.inr (tV.of hp5),_,_,rfl,rfl,_,rfl,?_⟩
   show if decide (((bv (pre++t)).length:Int)≤255)=true then _ else _
   rw[bt,length_append]
   have kp5:Kp (At c) H H5:=fun y o q n=>s45 _ _ (kp4 _ _ q n)
   refine aw (fun p0=>?_) fun p0=>k0 (by rw[e,iPp (.inr (by lia))];rfl) _ kp5
   rw[IN (fun z=>z.elim (fun z=>tne (isEmpty_iff.mp z)) fun z=>by lia)]at e
   have YH:=s45 _ _ WN
   have hL2:H4 l=some (.lst (na.map V.ref)):=k4.lst hL Mv
   have hL5:=s45 _ _ hL2
   refine⟨_,rfl,.inl ⟨rfl,_,bP.of hL5⟩,_,rfl,c,d4,_,rfl,YH,aY,c,r,b,j4,rfl,⟨d4,YH⟩,s45 _ _ (k4.lst hb2 Mv),fun RO H6 k6=>k0 (by rw[e,←er4,RO];rfl) _ (kp5.step k6 fun _ z=>.inl z),fun m Z0 hm v H6 j6 hv C6 lt6 le6 er6 k6=>?_⟩
   subst hv
   obtain⟨d6,hc6⟩:=id C6
   have hL6:H6 l=some (.lst (na.map V.ref)):=k6.lst hL5 YH
   have T6:H6 p5=some (.tup (bv (pre++t))):=k6 _ _ hp5 (cS hp5 YH (by intro z;cases z))
   have kp6:=kp5.step k6 fun _ z=>.inl z
   refine⟨_,rfl,fun y dy ny ndy ZN=>⟨y,dy,_,_,rfl,af,rfl,?_⟩⟩
   rw[bN]
   have nly:l≠y:=aq hL6 ny
   have nld:l≠dy:=aq hL6 ndy
   have s7:ax H6 (upd (upd H6 dy (.own y)) y (.ins a.kX dy (lh (.int (m:Int)) (.ref p5)))):=(ax.upd ndy).trans (ax.upd (by rw[aj ZN.symm];exact ny))
   have hL7:=s7 _ _ hL6
   have YE:na.length<256:=by rw[Paired.length pn];lia
   refine⟨l,_,_,rfl,rfl,hL7,(by rw[length_map];exact lt_of_lt_of_le YE (by decide)),?_⟩
   have e':yt pre (b.drop i)=(MX.jI (x.toNat-(k+1)) pre (b.drop j6)).map fun z=>(ks++[(m,pre++t)])++z:=by
    rw[e,←er4,hm]
    show((MX.jI (x.toNat-(k+1)) pre Z0).map fun l=>(m,pre++t)::l).map _=_
    rw[er6]
    cases MX.jI (x.toNat-(k+1)) pre Z0 with
    |none=>rfl
    |some w =>
     show some (ks++((m,pre++t)::w))=some ((ks++[(m,pre++t)])++w)
     rw[append_assoc]
     rfl
   have ncl:c≠l:=WM
   have kpA:Kp (ub c l) H2 (upd (upd (upd H6 dy (.own y)) y (.ins a.kX dy (lh (.int (m:Int)) (.ref p5)))) l (.lst (na.map V.ref++[.ref y]))):=fun z o q nz=>by
    rw[aj (fun w=>nz (.inr w))]
    exact s7 _ _ (k6 _ _ (s45 _ _ (k4 _ _ q fun w=>nz (.inl w))) fun w=>nz (.inl w))
   refine⟨ks++[(m,pre++t)],na++[y],j6,_,_,_,rfl,?_,?_,by rw[length_append,hks];rfl,⟨d6,by rw[aj ncl];exact s7 _ _ hc6⟩,?_,le6,e'⟩
   ·rw[af,map_append]
    rfl
   ·refine sZ (Paired.ud pn fun n q hq=>hq.keep kpA Mv hL) ?_
    refine .cons ⟨dy,p5,by rw[aj nly.symm];exact af,?_⟩ .nil
    rw[aj (cS T6 hL6 (by intro z;cases z))]
    exact s7 _ _ T6
   ·intro z o q nz
    rw[aj (aq q hl)]
    exact s7 _ _ (kp6 _ _ q nz)
  ·rintro σ H2 ⟨ks,na,j,v3,v4,v5,rfl,hL,pn,hks,C2,kp,hj,e⟩
   rw[show x.toNat-((x.toNat:Nat):Int).toNat=0 by lia]at e
   refine⟨_,rfl,k1 ks ?_ l na H2 hL pn hl kp⟩
   rw[e]
   show some (ks++[])=some ks
   rw[append_nil]
end
end MI
namespace MX
open Rc31
theorem Kk {size:Nat} {pre:Bytes} {x:Nat×Bytes} {h:List (Bytes×Nat)} (q:fP size pre x=some h):h=[]∨∃z,h=[(pre,z)]:=by
 by_cases hx:x.1=0
 ·unfold fP at q
  rw[iPp hx]at q
  cases q
  exact .inl rfl
 ·by_cases hp:pre=[]
  ·rw[hp,Kj hx]at q
   cases q
  ·rw[Hv hx hp]at q
   obtain⟨z,_,rfl⟩:=oMm q
   exact .inr ⟨z,rfl⟩
theorem Fd {e:Bytes} {size i:Nat} {pre:Bytes} {x:Nat×Bytes} (hx:uleb (e.drop i)=some x):kA e size i pre=(fP size pre x).bind fun h=>(MI.yt pre (x.2.drop x.1)).map fun l=>(h,l):=by
 unfold kA
 have hl:¬e.length≤i:=fun z=>by
  rw[drop_of_length_le z]at hx
  cases hx
 rw[IN hl,hx]
 show(fP size pre x).bind _=_
 cases fP size pre x with
 |none=>rfl
 |some h =>
  show(match x.2.drop x.1 with | []=>none|n::r=>_)=(MI.yt pre (x.2.drop x.1)).map fun l=>(h,l)
  cases x.2.drop x.1 with
  |nil=>rfl
  |cons n r=>rfl
theorem Kl {e:Bytes} {size i:Nat} {pre:Bytes} (hx:uleb (e.drop i)=none):kA e size i pre=none:=by
 unfold kA
 by_cases hl:e.length≤i
 ·rw[iPp hl]
 ·rw[IN hl,hx]
  rfl
theorem Ea:∀(n:Nat) (l:List Nat),l.Nodup→(∀x∈l,x<n)→l.length≤n
 |0,[],_,_=>le_refl _
 |0,x::_,_,h=>absurd (h x (mem_cons_self ..)) (Nat.not_lt_zero _)
 |n+1,l,hn,h=>by
  have h1:=Ea n (l.erase n) (hn.erase _) fun x hx=>by
   have h2:=h x (List.mem_of_mem_erase hx)
   have h3:x≠n:=((hn.mem_erase_iff).mp hx).1
   lia
  by_cases hm:n∈l
  ·rw[List.length_erase_of_mem hm]at h1
   lia
  ·rw[List.erase_of_not_mem hm]at h1
   lia
structure EY (e:Bytes) (size:Nat) (S:List (Nat×Bytes)) (P:List Nat) (G:List (Bytes×Nat)) (M:List Nat):Prop where
 wk:l7 e size S P G
 nd:M.Nodup
 pm:M.Perm (P++S.map fun x=>x.1)
 gn:(G.map fun x=>x.1).Nodup
 pl:∀p∈P,p<e.length
 gl:G.length≤P.length
 ix:∀(j:Nat) (x:Nat×Bytes),S[j]?=some x→j≤255*x.2.length∧x.2.length≤255
 z0:∀x∈S,(x.1=0↔x.2=[])
 m0:0∈M
section
variable {e:Bytes} {size:Nat} {S S0:List (Nat×Bytes)} {P:List Nat} {G:List (Bytes×Nat)} {M:List Nat} {i:Nat} {pre:Bytes} {h:List (Bytes×Nat)} {kids:List (Nat×Bytes)}
theorem EY.start (he:e≠[]):EY e size [(0,[])] [] [] [0]:=by
 refine⟨l7.start he,by simp,by simp,by simp,(fun p hp=>nomatch hp),le_refl _,fun j x hj=>?_,fun x hx=>?_,by simp⟩
 ·cases j with
  |zero =>
   cases hj
   exact⟨by decide,by decide⟩
  |succ j=>cases hj
 ·obtain rfl:x=(0,[]):=by simpa using hx
  exact⟨fun _=>rfl,fun _=>rfl⟩
theorem EY.Tr (t:EY e size S P G M):S.length≤65026:=by
 cases hS:S.length with
 |zero=>lia
 |succ n =>
  have oU:n<S.length:=by lia
  have:=t.ix n S[n] (getElem?_eq_getElem oU)
  lia
theorem EY.ndP (t:EY e size S P G M):(P++S.map fun x=>x.1).Nodup:=t.pm.nodup_iff.mp t.nd
theorem EY.acd (t:EY e size S P G M):P.length≤e.length:=Ea _ _ (nodup_append.mp t.ndP).1 t.pl
theorem EY.aeW (t:EY e size S P G M):M.length≤e.length+65026:=by
 have h1:=t.pm.length_eq
 rw[length_append,length_map]at h1
 have h2:=t.Tr
 have h3:=t.acd
 lia
theorem EY.aeX (t:EY e size S P G M):G.length≤e.length:=le_trans t.gl t.acd
theorem EY.twice (t:EY e size (S0++[(i,pre)]) P G M) (q:∀x h,uleb (e.drop i)=some x→fP size pre x=some h→∃y∈h,y.1∈G.map fun x=>x.1):gives e size=none:=by
 cases hn:kA e size i pre with
 |none=>exact t.wk.bad hn
 |some r =>
  obtain⟨h,kids⟩:=r
  cases hx:uleb (e.drop i) with
  |none=>rw[Kl hx]at hn;cases hn
  |some x =>
   have WZ:=hn
   rw[Fd hx]at hn
   obtain⟨h',hh,hn⟩:=oBb hn
   obtain⟨l,_,hn⟩:=oMm hn
   cases hn
   obtain⟨y,hy,hm⟩:=q x h hx hh
   rcases Kk hh with rfl|⟨z,rfl⟩
   ·cases hy
   ·obtain rfl:y=(pre,z):=by simpa using hy
    exact t.wk.twice WZ hm
theorem EY.below {x:Nat×Bytes} (t:EY e size (S0++[(i,pre)]) P G M) (hx:uleb (e.drop i)=some x) (hk:MI.yt pre (x.2.drop x.1)=none):gives e size=none:=by
 refine t.wk.bad ?_
 rw[Fd hx,hk]
 cases fP size pre x with
 |none=>rfl
 |some h=>rfl
theorem EY.pmS (t:EY e size (S0++[(i,pre)]) P G M):(M++kids.map fun x=>x.1).Perm ((P++[i])++(S0++kids).map fun x=>x.1):=by
 have h1:=t.pm.append_right (kids.map fun x=>x.1)
 refine h1.trans ?_
 simp only[map_append,map_cons,map_nil,append_assoc]
 refine Perm.append_left _ ?_
 show((S0.map fun x=>x.1)++([i]++kids.map fun x=>x.1)).Perm ([i]++((S0.map fun x=>x.1)++kids.map fun x=>x.1))
 rw[←append_assoc,←append_assoc]
 exact List.perm_append_comm.append_right _
theorem EY.met {k:Nat} {q:Nat×Bytes} (t:EY e size (S0++[(i,pre)]) P G M) (hn:kA e size i pre=some (h,kids)) (hk:kids[k]?=some q) (hm:q.1∈M++(kids.take k).map fun x=>x.1):gives e size=none:=by
 refine(t.wk.step hn).met fun nd=>?_
 have nd:=(t.pmS (kids:=kids)).nodup_iff.mpr nd
 obtain⟨oU,hq⟩:=List.getElem?_eq_some_iff.mp hk
 have e1:kids=kids.take k++(q::kids.drop (k+1)):=by
  conv=>lhs;rw[←take_append_drop k kids,drop_eq_getElem_cons oU,hq]
 rw[e1,map_append,←append_assoc,nodup_append]at nd
 exact nd.2.2 q.1 hm q.1 (by simp) rfl
theorem EY.step (t:EY e size (S0++[(i,pre)]) P G M) (hn:kA e size i pre=some (h,kids)) (hg:∀y∈h,y.1∉G.map fun x=>x.1) (hM:(M++kids.map fun x=>x.1).Nodup):EY e size (S0++kids) (P++[i]) (G++h) (M++kids.map fun x=>x.1):=by
 obtain⟨hi,hkl,hkk⟩:=zK hn
 have Z1:h=[]∨∃z,h=[(pre,z)]:=by
  cases hx:uleb (e.drop i) with
  |none=>rw[Kl hx]at hn;cases hn
  |some x =>
   rw[Fd hx]at hn
   obtain⟨h',hh,hn⟩:=oBb hn
   obtain⟨l,_,hn⟩:=oMm hn
   cases hn
   exact Kk hh
 have top:=t.ix S0.length (i,pre) (by simp)
 refine⟨t.wk.step hn,hM,t.pmS,?_,fun p hp=>?_,?_,fun j x hj=>?_,fun x hx=>?_,mem_append_left _ t.m0⟩
 ·rcases Z1 with rfl|⟨z,rfl⟩
  ·rw[append_nil];exact t.gn
  ·rw[map_append,nodup_append]
   refine⟨t.gn,by simp,fun a ha b hb=>?_⟩
   have hb:b=pre:=by simpa using hb
   subst hb
   exact fun z=>hg _ (mem_singleton.mpr rfl) (z ▸ ha)
 ·rcases mem_append.mp hp with hp|hp
  ·exact t.pl p hp
  ·have:p=i:=by simpa using hp
   lia
 ·have hl:h.length≤1:=by
   rcases Z1 with rfl|⟨z,rfl⟩
   ·exact zero_le _
   ·exact le_refl _
  have:=t.gl
  rw[length_append,length_append]
  show _≤P.length+1
  lia
 ·by_cases oU:j<S0.length
  ·refine t.ix j x ?_
   rw[getElem?_append_left oU]at hj ⊢
   exact hj
  ·rw[getElem?_append_right (by lia)]at hj
   obtain⟨hj2,hx⟩:=List.getElem?_eq_some_iff.mp hj
   have hk:=hkk x (by rw[←hx];exact List.getElem_mem _)
   have h1:S0.length≤255*pre.length:=top.1
   refine⟨?_,hk.2⟩
   have:255*(pre.length+1)≤255*x.2.length:=Nat.mul_le_mul_left _ hk.1
   lia
 ·rcases mem_append.mp hx with hx|hx
  ·exact t.z0 x (mem_append_left _ hx)
  ·have hk:=hkk x hx
   refine⟨fun z=>?_,fun z=>?_⟩
   ·have h1:=nodup_append.mp hM
    exact absurd z.symm (h1.2.2 0 t.m0 x.1 (List.mem_map_of_mem hx))
   ·rw[z]at hk
    exact absurd hk.1 (Nat.not_lt_zero _)
end
end MX
namespace MI
open PySem L2
def mk (M:List Nat):List (Key×V):=M.map fun(n:Nat)=>((Sum.inl (n:Int):Key),V.bl true)
theorem mk_val (M:List Nat) (n:Nat):(jt (mk M) (Sum.inl (n:Int):Key)).isSome=decide (n∈M):=by
 induction M with
 |nil=>rfl
 |cons p r ih =>
  show(jt (((Sum.inl (p:Int):Key),V.bl true)::mk r) (Sum.inl (n:Int):Key)).isSome=_
  by_cases h:p=n
  ·rw[lP (by show(Sum.inl (p:Int):Key)=_;rw[h])]
   rw[decide_eq_true (by rw[h];exact mem_cons_self ..)]
   rfl
  ·rw[lQ (fun z=>h (by injection z with z;lia)),ih]
   congr 1
   rw[mem_cons]
   exact propext ⟨.inr,fun z=>z.elim (fun q=>absurd q.symm h) id⟩
theorem ace {M:List Nat} {n:Nat} (h:n∉M):putK (mk M) (Sum.inl (n:Int):Key) (V.bl true)=mk (M++[n]):=by
 have h1:=mk_val M n
 rw[decide_eq_false h]at h1
 rw[UI _ (by
  cases q:jt (mk M) (Sum.inl (n:Int):Key) with
  |none=>rfl
  |some v=>rw[q]at h1;cases h1)]
 unfold mk
 rw[map_append]
 rfl
def NT (a:Ad) (o:HO):Prop:=(∃xs,o = .tup xs)∨∃d u v,o = .ins a.kX d (lh u v)
def Nk (a:Ad) (H H':Hp):Prop:=∀b o,H b=some o→NT a o→H' b=some o
section
variable {a:Ad} {H H' H1 H2:Hp}
theorem Nk.trans (k:Nk a H H1) (l:Nk a H1 H2):Nk a H H2:=fun b o e n=>l b o (k b o e n) n
theorem Nk.same (s:ax H H1):Nk a H H1:=fun b o e _=>s b o e
theorem Nk.of {S:Addr→Prop} (k:Kp S H H1) (hs:∀b,S b→∀o,H b=some o→¬NT a o):Nk a H H1:=fun b o e n=>k b o e fun z=>hs b z o e n
theorem jC.nk {n i:Nat} {pre:List UInt8} (h:jC a H n i pre) (k:Nk a H H1):jC a H1 n i pre:=by
 obtain⟨d,tn,hn,ht⟩:=h
 exact⟨d,tn,k _ _ hn (.inr ⟨_,_,_,rfl⟩),k _ _ ht (.inl ⟨_,rfl⟩)⟩
theorem VZ {xs:List V}:¬NT a (.lst xs):=fun z=>by rcases z with⟨_,z⟩|⟨_,_,_,z⟩<;>cases z
theorem aeY {xs:List (List Key×V)}:¬NT a (.dT xs):=fun z=>by rcases z with⟨_,z⟩|⟨_,_,_,z⟩<;>cases z
theorem aeZ {xs:List (Key×V)}:¬NT a (.dK xs):=fun z=>by rcases z with⟨_,z⟩|⟨_,_,_,z⟩<;>cases z
theorem V0 {C d:Addr} {u v:V}:¬NT a (.ins C d (bX u v)):=fun z=>by
 rcases z with⟨_,z⟩|⟨d',u',v',z⟩
 ·cases z
 ·have h1:upd (fun _=>none) 0 (.ins C d (bX u v)) 0=some (.ins C d (bX u v)):=af
  have h2:upd (fun _=>none) 0 (.ins C d (bX u v)) 0=some (.ins a.kX d' (lh u' v')):=by rw[←z];exact af
  exact Fc h2 h1 rfl
theorem Nk.upd {b:Addr} {o o':HO} (h:H b=some o) (n:¬NT a o):Nk a H (upd H b o'):=Nk.of (S:=At b) (Kp.upd (.inl rfl)) fun c hc o2 e=>by
 obtain rfl:c=b:=hc
 rw[h]at e
 cases e
 exact n
theorem wK {S:Addr→Prop} (s:ax H H1) (k:Kp S H1 H2) (hS:∀b,S b→H b=none):ax H H2:=fun b o e=>k b o (s b o e) fun z=>by rw[hS b z]at e;cases e
theorem wj {b:Addr} {o:HO} (s:ax H H1) (h:H b=none):ax H (upd H1 b o):=wK s (Kp.upd (S:=At b) (.inl rfl)) fun c hc=>by rw[show c=b from hc];exact h
theorem Eb {α β:Type} {F:α→β→Prop}:∀{l:List α} {m:List β} {y:β},Paired F l (m++[y])→∃l0 x,l=l0++[x]∧Paired F l0 m∧F x y
 |_,[],_,.cons q t=>by cases t;exact⟨[],_,rfl,.nil,q⟩
 |_,z::m,_,.cons q t=>by
  obtain⟨l0,x,rfl,p,f⟩:=Eb t
  exact⟨_::l0,x,rfl,.cons q p,f⟩
theorem iB {α β:Type} {F:α→β→Prop}:∀{l:List α} {m:List β} {k:Nat} {x:α},Paired F l m→l[k]?=some x→∃y,m[k]?=some y∧F x y
 |_,_,_,_,.nil,h=>by simp at h
 |_,_,0,_,.cons q t,h=>by cases h;exact⟨_,rfl,q⟩
 |_,_,k+1,x,.cons q t,h=>by
  obtain⟨y,e,f⟩:=iB (k:=k) (x:=x) t (by simpa using h)
  exact⟨y,by simpa using e,f⟩
end
theorem gN {α:Type} {l:List α} {k:Nat} {x:α} (h:l[k]?=some x):l.take (k+1)=l.take k++[x]:=by
 rw[take_succ,h]
 rfl
section
variable {g:Gm} {a:Ad}
inductive BI (a:Ad) (vs:List V) (H:Hp) (Q:VK) (E:XK):Prop
 |mk (p:Addr) (L:Nat) (e:List UInt8) (q0:vs=[.ref p,.int (L:Int)]) (q1:H p=some (.lst (bv e))) (q2:e.length<15000000) (q3:(Rc31.gives e L=none→∀H',ax H H'→E (.ref a.aE) none H')) (q4:∀G gd H',(∃g,Rc31.gives e L=some g∧g.Perm G)→(G.map fun x=>x.1).Nodup→H' gd=some (.dT (gk G))→H gd=none→ax H H'→Q (.ref gd) H'):BI a vs H Q E
theorem Hy (T:Tx g.K g.mg a):Pr g 6 a.uY ["part","length"] (BI a):=by
 refine Pr.on T.xT eE fun b6 A outer s H vs Q E hr h=>?_
 obtain⟨p,L,e,rfl,hp,hel,k0,k1⟩:=h
 refine⟨_,ae (aI (i:=2) eE.nd rfl (Or.inl rfl) UM)
  (ae (aI (i:=3) eE.nd rfl (Or.inl rfl) (Fp (jK (pv 0) (fun _=>rfl)) (cy (aa (kT (BG T) T.AO au hr (by decide) T.Pf (aa ak (aa (OU ai) ai))) ai)) (cy ai)))
  (ae (aI (i:=4) eE.nd rfl (Or.inl rfl) (Xz (UN ak Fn Xy) rfl rfl (by simp) (by decide)))
  (ae (qw tX (jK (pv 3) (fun _=>rfl)) (ae (aI (i:=5) eE.nd rfl (Or.inl rfl) (aaL F.plainAttrs_list F.slot_list_pop F.type_list_pop aaO (pv 3)))
  (ae (aI (i:=6) eE.nd rfl (Or.inl rfl) (kT (oG T) T.nG au hr (by decide) T.AH (aa (pv 0) (aa (ar (pv 5) rfl) ai))))
  (ae (aR (aU (Jm T) au hr (by decide) T.AD (aa (pv 6) (aa (pv 5) (aa (pv 2) (aa (pv 1) ai))))))
  (ag (ma tX rfl (lA (aU (Hx T) au hr (by decide) T.xS (aa (pv 6) (aa (pv 5) ai)))) (dJ (i:=7) eE.nd rfl (Or.inl rfl)) (ae (az (aB T) au hr (by decide) T.aA (Fo (B3 (FL hr) (ar (pv 7) rfl) (pv 4))))
  (ae (Q9 (FL hr) (pv 4) (ar (pv 7) rfl) Fn rfl)
  (ag (aR (uh F.plainAttrs_list F.slot_list_append F.type_list_append iC (pv 3) (aa (pv 7) ai))))))))))))
  (ag (aS (pv 2)))))),?_⟩
 intro gd Z2
 have s1:ax H (upd H gd (.dT [])):=ax.upd Z2
 refine⟨_,rfl,_,.inl ⟨_,bP.of (s1 _ _ hp),rfl⟩,?_⟩
 by_cases he:e=[]
 ·subst he
  refine eA ⟨zero_le _,fun wl zQ=>fun ml Mw=>⟨af,[((Sum.inl (0:Int):Key),V.bl true)],rfl,by decide,?_⟩⟩
  have ngw:gd≠wl:=aq af zQ
  have nwm:wl≠ml:=aq af Mw
  have ngm:gd≠ml:=aq (by rw[aj ngw];exact af) Mw
  rw[bN]
  refine⟨fun _ σ H2=>σ=[some (.ref p),some (.int (L:Int)),some (.ref gd),some (.ref wl),some (.ref ml),none,none,none]∧H2 wl=some (.lst [])∧H2 gd=some (.dT (gk []))∧ax H H2,⟨0,rfl,by rw[aj nwm];exact af,by rw[aj ngm,aj ngw];exact af,(s1.trans (ax.upd zQ)).trans (ax.upd Mw)⟩,?_⟩
  rintro m σ H2 ⟨rfl,hw,hg,sH⟩
  exact⟨_,rfl,_,.inl ⟨_,bP.of hw,rfl⟩,eA ⟨_,rfl,k1 [] gd H2 ⟨[],rfl,.nil⟩ (by simp) hg Z2 sH⟩⟩
 ·have htr:(!(bv e).isEmpty)=true:=by
   cases e with
   |nil=>exact absurd rfl he
   |cons _ _=>rfl
  rw[htr]
  refine iE ⟨zero_le _,fun t0 ht0=>fun x dx nx ndx ZN=>⟨x,dx,_,_,rfl,af,rfl,?_⟩⟩
  rw[bN]
  refine⟨(by show 1≤sizeLine;decide),fun wl zQ=>fun ml Mw=>⟨af,[((Sum.inl (0:Int):Key),V.bl true)],rfl,by decide,?_⟩⟩
  rw[bN]
  have s2:=ax.upd (o:=.tup []) ht0
  have s3:=(ax.upd (o:=.own x) ndx).trans (ax.upd (o:=.ins a.kX dx (lh (.int 0) (.ref t0))) (by rw[aj ZN.symm];exact nx))
  have s4:=ax.upd (o:=.lst [.ref x]) zQ
  have s5:=ax.upd (o:=.dK (kS [] [((Sum.inl (0:Int):Key),V.bl true)])) Mw
  have xy:=s1.trans s2
  have Mf:=xy.trans s3
  have YB:H wl=none:=Mf.free zQ
  have aih:H ml=none:=(Mf.trans s4).free Mw
  have ae0:jC a _ x 0 []:=⟨dx,t0,af,s3 _ _ af⟩
  have ae1:=(ae0.nk (Nk.same s4)).nk (Nk.same s5)
  have gdE:=s5 _ _ (s4 _ _ (s3 _ _ (s2 _ _ (af (H:=H) (a:=gd) (o:=.dT [])))))
  refine⟨fun m σ H2=>∃(na:List Addr) (S:List (Nat×List UInt8)) (P:List Nat) (G:List (List UInt8×Nat)) (M:List Nat) (v5 v6 v7:Option V),σ=[some (.ref p),some (.int (L:Int)),some (.ref gd),some (.ref wl),some (.ref ml),v5,v6,v7]∧H2 wl=some (.lst (na.map V.ref))∧Paired (fun n k=>jC a H2 n k.1 k.2) na S∧H2 ml=some (.dK (mk M))∧H2 gd=some (.dT (gk G))∧ax H H2∧m=e.length-P.length∧MX.EY e L S P G M,
   ⟨_,[x],[(0,[])],[],[],[0],none,none,none,rfl,s5 _ _ af,.cons ae1 .nil,af,gdE,(Mf.trans s4).trans s5,rfl,MX.EY.start he⟩,?_⟩
  rintro m σ H2 ⟨na,S,P,G,M,v5,v6,v7,rfl,hw,pn,hm,hg,sH,rfl,tr⟩
  refine⟨_,rfl,_,.inl ⟨_,bP.of hw,rfl⟩,?_⟩
  by_cases hS:S=[]
  ·subst hS
   cases pn
   exact eA ⟨_,rfl,k1 G gd H2 (tr.wk.done (nodup_append.mp tr.ndP).1 tr.gn) tr.gn hg Z2 sH⟩
  obtain⟨S0,i,pre,rfl⟩:∃S0 i pre,S=S0++[(i,pre)]:=⟨S.dropLast,(S.getLast hS).1,(S.getLast hS).2,(dropLast_concat_getLast hS).symm⟩
  obtain⟨Oc,n,rfl,pn0,hn⟩:=Eb pn
  rw[show(!((Oc++[n]).map V.ref).isEmpty)=true by simp]
  refine iE ⟨fun σ' H'=>∃m',m'<e.length-P.length∧_,fun σ' H' q=>q,?_⟩
  refine⟨_,rfl,.inl ⟨rfl,_,bP.of hw⟩,wl,_,.ref n,rfl,rfl,hw,by simp,?_⟩
  rw[show((Oc++[n]).map V.ref).dropLast=Oc.map V.ref by simp]
  have hn:jC a H2 n i pre:=hn
  have nk3:Nk a H2 (upd H2 wl (.lst (Oc.map V.ref))):=Nk.upd hw VZ
  have Z3:ax H (upd H2 wl (.lst (Oc.map V.ref))):=wj sH YB
  have nwm:ml≠wl:=cS hm hw (by intro z;cases z)
  have nwg:gd≠wl:=cS hg hw (by intro z;cases z)
  have hm3:upd H2 wl (.lst (Oc.map V.ref)) ml=some (.dK (mk M)):=by rw[aj nwm];exact hm
  have hg3:upd H2 wl (.lst (Oc.map V.ref)) gd=some (.dT (gk G)):=by rw[aj nwg];exact hg
  have hw3:upd H2 wl (.lst (Oc.map V.ref)) wl=some (.lst (Oc.map V.ref)):=af
  generalize upd H2 wl (.lst (Oc.map V.ref))=H3 at *
  have hn3:=hn.nk nk3
  obtain⟨nx3,tn,hnn,htt⟩:=id hn3
  refine⟨_,rfl,_,rfl,n,_,nx3,_,_,rfl,hnn,T.lG,T.ir,wH,fun c dc nc ndc ncd=>⟨c,dc,p,i,rfl,af,fun H4 C4 k4=>⟨rfl,?_⟩⟩⟩
  have WS:ax H3 H4:=ax.tS nc ndc k4
  have ZT:H c=none:=Z3.free nc
  have V1:=Z3.trans WS
  have nk4:=nk3.trans (Nk.same WS)
  obtain⟨d4,WN⟩:=id C4
  have hg4:=WS _ _ hg3
  have hm4:=WS _ _ hm3
  have hw4:=WS _ _ hw3
  have aeX:=tr.aeX
  have aeW:=tr.aeW
  have Tr:=tr.Tr
  rw[length_append]at Tr
  have Tr:S0.length+1≤65026:=Tr
  have hsz:=sizeLine_eq
  refine⟨_,rfl,_,rfl,_,rfl,_,rfl,c,p,n,gd,e,i,L,pre,G,rfl,C4,V1 _ _ hp,hn.nk nk4,tr.z0 (i,pre) (by simp),hg4,by lia,fun q H' k'=>k0 (tr.twice q) _ (wK V1 k' fun b hb=>by rw[show b=c from hb];exact ZT),fun x h hx hh zR H5 j C5 ej lej k5 hg5 E7=>?_⟩
  have nk5:Nk a H2 H5:=nk4.trans (Nk.of k5 fun b hb o q=>by
   rcases hb with rfl|rfl
   ·rw[WN]at q;cases q;exact V0
   ·rw[hg4]at q;cases q;exact aeY)
  have V2:ax H H5:=wK V1 k5 fun b hb=>hb.elim (fun z=>by rw[z];exact ZT) fun z=>by rw[z];exact Z2
  have hw5:=k5 _ _ hw4 fun z=>z.elim (cS hw4 WN (by intro z;cases z)) (cS hw4 hg4 (by intro z;cases z))
  have hm5:=k5 _ _ hm4 fun z=>z.elim (cS hm4 WN (by intro z;cases z)) (cS hm4 hg4 (by intro z;cases z))
  obtain⟨d5,YH⟩:=id C5
  refine⟨_,rfl,_,rfl,c,p,n,e,j,i,pre,rfl,C5,V2 _ _ hp,hn.nk nk5,(tr.ix S0.length (i,pre) (by simp)).2,fun hk H' k'=>k0 (tr.below hx (by rw[←ej];exact hk)) _ (wK V2 k' fun b hb=>by rw[show b=c from hb];exact ZT),fun kids ae2 l ka H6 hl6 pk6 nl6 k6=>?_⟩
  have V3:MX.kA e L i pre=some (h,kids):=by
   rw[MX.Fd hx,hh]
   show(yt pre (x.2.drop x.1)).map (fun l=>(h,l))=_
   rw[←ej,ae2]
   rfl
  have nk6:Nk a H2 H6:=nk5.trans (Nk.of k6 fun b hb o q=>by
   obtain rfl:b=c:=hb
   rw[YH]at q;cases q;exact V0)
  have ae3:ax H H6:=wK V2 k6 fun b hb=>by rw[show b=c from hb];exact ZT
  have hw6:=k6 _ _ hw5 (cS hw5 YH (by intro z;cases z))
  have hm6:=k6 _ _ hm5 (cS hm5 YH (by intro z;cases z))
  have hg6:=k6 _ _ hg5 (cS hg5 YH (by intro z;cases z))
  have nlw:l≠wl:=fun z=>by rw[z,hw5]at nl6;cases nl6
  have ani:=(MX.zK V3).2.1
  have lka:ka.length=kids.length:=Paired.length pk6
  have lna:Oc.length=S0.length:=Paired.length pn0
  refine⟨l,rfl,⟨_,bP.of hl6⟩,ug (K:=g.K) (a:=l) (xs:=ka.map V.ref) (fun k σ H7=>∃v7,σ=[some (.ref p),some (.int (L:Int)),some (.ref gd),some (.ref wl),some (.ref ml),some (.ref n),some (.ref c),v7]∧H7 wl=some (.lst ((Oc++ka.take k).map V.ref))∧H7 ml=some (.dK (mk (M++(kids.take k).map fun x=>x.1)))∧H7 gd=some (.dT (gk (G++h)))∧H7 l=some (.lst (ka.map V.ref))∧Paired (fun n k=>jC a H7 n k.1 k.2) ka kids∧Paired (fun n k=>jC a H7 n k.1 k.2) Oc S0∧(M++(kids.take k).map fun x=>x.1).Nodup∧ax H H7)
   ⟨_,rfl,?_,?_,hg6,hl6,pk6,Paired.ud pn0 fun _ _ q=>q.nk nk6,?_,ae3⟩ (fun k σ H7 _ ⟨_,_,_,_,_,q,_⟩=>bP.of q) ?_ ?_⟩
  ·rw[take_zero,append_nil];exact hw6
  ·rw[take_zero,map_nil,append_nil];exact hm6
  ·rw[take_zero,map_nil,append_nil];exact tr.nd
  ·rintro k y σ H7 hy7 ⟨v7,rfl,hw7,WT,hg7,hl7,pk7,pn7,nd7,s7⟩
   rw[getElem?_map]at hy7
   obtain⟨y,Z4,rfl⟩:=oMm hy7
   obtain⟨q,hq,hyn⟩:=iB pk7 Z4
   obtain⟨dy,ty,hy,hty⟩:=hyn
   obtain⟨anl,_⟩:=List.getElem?_eq_some_iff.mp hq
   refine⟨_,rfl,y,_,dy,_,_,rfl,hy,T.lG,T.ir,wH,_,rfl,ml,_,rfl,wM.k (k:=Sum.inl (q.1:Int)) WT,_,rfl,?_⟩
   rw[mk_val]
   have e3:(!decide (q.1∈M++(kids.take k).map fun x=>x.1))=decide (q.1∉M++(kids.take k).map fun x=>x.1):=by
    by_cases z:q.1∈M++(kids.take k).map fun x=>x.1
    ·rw[decide_eq_true z,decide_eq_false (fun w=>w z)];rfl
    ·rw[decide_eq_false z,decide_eq_true z];rfl
   rw[e3]
   refine aw (fun e4=>?_) fun e4=>k0 (tr.met V3 hq (Classical.byContradiction e4)) _ s7
   have lmk:(mk (M++(kids.take k).map fun x=>x.1)).length<sizeLine:=by
    unfold mk
    rw[length_map,length_append,length_map,length_take]
    lia
   refine⟨_,rfl,_,rfl,y,_,dy,_,_,rfl,hy,T.lG,T.ir,wH,ml,_,rfl,MP.k (k:=Sum.inl (q.1:Int)) WT lmk,?_⟩
   rw[ace e4]
   have nmw:ml≠wl:=cS WT hw7 (by intro z;cases z)
   have nmg:gd≠ml:=cS hg7 WT (by intro z;cases z)
   have Yy:l≠ml:=cS hl7 WT (by intro z;cases z)
   have ngw:gd≠wl:=cS hg7 hw7 (by intro z;cases z)
   have Q7:upd H7 ml (.dK (mk (M++(kids.take k).map (fun x=>x.1)++[q.1]))) wl=some (.lst ((Oc++ka.take k).map V.ref)):=by rw[aj nmw.symm];exact hw7
   refine⟨_,rfl,.inl ⟨rfl,_,bP.of Q7⟩,_,rfl,wl,_,_,rfl,rfl,Q7,?_,?_⟩
   ·rw[length_map,length_append,length_take]
    lia
   have nk9:Nk a H7 (upd (upd H7 ml (.dK (mk (M++(kids.take k).map (fun x=>x.1)++[q.1])))) wl (.lst ((Oc++ka.take k).map V.ref++[.ref y]))):=(Nk.upd WT aeZ).trans (Nk.upd Q7 VZ)
   have eM:(M++(kids.take (k+1)).map fun x=>x.1)=M++(kids.take k).map (fun x=>x.1)++[q.1]:=by
    rw[gN hq,map_append,←append_assoc]
    rfl
   refine⟨_,rfl,?_,?_,?_,?_,Paired.ud pk7 fun _ _ q=>q.nk nk9,Paired.ud pn7 fun _ _ q=>q.nk nk9,?_,wj (wj s7 aih) YB⟩
   ·rw[af,gN Z4,←append_assoc,map_append (l₁:=Oc++ka.take k)]
    rfl
   ·rw[aj nmw,af,eM]
   ·rw[aj ngw,aj nmg];exact hg7
   ·rw[aj nlw,aj Yy];exact hl7
   ·rw[eM,nodup_append]
    refine⟨nd7,by simp,fun u hu w hw=>?_⟩
    have hw:w=q.1:=by simpa using hw
    rw[hw]
    exact fun z=>e4 (z ▸ hu)
  ·rintro σ H7 ⟨v7,rfl,hw7,WT,hg7,hl7,pk7,pn7,nd7,s7⟩
   rw[length_map]at hw7 WT nd7
   rw[take_length]at hw7
   rw[lka,take_length]at WT nd7
   have tr':=tr.step V3 zR nd7
   have lp:=tr'.acd
   rw[length_append]at lp
   have lp:P.length+1≤e.length:=lp
   refine⟨e.length-(P++[i]).length,by rw[length_append];show e.length-(P.length+1)<_;lia,Oc++ka,S0++kids,P++[i],G++h,_,_,_,_,rfl,hw7,sZ pn7 pk7,WT,hg7,s7,rfl,tr'⟩
end
end MI
namespace MI
open Rc31
section
variable {α β:Type} (inv:Now→Prop) (out:β→List α) (w:α→Nat) (good:β→Prop)
structure qv (xs:List β) (p:Option (Now×List β×Bytes)) (q:Option (List α×Now×Bytes)):Prop where
 yes:∀y,p=some y→∃l,y.2.1=xs++l∧q=some (l.flatMap out,y.1,y.2.2)∧inv y.1∧∀b∈l,good b
 no:p=none→∀z,q=some z→distant (z.1.map w)=false
variable {inv out w good} {xs:List β}
theorem qv.none:qv inv out w good xs none none:=⟨(fun _ h=>nomatch h),fun _ _ h=>nomatch h⟩
theorem qv.quiet {o:Option (Now×Bytes)} {p:Option (Now×List β×Bytes)} {q:Option (List α×Now×Bytes)} (hp:p=o.map fun y=>(y.1,xs,y.2)) (hq:q=o.map fun y=>([],y.1,y.2)) (h:∀y,o=some y→inv y.1):qv inv out w good xs p q:=by
 subst hp hq
 refine⟨fun y e=>?_,fun e z e2=>?_⟩
 ·obtain⟨x,hx,rfl⟩:=oMm e
  exact⟨[],by simp,by rw[hx];rfl,h x hx,fun b hb=>nomatch hb⟩
 ·rw[map_eq_none_iff]at e
  rw[e]at e2
  cases e2
theorem qv.bind {γ:Type} {o:Option γ} {p:γ→Option (Now×List β×Bytes)} {q:γ→Option (List α×Now×Bytes)} (h:∀x,o=some x→qv inv out w good xs (p x) (q x)):qv inv out w good xs (o.bind p) (o.bind q):=by
 cases o with
 |none=>exact qv.none
 |some x=>exact h x rfl
end
structure acg {α:Type} (Od:Now→Nat→Nat→Bytes→Option (List α×Now×Bytes)) (Jn:Now→Bytes→Option (List α)):Prop where
 nil:∀s,Jn s []=some []
 zero:∀s r,Jn s (0::r)=if (r.all fun x=>x==0)=true then some [] else none
 step:∀s c r,c≠0→Jn s (c::r)=(Od s (c.toNat/16) (c.toNat%16) r).bind fun y=>(Jn y.2.1 y.2.2).map fun l=>y.1++l
theorem BJ {α:Type} {w:α→Nat} {a b:List α} (h:distant (a.map w)=false):distant ((a++b).map w)=false∧distant ((b++a).map w)=false:=by
 rw[map_append,map_append]
 exact MX.kx h
theorem Hz {α β:Type} {inv:Now→Prop} {out:β→List α} {w:α→Nat} {good:β→Prop} {Od:Now→Nat→Nat→Bytes→Option (List α×Now×Bytes)} {Jn:Now→Bytes→Option (List α)} (A:acg Od Jn)
 {Oe:Nat→Nat→Now→List β→Bytes→Option (Now×List β×Bytes)} (hs:∀op cx s xs r,inv s→qv inv out w good xs (Oe op cx s xs r) (Od s op cx r)) (hl:∀op cx s xs r y,Oe op cx s xs r=some y→y.2.2.length≤r.length) :
 ∀(f:Nat) (s:Now) (xs:List β) (b:Bytes),inv s→b.length<f →
  (∀y,jH Oe f s xs b=some y→∃l,y.2=xs++l∧Jn s b=some (l.flatMap out)∧∀b∈l,good b) ∧
  (jH Oe f s xs b=none→∀z,Jn s b=some z→distant (z.map w)=false)
 |0,s,xs,b,_,h=>absurd h (Nat.not_lt_zero _)
 |f+1,s,xs,[],hp,h=>by
  refine⟨fun y e=>?_,fun e=>by simp[jH]at e⟩
  simp only[jH,Option.some.injEq]at e
  subst e
  exact⟨[],by simp,by rw[A.nil];rfl,fun b hb=>nomatch hb⟩
 |f+1,s,xs,c::r,hp,h=>by
  by_cases hc:c=0
  ·subst hc
   by_cases hz:(r.all fun y=>y==0)=true
   ·refine⟨fun y e=>?_,fun e=>?_⟩
    ·rw[jH,iPp rfl,iPp hz]at e
     cases e
     exact⟨[],by simp,by rw[A.zero,iPp hz];rfl,fun b hb=>nomatch hb⟩
    ·rw[jH,iPp rfl,iPp hz]at e
     cases e
   ·refine⟨fun y e=>?_,fun e z e2=>?_⟩
    ·rw[jH,iPp rfl,IN hz]at e
     cases e
    ·rw[A.zero,IN hz]at e2
     cases e2
  ·have R:=hs (c.toNat/16) (c.toNat%16) s xs r hp
   have L:=hl (c.toNat/16) (c.toNat%16) s xs r
   have hlen:r.length<f:=by simpa using h
   rw[jH,IN hc,A.step s c r hc]
   generalize Oe (c.toNat/16) (c.toNat%16) s xs r=p at *
   generalize Od s (c.toNat/16) (c.toNat%16) r=q at *
   cases p with
   |none =>
    refine⟨(fun y e=>nomatch e),fun _ z e=>?_⟩
    obtain⟨z1,h1,e⟩:=oBb e
    obtain⟨l,_,rfl⟩:=oMm e
    exact(BJ (R.no rfl z1 h1)).1
   |some y1 =>
    obtain⟨l1,e1,e2,e3,e4⟩:=R.yes y1 rfl
    subst e2
    have I:=Hz A hs hl f y1.1 y1.2.1 y1.2.2 e3 (lt_of_le_of_lt (L y1 rfl) hlen)
    refine⟨fun y e=>?_,fun e z e5=>?_⟩
    ·obtain⟨l,g1,g2,g3⟩:=I.1 y e
     refine⟨l1++l,by rw[g1,e1,append_assoc],?_,fun b hb=>?_⟩
     ·show(Jn y1.1 y1.2.2).map _=_
      rw[g2,flatMap_append]
      rfl
     ·exact(mem_append.mp hb).elim (e4 b) (g3 b)
    ·obtain⟨l,h1,rfl⟩:=oMm (show(Jn y1.1 y1.2.2).map (fun l=>l1.flatMap out++l)=some z from e5)
     exact(BJ (I.2 e l h1)).2
def wm (r:Rn):List Nat:=(range r.n).map (MX.bR r.p r.skip)
structure xA (t:Told) (r:Rn):Prop where
 p:r.p<W64
 n:r.n≤65536
 s:8≤(MX.aD r.n r.skip).natAbs
 row:∀i,i<r.n→wordAt t (MX.bR r.p r.skip i)=true
theorem Z5 {t:Told} {n p skip:Nat} {y:List Nat×Nat} (hp:p<W64) (h:t8 t n p skip=some y):xA t ⟨p,n,skip⟩∧row t n p skip=some (wm ⟨p,n,skip⟩,y.2)∧y.2<W64:=by
 obtain⟨h1,h2,h3,h4⟩:=N6 hp h
 refine⟨⟨hp,h1,h2,fun i hi=>?_⟩,?_,?_⟩
 ·cases e:wordAt t (MX.bR p skip i) with
  |true=>rfl
  |false=>rw[MX.Hg hp hi e]at h3;cases h3
 ·rw[h3,row_end hp h3]
  rfl
 ·rw[h4]
  exact mod_lt _ (by rw[MX.gX];decide)
theorem LY {t:Told} (T:MX.wJ t) {n p skip:Nat} (hp:p<W64) (hn:n≤65536) (h:t8 t n p skip=none) {l:List Nat×Nat} (q:row t n p skip=some l):distant l.1=false:=by
 unfold t8 at h
 by_cases hc:n≤65536∧8≤(MX.aD n skip).natAbs
 ·rw[iPp hc,q]at h
  cases h
 ·exact MX.Tf (l:=l.1) (q:=l.2) T hp (by lia) q
theorem Mg {s:Now} {n:Nat}:({s with place:=(s.place+n)%W64}:Now).place<W64:=mod_lt _ (by rw[MX.gX];decide)
theorem Fe {t:Told} (T:MX.wJ t) {s:Now} (hp:s.place<W64) (n skip:Nat) (rs:List Rn) (r:Bytes):qv (fun s=>s.place<W64) wm id (xA t) rs ((HS n skip t s rs).map fun y=>(y.1,y.2,r)) (MX.RJ t s n skip r):=by
 unfold HS MX.RJ CS
 by_cases hc:s.typed=true∧s.placed=true
 ·rw[iPp hc]
  by_cases hn:n≤65536
  ·rw[IN (by
   rw[hc.1,hc.2]
   rintro(z|z|z)
   ·cases z
   ·cases z
   ·exact absurd hn (Nat.not_le_of_lt z))]
   cases hr:t8 t n s.place skip with
   |none =>
    refine⟨(fun y e=>nomatch e),fun _ z e=>?_⟩
    obtain⟨x,hx,rfl⟩:=oMm e
    rw[map_id]
    exact LY T hp hn hr hx
   |some y =>
    obtain⟨g1,g2,g3⟩:=Z5 hp hr
    refine⟨fun z e=>?_,fun e=>nomatch e⟩
    cases e
    exact⟨[⟨s.place,n,skip⟩],rfl,by rw[g2];simp,g3,fun b hb=>by rw[mem_singleton.mp hb];exact g1⟩
  ·rw[iPp (.inr (.inr (by show 65536<n;lia)))]
   have:t8 t n s.place skip=none:=by unfold t8;rw[IN (fun z=>hn z.1)]
   rw[this]
   exact qv.none
 ·rw[IN hc,iPp (by
   cases h1:s.typed with
   |false=>exact .inr (.inl rfl)
   |true =>
    cases h2:s.placed with
    |false=>exact .inl rfl
    |true=>exact absurd ⟨h1,h2⟩ hc)]
  exact qv.none
theorem RP {t:Told} {n:Nat} {s:Now} {r:Bytes} {y:Now×Bytes} (h:jG n t s r=some y):y.1.place<W64:=by
 unfold jG at h
 obtain⟨x,hx,h⟩:=oBb h
 obtain⟨p,hp,rfl⟩:=oMm h
 exact mod_lt _ (by rw[MX.gX];decide)
theorem Ts {t:Told} (T:MX.wJ t):∀op cx s rs r,s.place<W64→qv (fun s=>s.place<W64) wm id (xA t) rs (ff t op cx s rs r) (MX.fO t s op cx r):=by
 intro op cx s rs r hp
 by_cases h1:op=1
 ·subst h1
  refine qv.quiet (o:=kR cx t s r) (by simp[ff]) ?_ (fun y h=>?_)
  ·unfold kR
   by_cases hi:cx=1
   ·simp[MX.fO,hi]
   ·simp[MX.fO,hi]
  ·unfold kR at h
   split at h
   ·cases h;exact hp
   ·cases h
 by_cases h2:op=2
 ·subst h2
  refine qv.quiet (o:=jG cx t s r) (by simp[ff]) ?_ fun y h=>RP h
  unfold jG
  unfold MX.fO
  rw[IN (by decide),iPp rfl]
  cases uleb r with
  |none=>rfl
  |some x =>
   show(segmentAt t cx).map _=((segmentAt t cx).map _).map _
   rw[Option.map_map]
   rfl
 by_cases h3:op=3
 ·subst h3
  by_cases hi:cx=0
  ·subst hi
   have e1:ff t 3 0 s rs r=((uleb r).map fun x=>(({s with place:=(s.place+x.1)%W64}:Now),x.2)).map fun y=>(y.1,rs,y.2):=by
    unfold ff
    rw[iPp (.inl rfl),IN (by decide),IN (by decide),iPp rfl]
    cases uleb r with
    |none=>rfl
    |some x=>rfl
   refine qv.quiet e1 ?_ (fun y h=>?_)
   ·unfold MX.fO
    rw[IN (by decide),IN (by decide),iPp rfl,IN (by simp),Option.map_map]
    rfl
   ·obtain⟨x,hx,rfl⟩:=oMm h
    exact Mg
  ·have e1:ff t 3 cx s rs r=none:=by simp[ff,hi]
   have e2:MX.fO t s 3 cx r=none:=by simp[MX.fO,hi]
   rw[e1,e2]
   exact qv.none
 by_cases h4:op=4
 ·subst h4
  exact qv.quiet (o:=N9 (8*cx) t s r) (by simp[ff]) (by simp[MX.fO,N9]) fun y h=>by
   cases h
   exact Mg
 by_cases h5:op=5
 ·subst h5
  have e1:ff t 5 cx s rs r=(HS cx 0 t s rs).map fun y=>(y.1,y.2,r):=by simp[ff]
  have e2:MX.fO t s 5 cx r=MX.RJ t s cx 0 r:=by simp[MX.fO]
  rw[e1,e2]
  exact Fe T hp _ _ _ _
 by_cases hi:cx≠0
 ·have e1:ff t op cx s rs r=none:=by
   unfold ff
   rw[IN (by lia)]
  have e2:MX.fO t s op cx r=none:=by simp[MX.fO,hi,h1,h2,h3,h4,h5]
  rw[e1,e2]
  exact qv.none
 have hi:cx=0:=by lia
 subst hi
 by_cases h6:op=6
 ·subst h6
  have e1:ff t 6 0 s rs r=(uleb r).bind fun x=>(HS x.1 0 t s rs).map fun y=>(y.1,y.2,x.2):=by simp[ff]
  have e2:MX.fO t s 6 0 r=(uleb r).bind fun x=>MX.RJ t s x.1 0 x.2:=by simp[MX.fO]
  rw[e1,e2]
  exact qv.bind fun x _=>Fe T hp _ _ _ _
 by_cases h7:op=7
 ·subst h7
  have e1:ff t 7 0 s rs r=(uleb r).bind fun x=>(HS 1 x.1 t s rs).map fun y=>(y.1,y.2,x.2):=by simp[ff]
  have e2:MX.fO t s 7 0 r=(uleb r).bind fun x=>MX.RJ t s 1 x.1 x.2:=by simp[MX.fO]
  rw[e1,e2]
  exact qv.bind fun x _=>Fe T hp _ _ _ _
 by_cases h8:op=8
 ·subst h8
  have e1:ff t 8 0 s rs r=(uleb r).bind fun x=>(uleb x.2).bind fun y=>(HS x.1 y.1 t s rs).map fun z=>(z.1,z.2,y.2):=by
   unfold ff
   rw[iPp (.inl rfl),IN (by decide),IN (by decide),IN (by decide),IN (by decide),IN (by decide),IN (by decide),IN (by decide),iPp rfl]
   cases uleb r with
   |none=>rfl
   |some x =>
    show((uleb x.2).bind _).map _=(uleb x.2).bind _
    cases uleb x.2 with
    |none=>rfl
    |some y =>
     show((HS x.1 y.1 t s rs).map _).map _=_
     rw[Option.map_map]
     rfl
  have e2:MX.fO t s 8 0 r=(uleb r).bind fun x=>(uleb x.2).bind fun y=>MX.RJ t s x.1 y.1 y.2:=by simp[MX.fO]
  rw[e1,e2]
  exact qv.bind fun x _=>qv.bind fun y _=>Fe T hp _ _ _ _
 have e1:ff t op 0 s rs r=none:=by simp[ff,h1,h2,h3,h4,h5,h6,h7,h8]
 have e2:MX.fO t s op 0 r=none:=by simp[MX.fO,h1,h2,h3,h4,h5,h6,h7,h8]
 rw[e1,e2]
 exact qv.none
theorem Tt {t:Told} (T:MX.wJ t) (part:Bytes) (d:Nat) (hd:d=part.length) :
 (∀rs,v9 t part=some rs→mends t (d+1) {} part=some (rs.flatMap wm)∧∀r∈rs,xA t r)∧(v9 t part=none→∀ms,mends t (d+1) {} part=some ms→distant ms=false):=by
 subst hd
 have A:acg (MX.fO t) (MX.lY t):=⟨MX.L6 t,MX.Jh t,fun s c r=>MX.Ji t s c r⟩
 have W:=Hz A (Ts T) (fun op cx s xs r y h=>Kh op cx s xs r y h) (part.length+1) {} [] part (by rw[MX.gX];decide) (lt_succ_self _)
 unfold v9
 refine⟨fun rs h=>?_,fun h ms e=>?_⟩
 ·obtain⟨y,hy,rfl⟩:=oMm h
  obtain⟨l,e1,e2,e3⟩:=W.1 y hy
  have e1:y.2=l:=by rw[e1];rfl
  rw[e1]
  exact⟨e2,e3⟩
 ·rw[map_eq_none_iff]at h
  have:=W.2 h ms e
  rw[map_id]at this
  exact this
def eY (u:Wn):List Want:=(wm u.r).map fun p=>⟨u.wb,u.name,u.plus,p⟩
structure Tu (t:Told) (u:Wn):Prop where
 r:xA t u.r
 lib1:1≤u.wb
 lib2:u.wb≤t.libraries.length
 ake:u.name≠[]
 ae6:u.name.length≤255
 plus:u.plus<W64
structure YI (s:Now):Prop where
 place:s.place<W64
 plus:s.plus<W64
 name:∀nm,s.name=some nm→nm≠[]∧nm.length≤255
theorem Ff:0<W64:=by rw[MX.gX];decide
theorem YJ {b:Bytes} {x:Nat×Bytes} (h:sleb b=some x):x.1<W64:=by
 unfold sleb at h
 obtain⟨y,hy,h⟩:=oBb h
 simp only[Option.some.injEq]at h
 rw[←h]
 dsimp only
 split
 ·exact mod_lt _ Ff
 ·exact mod_lt _ Ff
theorem Fg {t:Told} (T:MX.wJ t) {s:Now} (hp:YI s) (n skip:Nat) (ws:List Wn) (r:Bytes):qv YI eY (fun x=>x.word) (Tu t) ws ((Hs n skip t s ws).map fun y=>(y.1,y.2,r)) (MX.RK t s n skip r):=by
 unfold Hs MX.RK
 cases hnm:s.name with
 |none =>
  rw[IN (fun z=>z.2 rfl)]
  exact qv.none
 |some nm =>
  by_cases Tv:1≤s.library∧s.library≤t.libraries.length
  ·rw[iPp ⟨Tv,fun z=>nomatch z⟩]
   unfold CS
   by_cases hc:s.typed=true∧s.placed=true
   ·rw[iPp hc]
    by_cases hn:n≤65536
    ·have zR:¬(s.placed=false∨s.typed=false∨s.library=0∨t.libraries.length<s.library∨COUNT<n):=by
      rw[hc.1,hc.2]
      rintro(z|z|z|z|z)
      ·cases z
      ·cases z
      ·lia
      ·lia
      ·exact absurd hn (Nat.not_le_of_lt z)
     simp only[IN zR]
     cases hr:t8 t n s.place skip with
     |none =>
      refine⟨(fun y e=>nomatch e),fun _ z e=>?_⟩
      obtain⟨x,hx,rfl⟩:=oMm e
      rw[map_map]
      show distant (x.1.map id)=false
      rw[map_id]
      exact LY T hp.place hn hr hx
     |some y =>
      obtain⟨g1,g2,g3⟩:=Z5 hp.place hr
      refine⟨fun z e=>?_,fun e=>nomatch e⟩
      cases e
      refine⟨[⟨⟨s.place,n,skip⟩,s.library,nm,s.plus⟩],rfl,by rw[g2];simp[eY,hnm],⟨g3,hp.plus,?_⟩,fun b hb=>by rw[mem_singleton.mp hb];exact⟨g1,Tv.1,Tv.2,(hp.name nm hnm).1,(hp.name nm hnm).2,hp.plus⟩⟩
      intro nm' h'
      exact hp.name nm' h'
    ·have:t8 t n s.place skip=none:=by unfold t8;rw[IN (fun z=>hn z.1)]
     rw[this]
     have zR:(s.placed=false∨s.typed=false∨s.library=0∨t.libraries.length<s.library∨COUNT<n):=.inr (.inr (.inr (.inr (by show 65536<n;lia))))
     simp only[iPp zR]
     exact qv.none
   ·have zR:(s.placed=false∨s.typed=false∨s.library=0∨t.libraries.length<s.library∨COUNT<n):=by
     cases h1:s.typed with
     |false=>exact .inr (.inl rfl)
     |true =>
      cases h2:s.placed with
      |false=>exact .inl rfl
      |true=>exact absurd ⟨h1,h2⟩ hc
    rw[IN hc]
    simp only[iPp zR]
    exact qv.none
  ·have zR:(s.placed=false∨s.typed=false∨s.library=0∨t.libraries.length<s.library∨COUNT<n):=by lia
   rw[IN (fun z=>Tv z.1)]
   simp only[iPp zR]
   exact qv.none
theorem Tw {t:Told} (T:MX.wJ t):∀op cx s ws r,YI s→qv YI eY (fun x=>x.word) (Tu t) ws (eQ t op cx s ws r) (MX.eP t s op cx r):=by
 intro op cx s ws r hp
 by_cases h1:op=1
 ·subst h1
  exact qv.quiet (o:=some (({s with library:=cx}:Now),r)) (by simp[eQ]) (by simp[MX.eP]) fun y h=>by
   cases h
   exact⟨hp.place,hp.plus,hp.name⟩
 by_cases h5:op=5
 ·subst h5
  refine qv.quiet (o:=kR cx t s r) (by simp[eQ]) ?_ (fun y h=>?_)
  ·unfold kR
   by_cases hi:cx=1
   ·simp[MX.eP,hi]
   ·simp[MX.eP,hi]
  ·unfold kR at h
   split at h
   ·cases h;exact⟨hp.place,hp.plus,hp.name⟩
   ·cases h
 by_cases h7:op=7
 ·subst h7
  refine qv.quiet (o:=jG cx t s r) (by simp[eQ]) ?_ fun y h=>?_
  ·unfold jG
   have e2:MX.eP t s 7 cx r=(uleb r).bind fun x=>(segmentAt t cx).map fun a=>([],{s with place:=(a+x.1)%W64,placed:=true},x.2):=by simp[MX.eP]
   rw[e2]
   cases uleb r with
   |none=>rfl
   |some x =>
    show(segmentAt t cx).map _=((segmentAt t cx).map _).map _
    rw[Option.map_map]
    rfl
  ·have h1:=RP h
   unfold jG at h
   obtain⟨x,hx,h⟩:=oBb h
   obtain⟨p,hp',rfl⟩:=oMm h
   exact⟨h1,hp.plus,hp.name⟩
 by_cases Yu:op=11
 ·subst Yu
  have e1:eQ t 11 cx s ws r=(Hs 1 (8*cx) t s ws).map fun y=>(y.1,y.2,r):=by simp[eQ]
  have e2:MX.eP t s 11 cx r=MX.RK t s 1 (8*cx) r:=by simp[MX.eP]
  rw[e1,e2]
  exact Fg T hp _ _ _ _
 by_cases hi:cx≠0
 ·have e1:eQ t op cx s ws r=none:=by
   unfold eQ
   rw[IN (by lia)]
  have e2:MX.eP t s op cx r=none:=by simp[MX.eP,hi,h1,h5,h7,Yu]
  rw[e1,e2]
  exact qv.none
 have hi:cx=0:=by lia
 subst hi
 by_cases h2:op=2
 ·subst h2
  exact qv.quiet (o:=(uleb r).map fun x=>(({s with library:=x.1}:Now),x.2)) (by simp[eQ];rfl) (by simp[MX.eP];rfl) fun y h=>by
   obtain⟨x,hx,rfl⟩:=oMm h
   exact⟨hp.place,hp.plus,hp.name⟩
 by_cases h4:op=4
 ·subst h4
  refine qv.quiet (o:=rj s r) (by simp[eQ]) ?_ fun y h=>?_
  ·have e2:MX.eP t s 4 0 r=(textIn r).bind fun x=>if x.1.isEmpty=true then none else some ([],{s with name:=some x.1},x.2):=by simp[MX.eP]
   rw[e2]
   unfold rj
   cases textIn r with
   |none=>rfl
   |some x =>
    show(if x.1.isEmpty=true then none else _)=map _ (if x.1.isEmpty=true then none else _)
    by_cases hx:x.1.isEmpty=true
    ·rw[iPp hx,iPp hx];rfl
    ·rw[IN hx,IN hx];rfl
  ·unfold rj at h
   obtain⟨x,hx,h⟩:=oBb h
   by_cases NU:x.1.isEmpty=true
   ·rw[iPp NU]at h;cases h
   ·rw[IN NU]at h
    cases h
    refine⟨hp.place,hp.plus,fun nm e=>?_⟩
    cases e
    exact⟨fun z=>NU (by rw[z];rfl),MX.Hh hx⟩
 by_cases h6:op=6
 ·subst h6
  exact qv.quiet (o:=(sleb r).map fun x=>(({s with plus:=x.1}:Now),x.2)) (by simp[eQ];rfl) (by simp[MX.eP];rfl) fun y h=>by
   obtain⟨x,hx,rfl⟩:=oMm h
   exact⟨hp.place,YJ hx,hp.name⟩
 by_cases h8:op=8
 ·subst h8
  refine qv.quiet (o:=(uleb r).map fun x=>(({s with place:=(s.place+x.1)%W64}:Now),x.2)) ?_ (by simp[MX.eP];rfl) fun y h=>?_
  ·have e1:eQ t 8 0 s ws r=(uleb r).bind fun x=>(N9 x.1 t s x.2).map fun y=>(y.1,ws,y.2):=by simp[eQ]
   rw[e1]
   cases uleb r with
   |none=>rfl
   |some x=>rfl
  ·obtain⟨x,hx,rfl⟩:=oMm h
   exact⟨Mg,hp.plus,hp.name⟩
 by_cases h9:op=9
 ·subst h9
  have e1:eQ t 9 0 s ws r=(Hs 1 0 t s ws).map fun y=>(y.1,y.2,r):=by simp[eQ]
  have e2:MX.eP t s 9 0 r=MX.RK t s 1 0 r:=by simp[MX.eP]
  rw[e1,e2]
  exact Fg T hp _ _ _ _
 by_cases VC:op=10
 ·subst VC
  have e1:eQ t 10 0 s ws r=(uleb r).bind fun x=>(Hs 1 x.1 t s ws).map fun y=>(y.1,y.2,x.2):=by simp[eQ]
  have e2:MX.eP t s 10 0 r=(uleb r).bind fun x=>MX.RK t s 1 x.1 x.2:=by simp[MX.eP]
  rw[e1,e2]
  exact qv.bind fun x _=>Fg T hp _ _ _ _
 by_cases ZQ:op=12
 ·subst ZQ
  have e1:eQ t 12 0 s ws r=(uleb r).bind fun x=>(uleb x.2).bind fun y=>(Hs x.1 y.1 t s ws).map fun z=>(z.1,z.2,y.2):=by
   have e0:eQ t 12 0 s ws r=((uleb r).bind fun x=>(uleb x.2).bind fun y=>(Hs x.1 y.1 t s ws).map fun z=>(z,y.2)).map fun z=>(z.1.1,z.1.2,z.2):=by
    unfold eQ
    rw[iPp (.inl rfl),IN (by decide),IN (by decide),IN (by decide),IN (by decide),IN (by decide),IN (by decide),IN (by decide),IN (by decide),IN (by decide),IN (by decide),iPp rfl]
   rw[e0]
   cases uleb r with
   |none=>rfl
   |some x =>
    show((uleb x.2).bind _).map _=(uleb x.2).bind _
    cases uleb x.2 with
    |none=>rfl
    |some y =>
     show((Hs x.1 y.1 t s ws).map _).map _=_
     rw[Option.map_map]
     rfl
  have e2:MX.eP t s 12 0 r=(uleb r).bind fun x=>(uleb x.2).bind fun y=>MX.RK t s x.1 y.1 y.2:=by simp[MX.eP]
  rw[e1,e2]
  exact qv.bind fun x _=>qv.bind fun y _=>Fg T hp _ _ _ _
 have e1:eQ t op 0 s ws r=none:=by simp[eQ,h1,h2,h4,h5,h6,h7,h8,h9,VC,Yu,ZQ]
 have e2:MX.eP t s op 0 r=none:=by simp[MX.eP,h1,h2,h4,h5,h6,h7,h8,h9,VC,Yu,ZQ]
 rw[e1,e2]
 exact qv.none
theorem Tz {t:Told} (T:MX.wJ t) (part:Bytes) (d:Nat) (hd:d=part.length) :
 (∀ws,wg t part=some ws→binds t (d+1) {} part=some (ws.flatMap eY)∧∀u∈ws,Tu t u)∧(wg t part=none→∀ms,binds t (d+1) {} part=some ms→distant (ms.map fun x=>x.word)=false):=by
 subst hd
 have A:acg (MX.eP t) (MX.lZ t):=⟨MX.L7 t,MX.Jj t,fun s c r=>MX.Jk t s c r⟩
 have W:=Hz A (Tw T) (fun op cx s xs r y h=>Ki op cx s xs r y h) (part.length+1) {} [] part ⟨Ff,Ff,(fun nm h=>nomatch h)⟩ (lt_succ_self _)
 unfold wg
 refine⟨fun ws h=>?_,fun h ms e=>?_⟩
 ·obtain⟨y,hy,rfl⟩:=oMm h
  obtain⟨l,e1,e2,e3⟩:=W.1 y hy
  have e1:y.2=l:=by rw[e1];rfl
  rw[e1]
  exact⟨e2,e3⟩
 ·rw[map_eq_none_iff]at h
  exact W.2 h ms e
end MI
namespace PySem
open Sem (wp)
section
variable {prog:Program} {w:World} {A:Around} {E:Value→Shared→Prop} {s:Shared}
theorem Qz {R:Result→Shared→Prop} {S:Addr} {res:Value} {h:Heap} {tk c₁:Nat} {a c:Int} {I:Addr} (hh:A.handled=none) (hI:S≠I) (hit:IsLongIter h I a 0 c) (hS:h.get? S=some {cls:=.type "list",data:=.seq #[] c₁})
 (hR:∀h' tk' c',(∀b o,b≠S→b≠I→h.get? b=some o→h'.get? b=some o)→h'.get? S=some {cls:=.type "list",dict:=none,data:=.seq #[] c',slots:=#[]}→R (.ok (.ret res)) {s with heap:=h',toks:=tk'}) :
 codeAny (model prog w) A (.builtin "list.extend.loop" ⟨[.ref S,.ref I,res],[]⟩) R {s with heap:=h,toks:=tk}:=by
 have W:=(Walks.longrange (prog:=prog) (w:=w) (A:=A.in1) hh I a c 0).toS
 refine codeAny_extend_loopS W (by decide) S (fun z=>hI (mem_singleton.mp z)) res 0 0 _ #[] c₁ rfl (le_refl _) (by simpa using hit) hS (ItemsOf.nil _) fun s' Ys c' hm Z6 ain=>?_
 rw[Moved.eq_with hm]
 have e:Ys=#[]:=Array.size_eq_zero_iff.mp ain.1
 subst e
 exact hR s'.heap s'.toks c' (fun b o h1 h2 q=>hm.heap b o (fun z=>(mem_cons.mp z).elim h1 fun z=>h2 (mem_singleton.mp z)) q) Z6
theorem QA {Q:Value→Shared→Prop} {r:Addr} {a b c:Int} {t u v:Tok} (hh:A.handled=none) (hr:IsRange s.heap r a b c t u v) (abW:Builtin.Range.small a b c=false) (hn:Builtin.Range.rangeSize a b c=0)
 (hQ:∀h' tk c',(∀b o,s.heap.get? b=some o→h'.get? b=some o)→h'.get? s.heap.objs.size=some {cls:=.type "list",dict:=none,data:=.seq #[] c',slots:=#[]}→Q (.ref s.heap.objs.size) {s with heap:=h',toks:=tk}) :
 wpAny (model prog w) A (call (.type "list") [.ref r]) Q E s:=by
 refine callType_codes (Q₁:=fun obj s₁=>obj = .ref s.heap.objs.size∧s₁ = {s with heap:=s.heap.push {cls:=.type "list",data:=.seq #[]}}) F.called_list (F.typeCall_list_1 _) F.entry_list_init (code_list_new _ ⟨rfl,rfl⟩) fun obj s₁ h₁=>?_
 obtain⟨rfl,rfl⟩:=h₁
 have hS:(s.heap.push {cls:=.type "list",data:=.seq #[]}).get? s.heap.objs.size=some {cls:=.type "list",data:=.seq #[]}:=Heap.get?_push_size _ rfl
 refine⟨⟨_,hS,rfl⟩,F.args_list_init_2 _ _,?_⟩
 have nr:s.heap.objs.size≠r:=Ne.symm (ne_of_lt (Heap.lt_size hr))
 show wpAny _ _ (do let old ←Builtin.List.listItems (.ref s.heap.objs.size);Builtin.List.listUpdate (.ref s.heap.objs.size) (fun _=>#[]);letGo old.toList.reverse;Builtin.List.listExtendWith (.ref s.heap.objs.size) (.ref r) .none) _ _ _
 refine wpAny_bind ?_
 unfold Builtin.List.listItems
 refine wpAny_bind (wpAny_seqItems hS rfl (wpAny_pure ?_))
 show wpAny _ _ (updateSeq s.heap.objs.size (fun _=>#[]) >>= fun _=>letGo (#[]:Array Value).toList.reverse >>= fun _=>Builtin.List.listExtendWith (.ref s.heap.objs.size) (.ref r) .none) _ _ _
 refine wpAny_bind (wpAny_updateSeq hS rfl (wpAny_bind (wpAny_letGo ?_)))
 have hS2:=Heap.get?_update_self (Obj.mapSeq (fun _=>(#[]:Array Value))) hS rfl
 have old:∀b o,s.heap.get? b=some o→((s.heap.push {cls:=.type "list",data:=.seq #[]}).update s.heap.objs.size (Obj.mapSeq (fun _=>(#[]:Array Value)))).get? b=some o:=fun b o e=>(Heap.get?_update_other _ _ (Ne.symm (ne_of_lt (Heap.lt_size e)))).trans (Heap.get?_push_of_some _ e)
 generalize (s.heap.push {cls:=.type "list",data:=.seq #[]}).update s.heap.objs.size (Obj.mapSeq (fun _=>(#[]:Array Value)))=h2 at *
 unfold Builtin.List.listExtendWith
 have hr2:=old r _ hr
 refine wpAny_bind (wpAny_typeOf (T := "range") ⟨_,hr2,rfl⟩ ?_)
 have h1:Builtin.List.listSameRef (.ref s.heap.objs.size) (.ref r)=false:=by simp[Builtin.List.listSameRef,nr]
 have g2:(Value.type "range" == Value.type "list")=false:=by decide
 have g3:(Value.type "range" == Value.type "tuple")=false:=by decide
 simp only[h1,g2,g3,Bool.or_false,false_eq_true,if_false]
 refine wpAny_bind (wpAny_pyIter_longrange hr2 abW ?_)
 refine wpAny_bind (wpAny_holding (wpAny_hint_range (n:=0) (Heap.get?_push_of_some _ hr2) (by rw[hn];rfl) (by decide) ?_))
 refine wpAny_ite_split (fun z=>absurd z (by decide)) (fun _=>wpAny_pure ⟨plainId_quiet F.plain_extend_loop _,?_⟩)
 have oU:s.heap.objs.size<h2.objs.size:=Heap.lt_size hS2
 refine Qz (s:=s) hh (ne_of_lt oU) (a:=a) (c:=c) (by rw[←hn];exact Heap.get?_push_size _ rfl) (Heap.get?_push_of_some _ hS2) fun h' tk' c' k e=>?_
 refine⟨rfl,hQ h' tk' c' (fun b o q=>k b o (ne_of_lt (Heap.lt_size q)) (ne_of_lt (lt_trans (Heap.lt_size q) oU)) (Heap.get?_push_of_some _ (old b o q))) e⟩
end
end PySem
namespace L2
open PySem PySem.Spec PyProof.Rows
section
variable {X:Cx}
theorem Jo (hc:X.calm=true):oV X (.type "list") (fun xs H Q=>∃(r:Addr) (i j c:Int) (n:Nat),xs=[.ref r]∧H r=some (RgO i j c r)∧(Builtin.Range.small i j c=true∨n=0)∧Builtin.Range.rangeSize i j c=n∧n≤2^24 ∧
 ∀l,H l=none→Q (.ref l) (upd H l (.lst (((range n).map fun(k:Nat)=>i+(k:Int)*c).map V.int)))):=by
 intro pp s σ H xs us Q I r h
 obtain⟨ra,i,j,c,n,rfl,hr,hs,hn,hz,q⟩:=h
 cases hsm:Builtin.Range.small i j c with
 |true=>exact L4 hc pp s σ H _ us Q I r ⟨ra,i,j,c,n,rfl,hr,hsm,hn,hz,q⟩
 |false =>
  have n0:n=0:=hs.elim (fun z=>by rw[hsm]at z;cases z) id
  subst n0
  rw[Vals.Xp r]
  obtain⟨⟨t,u,v,hx⟩,_⟩:=I.cG ra _ hr
  refine QA (I.ok.hd hc) hx hsm hn fun h' tk c' hk e=>?_
  exact⟨.ref s.heap.objs.size,_,I.laid (t':=tk) hk (le_refl _) (show eZ X.prog X.w _ h' _ (.lst _) from ⟨zero_le _,[],c',.nil,e⟩),rfl,q _ (I.cG.fresh (le_refl _))⟩
end
end L2
namespace MI
open PySem L2 Rc31
theorem xA.pl {t:Told} (T:MX.wJ t) {r:Rn} (k:xA t r) {i:Nat} (hi:i<r.n):(MX.bR r.p r.skip i:Int)=(r.p:Int)+MX.aD r.n r.skip*(i:Int)∧MX.bR r.p r.skip i+8≤4194304:=⟨MX.pL T k.p k.row i hi,T.LX (k.row i hi)⟩
theorem xA.str {t:Told} (T:MX.wJ t) {r:Rn} (k:xA t r):-4194304<MX.aD r.n r.skip∧MX.aD r.n r.skip<4194304:=by
 by_cases h:r.n<2
 ·unfold MX.aD
  rw[iPp h]
  decide
 ·have h0:=k.pl T (i:=0) (by lia)
  have h1:=k.pl T (i:=1) (by lia)
  have e0:MX.aD r.n r.skip*((0:Nat):Int)=0:=by simp
  have e1:MX.aD r.n r.skip*((1:Nat):Int)=MX.aD r.n r.skip:=by simp
  rw[e0]at h0
  rw[e1]at h1
  lia
theorem Of (r:Rn):(wm r).length=r.n:=by
 unfold wm
 rw[length_map,length_range]
theorem YK {t:Told} (T:MX.wJ t) {r:Rn} (k:xA t r):((range r.n).map fun(i:Nat)=>(r.p:Int)+(i:Int)*MX.aD r.n r.skip).map V.int=nv (wm r):=by
 unfold nv wm
 rw[map_map,map_map]
 refine map_congr_left fun i hi=>?_
 have:=(k.pl T (mem_range.mp hi)).1
 show V.int _=V.int _
 rw[this,Int.mul_comm]
theorem ach (p s:Int) (n:Nat) (hs:s≠0):Builtin.Range.rangeSize p (p+s*(n:Int)) s=(n:Int):=by
 unfold Builtin.Range.rangeSize
 by_cases h:s>0
 ·rw[iPp h]
  by_cases hn:n=0
  ·subst hn
   rw[IN (by simp)]
   rfl
  ·have h1:0<s*(n:Int):=Int.mul_pos h (by lia)
   rw[iPp (by lia)]
   have e:p+s*(n:Int)-p-1=(s-1)+s*((n:Int)-1):=by
    rw[Int.mul_sub]
    lia
   rw[e,Int.add_mul_ediv_left _ _ (by lia),Int.ediv_eq_zero_of_lt (by lia) (by lia)]
   lia
 ·rw[IN h]
  by_cases hn:n=0
  ·subst hn
   rw[IN (by simp)]
   rfl
  ·have h1:0<(-s)*(n:Int):=Int.mul_pos (by lia) (by lia)
   rw[neg_mul]at h1
   rw[iPp (by lia)]
   have e:p-(p+s*(n:Int))-1=(-s-1)+(-s)*((n:Int)-1):=by
    rw[Int.mul_sub,neg_mul]
    lia
   rw[e,Int.add_mul_ediv_left _ _ (by lia),Int.ediv_eq_zero_of_lt (by lia) (by lia)]
   lia
section
variable {g:Gm} {a:Ad}
inductive Og (a:Ad) (vs:List V) (H:Hp) (Q:VK) (E:XK):Prop
 |mk (x:Addr) (t:Told) (r:Rn) (q0:vs=[.ref x]) (q1:pM a H x (r.p:Int) r.n (MX.aD r.n r.skip)) (q2:MX.wJ t) (q3:xA t r) (q4:∀l H',H' l=some (.lst (nv (wm r)))→H l=none→ax H H'→Q (.ref l) H'):Og a vs H Q E
theorem Jp (T:Tx g.K g.mg a):Pr g 2 a.yQ ["self"] (Og a):=by
 refine Pr.on T.Aq Ib fun b6 A outer s H vs Q E hr h=>?_
 obtain⟨x,t,r,rfl,⟨d,hx⟩,tok,YL,k⟩:=h
 refine⟨_,ag (aS (wA (Jo rfl) (by rfl) T.Pg PyProof.Rows.boot_list (aa (Tg rfl T.sk (aa (ar (pv 0) rfl) (aa (cN (pv 0) (iA T) T.dU T.fR au hr (by decide) (aa (ar (pv 0) rfl) ai)) (aa (ar (pv 0) rfl) ai)))) ai))),?_⟩
 have jj:=YL.str tok
 have hs8:=YL.s
 have hn:=YL.n
 generalize hS:MX.aD r.n r.skip=S at *
 refine⟨_,rfl,x,_,d,_,_,rfl,hx,T.dU,T.gD,vn,_,rfl,x,d,_,rfl,hx,gH,_,rfl,x,_,d,_,_,rfl,hx,T.dU,T.cK,gx,x,_,_,_,_,rfl,⟨d,hx⟩,⟨by lia,by lia⟩,_,rfl,x,_,d,_,_,rfl,hx,T.dU,T.dY,m8,_,_,_,rfl,(by lia),(by lia),fun rr hrr=>?_⟩
 have hsz:Builtin.Range.rangeSize (r.p:Int) ((r.p:Int)+S*(r.n:Int)) S=(r.n:Int):=ach _ _ _ (by lia)
 have anq:-4194304*65536≤S*(r.n:Int)∧S*(r.n:Int)≤4194304*65536:=by
  have h1:S*(r.n:Int)≤4194304*(r.n:Int):=Int.mul_le_mul_of_nonneg_right (by lia) (by lia)
  have h2:-4194304*(r.n:Int)≤S*(r.n:Int):=Int.mul_le_mul_of_nonneg_right (by lia) (by lia)
  lia
 refine⟨rr,_,_,_,r.n,rfl,af,?_,hsz,le_trans hn (by decide),fun l hl=>?_⟩
 ·by_cases RO:r.n=0
  ·exact .inr RO
  ·left
   have h0:=YL.pl tok (i:=0) (by lia)
   rw[hS,show S*((0:Nat):Int)=0 by simp]at h0
   have hp:(r.p:Int)<4194304:=by lia
   unfold Builtin.Range.small
   rw[hsz]
   unfold Builtin.Range.rangeFitsLong
   generalize hm:S*(r.n:Int)=m at *
   simp only[and_eq_true,decide_eq_true_eq,Bool.or_eq_true]
   refine⟨⟨⟨⟨⟨by lia,by lia⟩,by lia,by lia⟩,by lia,by lia⟩,by lia,by lia⟩,.inr ?_⟩
   split
   ·simp only[and_eq_true,decide_eq_true_eq]
    exact⟨by lia,by lia⟩
   ·simp only[and_eq_true,decide_eq_true_eq]
    exact⟨by lia,by lia⟩
 ·have e:=YK tok YL
  rw[hS]at e
  rw[e]
  exact k l _ af ((ax.upd hrr).free hl) ((ax.upd hrr).trans (ax.upd hl))
def outs (rs:List Rn):List Nat:=rs.flatMap wm
inductive HA (a:Ad) (vs:List V) (H:Hp) (Q:VK) (E:XK):Prop
 |mk (x:Addr) (ra:List Addr) (t:Told) (rs:List Rn) (q0:vs=[.ref x]) (q1:H x=some (.lst (ra.map V.ref))) (q2:Ma a H ra rs) (q3:MX.wJ t) (q4:(∀r∈rs,xA t r)) (q5:(outs rs).length≤sizeLine) (q6:∀l H',H' l=some (.lst (nv (outs rs)))→H l=none→ax H H'→Q (.ref l) H'):HA a vs H Q E
theorem TB (rs:List Rn) (r:Rn):outs (rs++[r])=outs rs++wm r:=by
 unfold outs
 rw[flatMap_append]
 simp
theorem TC (rs:List Rn) (k:Nat):(outs (rs.take k)).length≤(outs rs).length:=by
 conv=>rhs;rw[←take_append_drop k rs]
 unfold outs
 rw[flatMap_append,length_append]
 lia
theorem Mh (a b:List Nat):nv (a++b)=nv a++nv b:=map_append ..
theorem BK (T:Tx g.K g.mg a):Pr g 3 a.Cb ["runs"] (HA a):=by
 refine Pr.on T.Dt rR fun b6 A outer s H vs Q E hr h=>?_
 obtain⟨x,ra,t,rs,rfl,hx,pr,tok,YL,hz,k⟩:=h
 refine⟨_,ae (aI (i:=1) rR.nd rfl (Or.inl rfl) (cy ai))
  (ae (ma tX rfl (lA (pv 0)) (dJ (i:=2) rR.nd rfl (Or.inl rfl)) (ag (aR (uh F.plainAttrs_list F.slot_list_extend F.type_list_extend JK (pv 1) (aa (a7 (pv 2) (Jp T) T.dU T.AJ au hr (by decide)) ai)))))
  (ag (aS (pv 1)))),?_⟩
 refine⟨zero_le _,fun l hl=>?_⟩
 have s1:ax H (upd H l (.lst [])):=ax.upd hl
 refine⟨_,rfl,x,rfl,⟨_,bP.of (s1 _ _ hx)⟩,ug (K:=g.K) (a:=x) (xs:=ra.map V.ref) (fun i σ H2=>∃v2,σ=[some (.ref x),some (.ref l),v2]∧H2 l=some (.lst (nv (outs (rs.take i))))∧ax H H2) ⟨none,rfl,af,s1⟩ (fun i σ H2 _ ⟨_,_,_,q⟩=>bP.of (q _ _ hx)) ?_ ?_⟩
 ·rintro i y σ H2 hy ⟨v2,rfl,hL,sH⟩
  rw[getElem?_map]at hy
  obtain⟨y,Z4,rfl⟩:=oMm hy
  obtain⟨r,hr',⟨d,hy⟩⟩:=iB pr Z4
  have hrm:r∈rs:=mem_of_getElem? hr'
  have hy2:=sH _ _ hy
  refine⟨_,rfl,.inl ⟨rfl,_,bP.of hL⟩,_,rfl,y,d,_,rfl,hy2,Eu,y,t,r,rfl,⟨d,hy2⟩,tok,YL r hrm,fun p H3 hp np s3=>?_⟩
  have e:outs (rs.take (i+1))=outs (rs.take i)++wm r:=by rw[gN hr',TB]
  have hL3:=s3 _ _ hL
  refine⟨l,p,_,_,rfl,rfl,hL3,hp,?_,?_⟩
  ·have:=TC rs (i+1)
   rw[e,length_append]at this
   rw[ly,ly]
   lia
  ·refine⟨_,rfl,?_,wj (sH.trans s3) hl⟩
   rw[af,←Mh,←e]
 ·rintro σ H2 ⟨v2,rfl,hL,sH⟩
  rw[length_map,Paired.length pr,take_length]at hL
  exact⟨_,rfl,k l H2 hL hl sH⟩
end
end MI
namespace L2
open PySem PySem.Spec PyProof.Rows
section
variable {X:Cx} {a:Expr} {ta:TE} {pos:Pos}
theorem YM (ha:PE X a ta):PE X (.UnaryOp .Not a pos) (fun σ H Q=>ta σ H fun x H'=>∃k,Xa X.K x H' k∧Q (.bl (!k)) H'):=by
 intro pp s σ H Q I h
 refine UnaryOp_ (dq (ha pp s σ H _ I h) fun v s1 ⟨x,H1,I1,r1,k,tk,q1⟩=>?_)
 exact not_of (dq (Uo pp s1 σ H1 x v (fun k' H'=>Q (.bl (!k')) H') I1 r1 ⟨k,tk,q1⟩) fun b s2 ⟨H2,I2,q2⟩=>⟨.bl (!b),H2,I2,rfl,q2⟩)
theorem aci {K:PySem.W.Frag} {a b:Addr} {xs ys:List V} {g:TG} {tt:TT} {te:TE} {vs:List Nat} {σ:St} {H1:Hp} {D:Addr} {Qd:Hp→Prop} (Pv:Nat→Hp→Prop) (h0:Pv 0 (upd H1 D (.lst []))) (hl:∀i H,i≤min xs.length ys.length→Pv i H→bP K H a xs∧bP K H b ys)
 (hs:∀i x y T H,xs[i]?=some x→ys[i]?=some y→Pv i H→H T=none→g (.ref T) (wipe σ vs) (upd H T (.tup [x,y])) fun σ2 H2=>wipe σ2 vs=wipe σ vs∧tt σ2 H2 fun b H3 =>
  if b=true then te σ2 H3 fun y H4=>∃acc,H4 D=some (.lst acc)∧acc.length<sizeLine∧Pv (i+1) (upd H4 D (.lst (acc++[y]))) else Pv (i+1) H3) (hd:∀H,Pv (min xs.length ys.length) H→Qd H) :
 ∃W:Nat→Nat→Hp→Prop,(∃m,W 0 m (upd H1 D (.lst [])))∧∀i m H,W i m H →
  ((Itz K a b).stop i H∧Qd H)∨((Itz K a b).go i H∧∃Nx:Hp→Prop,(∀H',Nx H'→∃m',m'<m∧W (i+1) m' H')∧∀x H',(Itz K a b).W7 i H x H'→g x (wipe σ vs) H' fun σ2 H2=>wipe σ2 vs=wipe σ vs∧tt σ2 H2 fun b H3 =>
   if b=true then te σ2 H3 fun y H4=>∃acc,H4 D=some (.lst acc)∧acc.length<sizeLine∧Nx (upd H4 D (.lst (acc++[y]))) else Nx H3):=by
 refine⟨fun i m H=>m=min xs.length ys.length-i∧i≤min xs.length ys.length∧Pv i H,⟨_,rfl,zero_le _,h0⟩,?_⟩
 rintro i m H ⟨rfl,hi,p⟩
 obtain⟨q1,q2⟩:=hl i H hi p
 by_cases oU:i<min xs.length ys.length
 ·have l1:i<xs.length:=by lia
  have l2:i<ys.length:=by lia
  refine .inr ⟨⟨xs,ys,xs[i],ys[i],q1,q2,by simp[l1],by simp[l2]⟩,Pv (i+1),fun H' p'=>⟨min xs.length ys.length-(i+1),by lia,rfl,oU,p'⟩,fun x H' y=>?_⟩
  obtain⟨T,u,v,rfl,hT,rfl,e1,e2⟩:=y
  exact hs i u v T H (e1 xs q1) (e2 ys q2) p hT
 ·have e:i=min xs.length ys.length:=by lia
  subst e
  exact .inl ⟨⟨xs,ys,q1,q2,by lia⟩,hd H p⟩
end
end L2
namespace MI
open PySem L2 Rc31
theorem V4 (xs:List V):zY xs (some (1:Int)) none=xs.tail:=by
 unfold zY
 have e:HT.HY xs.length 0 (some (1:Int))=min 1 xs.length:=HT.zX xs.length 0 1
 rw[e,HT.FD]
 cases xs with
 |nil=>rfl
 |cons x r =>
  rw[length_cons,min_eq_left (by lia)]
  show(r.take (r.length+1-1))=r
  rw[Nat.add_sub_cancel,take_length]
theorem YN (l:List Nat):(nv l).tail=nv l.tail:=by cases l<;>rfl
def tj (l:List (Nat×Nat)):List Nat:=(l.filter fun p=>decide (p.2<p.1+8)).map fun p=>p.2
theorem QB {l:List (Nat×Nat)}:tj l=[]↔∀x∈l,x.1+8≤x.2:=by
 unfold tj
 rw[List.map_eq_nil_iff,List.filter_eq_nil_iff]
 constructor
 ·intro h x hx
  have:=h x hx
  simp at this
  lia
 ·intro h x hx
  have:=h x hx
  simp
  lia
theorem Oh (l:List (Nat×Nat)) (p:Nat×Nat):tj (l++[p])=tj l++if p.2<p.1+8 then[p.2] else[]:=by
 unfold tj
 rw[filter_append,map_append]
 congr 1
 by_cases h:p.2<p.1+8
 ·rw[iPp h]
  simp[h]
 ·rw[IN h]
  simp[h]
theorem Oi:∀rs:List Rn,(rs.map fun r=>(r.n:Int)).sum=((outs rs).length:Int)
 | []=>rfl
 |r::rs=>by
  have ih:=Oi rs
  show(r.n:Int)+(rs.map fun r=>(r.n:Int)).sum=((wm r++outs rs).length:Int)
  rw[ih,length_append,Of]
  lia
theorem YO {ns:List Nat} {ks:List Int} (p:ks.Perm (ns.map fun(n:Nat)=>(n:Int))) (w:ks.Pairwise (·≤·)):∃ms:List Nat,ks=ms.map (fun(n:Nat)=>(n:Int))∧ms.Perm ns∧ms.Pairwise (·≤·):=by
 have e:ks=(ks.map Int.toNat).map fun(n:Nat)=>(n:Int):=by
  rw[map_map]
  conv=>lhs;rw[←map_id ks]
  refine map_congr_left fun x hx=>?_
  obtain⟨n,_,rfl⟩:=mem_map.mp (p.mem_iff.mp hx)
  rfl
 refine⟨ks.map Int.toNat,e,?_,?_⟩
 ·have h:=p.map Int.toNat
  rw[map_map]at h
  have e2:ns.map (Int.toNat∘fun(n:Nat)=>(n:Int))=ns:=by
   conv=>rhs;rw[←map_id ns]
   exact map_congr_left fun x _=>rfl
  rw[e2]at h
  exact h
 ·rw[List.pairwise_map]
  exact w.imp fun q=>by lia
section
variable {g:Gm} {a:Ad}
inductive Oj (a:Ad) (vs:List V) (H:Hp) (Q:VK) (E:XK):Prop
 |mk (x:Addr) (ra:List Addr) (t:Told) (rs:List Rn) (L:Nat) (q0:vs=[.ref x,.int (L:Int)]) (q1:H x=some (.lst (ra.map V.ref))) (q2:Ma a H ra rs) (q3:MX.wJ t) (q4:(∀r∈rs,xA t r)) (q5:(∀q∈outs rs,q+8≤L)) (q6:rs.length≤sizeLine) (q7:L≤4194304) (q8:(distant (outs rs)=false→∀H',ax H H'→E (.ref a.aE) none H')) (q9:(distant (outs rs)=true→∀H',ax H H'→Q .dh H')):Oj a vs H Q E
theorem HB (T:Tx g.K g.mg a):Pr g 4 a.uS ["runs","length"] (Oj a):=by
 refine Pr.on T.xI eB fun b6 A outer s H vs Q E hr h=>?_
 obtain⟨x,ra,t,rs,L,rfl,hx,pr,tok,YL,UP,hrs,hL,k0,k1⟩:=h
 refine⟨_,ae (az (aB T) au hr (by decide) T.aA (aH iO (aV (O1 rfl) (by rfl) T.Ro PyProof.Rows.boot_sum (aa (CK (te:=KJ g.K (zS 4) "count") J9 rfl eB.nd (lA (pv 0)) (nJ (N:=["runs","length","places","close","run","before","after"]) (sc:=ao jk) (own:=[("run",4)]) (by decide +kernel)) (fun _ _ _ _ _ _=>dJ (i:=4) eB.nd rfl (Or.inl rfl)) (fun _ _ _ _ _ _ _=>Aa) (fun _ _ _ _ _ _ pass=>ar (pv 4) rfl)) ai)) (aO KH (pv 1) (pk T.mr)) (aC _)))
  (ae (aI (i:=2) eB.nd rfl (Or.inl rfl) (aV L3 (by rfl) T.M4 PyProof.Rows.boot_sorted (aa (aU (BK T) au hr (by decide) T.u3 (aa (pv 0) ai)) ai)))
  (ae (UH (i:=3) (g:=adq g.K 2 (Ue (Jz 5) (Ue (Jz 6) adp))) (own:=[("before",5),("after",6)]) rfl eB.nd rfl rfl (Xt rfl rfl rfl (by decide +kernel)) (aa3 rfl T.Va (aa (pv 2) (aa (jL m4 (pv 2) (gY ak) E0) ai))) (nJ (N:=["runs","length","places","close","run","before","after"]) (sc:=ao jk) (own:=[("before",5),("after",6)]) (by decide +kernel)) (fun _ _ _ _ _=>by exact aau (n:=2) rfl (MB (by exact dJ (i:=5) eB.nd rfl (Or.inl rfl)) (MB (by exact dJ (i:=6) eB.nd rfl (Or.inl rfl)) W6))) (fun _ _ _ _ _=>Q6 (bH nH (aO gA (pv 6) (pv 5)) (pk T.mr) (aC _))) (fun _ _ _ _ _=>pv 6))
  (ag (az (aB T) au hr (by decide) T.aA (YM (pv 3)))))),?_⟩
 refine⟨_,rfl,x,rfl,⟨_,bP.of hx⟩,fun D hD=>?_⟩
 refine Ac (K:=g.K) (a:=x) (xs:=ra.map V.ref) (fun i H4=>H4 D=some (.lst (((rs.take i).map fun r=>(r.n:Int)).map V.int))∧ax H H4) ⟨af,ax.upd hD⟩ (fun i H4 _ ⟨_,s4⟩=>bP.of (s4 _ _ hx)) ?_ ?_
 ·rintro i y H4 hi ⟨RI,s4⟩
  obtain⟨y,hy,rfl⟩:=pJ hi
  obtain⟨r,hq,⟨d,hyy⟩⟩:=iB pr hy
  obtain⟨oU,_⟩:=List.getElem?_eq_some_iff.mp hq
  refine⟨rfl,RG ?_⟩
  refine⟨_,rfl,y,_,d,_,_,rfl,s4 _ _ hyy,T.dU,T.cK,gx,_,RI,?_,?_,?_⟩
  ·rw[length_map,length_map,length_take]
   lia
  ·rw[af,gN hq,map_append,map_append]
   rfl
  ·intro z o e
   rw[aj (aq e hD)]
   exact s4 _ _ e
 ·rintro H4 ⟨RI,s4⟩
  rw[length_map,bw pr,take_of_length_le (le_refl _)]at RI
  refine⟨D,_,rfl,bP.of RI,_,rfl,_,_,rfl,rfl,⟨(by decide:(0:Int)<8),(by decide:(8:Int)<1073741824)⟩,_,_,rfl,rfl,_,rfl,?_⟩
  rw[Oi]
  refine aw (fun c1=>?_) fun c1=>k0 ?_ _ s4
  ·have hlen:(outs rs).length≤524288:=by lia
   have hsz:sizeLine=16777216:=sizeLine_eq
   refine⟨_,rfl,x,ra,t,rs,rfl,s4 _ _ hx,Paired.ud pr fun _ _ q=>q.same s4,tok,YL,by lia,fun l H5 hl nl s5=>⟨l,(outs rs).map fun(n:Nat)=>(n:Int),rfl,bP.of (by rw[hl];unfold nv;rw[map_map];rfl),fun ES p perm pw hp=>?_⟩⟩
   obtain⟨ms,rfl,pm,pw⟩:=YO perm pw
   have sA:ax H H5:=s4.trans s5
   have emn:(ms.map fun(n:Nat)=>(n:Int)).map V.int=nv ms:=by unfold nv;rw[map_map];rfl
   rw[emn]
   have sB:ax H5 (upd H5 p (.lst (nv ms))):=ax.upd hp
   have T6:upd H5 p (.lst (nv ms)) p=some (.lst (nv ms)):=af
   generalize upd H5 p (.lst (nv ms))=H6 at *
   have sAB:=sA.trans sB
   refine⟨_,rfl,_,rfl,_,rfl,p,_,rfl,bP.of T6,fun p2 hp2=>?_⟩
   rw[V4,YN]
   have sC:ax H6 (upd H6 p2 (.lst (nv ms.tail))):=ax.upd hp2
   have hp7:=sC _ _ T6
   have ae8:upd H6 p2 (.lst (nv ms.tail)) p2=some (.lst (nv ms.tail)):=af
   generalize upd H6 p2 (.lst (nv ms.tail))=H7 at *
   have aiq:=sAB.trans sC
   have lms:ms.length≤524288:=by rw[pm.length_eq];exact hlen
   have lz:(ms.zip ms.tail).length=min (nv ms).length (nv ms.tail).length:=by rw[length_zip,ly,ly]
   refine⟨p,p2,_,_,rfl,bP.of hp7,bP.of ae8,fun D2 hD2=>aci (K:=g.K) (a:=p) (b:=p2) (xs:=nv ms) (ys:=nv ms.tail) (fun i H8=>H8 D2=some (.lst (nv (tj ((ms.zip ms.tail).take i))))∧ax H7 H8) ⟨af,ax.upd hD2⟩ (fun i H8 _ ⟨_,s8⟩=>⟨bP.of (s8 _ _ hp7),bP.of (s8 _ _ ae8)⟩) ?_ ?_⟩
   ·rintro i u v T8 H8 hu hv ⟨hd8,s8⟩ hT
    rw[VA]at hu hv
    obtain⟨m1,h1,rfl⟩:=oMm hu
    obtain⟨m2,h2,rfl⟩:=oMm hv
    have hz:(ms.zip ms.tail)[i]?=some (m1,m2):=by rw[List.getElem?_zip_eq_some];exact⟨h1,h2⟩
    obtain⟨oU,_⟩:=List.getElem?_eq_some_iff.mp hz
    have nDT:D2≠T8:=aq hd8 hT
    have hd9:upd H8 T8 (.tup [V.int (m1:Int),V.int (m2:Int)]) D2=some (.lst (nv (tj ((ms.zip ms.tail).take i)))):=by rw[aj nDT];exact hd8
    have s9:ax H7 (upd H8 T8 (.tup [V.int (m1:Int),V.int (m2:Int)])):=s8.trans (ax.upd hT)
    refine⟨T8,_,rfl,tV.of af,rfl,_,_,rfl,_,_,rfl,rfl,rfl,_,rfl,_,rfl,_,_,rfl,rfl,_,_,rfl,rfl,_,rfl,?_⟩
    have eS:=Oh ((ms.zip ms.tail).take i) (m1,m2)
    rw[←gN hz]at eS
    refine aw (fun c2=>?_) fun c2=>?_
    ·rw[iPp (by show m2<m1+8;lia)]at eS
     refine⟨_,rfl,_,hd9,?_,?_,?_⟩
     ·rw[ly]
      unfold tj
      rw[length_map]
      refine lt_of_le_of_lt (List.length_filter_le _ _) ?_
      rw[length_take]
      have:=length_zip (l₁:=ms) (l₂:=ms.tail)
      lia
     ·rw[af,eS,Mh]
      rfl
     ·intro z o e
      rw[aj (aq e hD2)]
      exact s9 _ _ e
    ·rw[IN (by show ¬m2<m1+8;lia),append_nil]at eS
     exact⟨by rw[eS];exact hd9,s9⟩
   ·rintro H8 ⟨hd8,s8⟩
    rw[←lz,take_length]at hd8
    have s8':=aiq.trans s8
    have Z7:=(MX.vW pm pw).trans (MX.yq.trans QB.symm)
    refine⟨_,rfl,_,.inl ⟨_,bP.of hd8,rfl⟩,_,rfl,?_⟩
    cases oN:tj (ms.zip ms.tail) with
    |nil=>exact iE (k1 (Z7.mpr oN) _ s8')
    |cons z zs =>
     refine eA (k0 ?_ _ s8')
     cases hd:distant (outs rs) with
     |false=>rfl
     |true =>
      have:=Z7.mp hd
      rw[oN]at this
      cases this
  ·cases hd:distant (outs rs) with
   |false=>rfl
   |true =>
    have:=MX.BB hd UP
    exact absurd (by lia) c1
end
end MI
namespace MX
open Rc31
theorem tm {b x:Bytes} {i:Nat} (h:i+x.length≤b.length):(put b i x).length=b.length:=by
 unfold put
 rw[length_append,length_append,length_take,length_drop]
 lia
theorem kC {b x:Bytes} {i:Nat} (h:i+x.length≤b.length) (k:Nat):(put b i x)[k]?=if k<i then b[k]? else if k<i+x.length then x[k-i]? else b[k]?:=by
 unfold put
 have h1:(b.take i).length=i:=by rw[length_take];lia
 by_cases hk:k<i
 ·rw[iPp hk,getElem?_append_left (by lia),getElem?_take,iPp hk]
 ·rw[IN hk,getElem?_append_right (by lia),h1]
  by_cases hk2:k<i+x.length
  ·rw[iPp hk2,getElem?_append_left (by lia)]
  ·rw[IN hk2,getElem?_append_right (by lia),getElem?_drop]
   congr 1
   lia
theorem kD (n x:Nat):(le n x).length=n:=by
 unfold le
 rw[length_map,length_range]
def Jq (l:Bytes):Nat:=l.foldr (fun c x=>c.toNat+256*x) 0
theorem Mi (b:Bytes) (i n:Nat):num b i n=Jq ((b.drop i).take n):=rfl
theorem YQ {a b:Bytes} {i n:Nat} (h:∀k,i≤k→k<i+n→a[k]?=b[k]?):(a.drop i).take n=(b.drop i).take n:=by
 refine ext_getElem? fun k=>?_
 rw[getElem?_take,getElem?_take,getElem?_drop,getElem?_drop]
 by_cases hk:k<n
 ·rw[iPp hk,iPp hk,h (i+k) (by lia) (by lia)]
 ·rw[IN hk,IN hk]
theorem Mj {a b:Bytes} {i n:Nat} (h:∀k,i≤k→k<i+n→a[k]?=b[k]?):num a i n=num b i n:=by
 rw[Mi,Mi,YQ h]
theorem RQ:∀l:Bytes,Jq l<256^l.length
 | []=>by decide
 |c::l=>by
  have ih:=RQ l
  have hc:=c.toNat_lt
  show c.toNat+256*Jq l<256^(l.length+1)
  rw[pow_succ]
  lia
theorem le_succ (n x:Nat):le (n+1) x=ofNat (x%256)::le n (x/256):=by
 unfold le
 rw[range_succ_eq_map,map_cons,map_map]
 congr 1
 ·rw[pow_zero,Nat.div_one]
 ·refine map_congr_left fun i _=>?_
  show ofNat (x/256^(i+1)%256)=ofNat (x/256/256^i%256)
  rw[pow_succ,mul_comm,←Nat.div_div_eq_div_mul]
theorem QC (n:Nat):(ofNat (n%256)).toNat=n%256:=by
 rw[UInt8.toNat_ofNat']
 exact mod_eq_of_lt (mod_lt _ (by decide))
theorem RR:∀(n x:Nat),Jq (le n x)=x%256^n
 |0,x=>by
  show 0=x%256^0
  rw[pow_zero,Nat.mod_one]
 |n+1,x=>by
  rw[le_succ]
  show(ofNat (x%256)).toNat+256*Jq (le n (x/256))=x%256^(n+1)
  rw[QC,RR n,pow_succ,mul_comm (256^n) 256,Nat.mod_mul]
theorem RS:∀l:Bytes,le l.length (Jq l)=l
 | []=>rfl
 |c::l=>by
  have hc:=c.toNat_lt
  have ih:=RS l
  show le (l.length+1) (c.toNat+256*Jq l)=c::l
  rw[le_succ]
  have e1:(c.toNat+256*Jq l)%256=c.toNat:=by lia
  have e2:(c.toNat+256*Jq l)/256=Jq l:=by lia
  rw[e1,e2,ih]
  congr 1
  exact UInt8.ofNat_toNat
theorem YR {b x:Bytes} {i:Nat} (h:i+x.length≤b.length):((put b i x).drop i).take x.length=x:=by
 refine ext_getElem? fun k=>?_
 rw[getElem?_take,getElem?_drop,kC h]
 by_cases hk:k<x.length
 ·rw[iPp hk,IN (by lia),iPp (by lia)]
  congr 1
  lia
 ·rw[IN hk,getElem?_eq_none (by lia)]
theorem YS {b:Bytes} {i x:Nat} (h:i+8≤b.length) (hx:x<W64):num (put b i (le 8 x)) i 8=x:=by
 rw[Mi]
 have:=YR (b:=b) (x:=le 8 x) (i:=i) (by rw[kD];exact h)
 rw[kD]at this
 rw[this,RR]
 exact mod_eq_of_lt (by rw[gX]at hx;exact hx)
theorem acj {b:Bytes} {i:Nat} (h:i+8≤b.length):le 8 (num b i 8)=(b.drop i).take 8:=by
 have e:((b.drop i).take 8).length=8:=by rw[length_take,length_drop];lia
 have:=RS ((b.drop i).take 8)
 rw[e]at this
 exact this
theorem ack {b:Bytes} {i:Nat}:num b i 8<W64:=by
 have h:=RQ ((b.drop i).take 8)
 rw[Mi,gX]
 have h2:((b.drop i).take 8).length≤8:=by rw[length_take];exact Nat.min_le_left _ _
 exact lt_of_lt_of_le h (le_trans (Nat.pow_le_pow_right (by decide) h2) (by decide))
def wordOf (l:List Nat) (k:Nat):Option Nat:=l.find? fun i=>decide (i≤k∧k<i+8)
def YT (m:Bytes) (d:Nat) (l:List Nat) (k:Nat):Option UInt8:=match wordOf l k with
 |none=>m[k]?
 |some i=>(le 8 ((num m i 8+d)%W64))[k-i]?
theorem fM:∀(l:List Nat) (m:Bytes) (d:Nat),distant l=true→(∀i∈l,i+8≤m.length)→(mended m d l).length=m.length∧∀k,(mended m d l)[k]?=YT m d l k
 | [],m,d,_,_=>⟨rfl,fun _=>rfl⟩
 |i::l,m,d,hd,hl=>by
  have Ua:=(dv _).mp hd
  obtain⟨p1,p2⟩:=pairwise_cons.mp Ua
  have hi:=hl i (mem_cons_self ..)
  have hp:i+(le 8 ((num m i 8+d)%W64)).length≤m.length:=by rw[kD];exact hi
  have hlen:=tm hp
  obtain⟨g1,g2⟩:=fM l (put m i (le 8 ((num m i 8+d)%W64))) d ((dv _).mpr p2) (fun j hj=>by rw[hlen];exact hl j (mem_cons_of_mem _ hj))
  have e:mended m d (i::l)=mended (put m i (le 8 ((num m i 8+d)%W64))) d l:=rfl
  refine⟨by rw[e,g1,hlen],fun k=>?_⟩
  rw[e,g2]
  unfold YT wordOf
  rw[find?_cons]
  by_cases hk:i≤k∧k<i+8
  ·rw[decide_eq_true hk]
   have hn:l.find? (fun j=>decide (j≤k∧k<j+8))=none:=by
    rw[List.find?_eq_none]
    intro j hj
    have:=p1 j hj
    simp
    lia
   rw[hn]
   show(put m i _)[k]?=_
   rw[kC hp,IN (by lia),iPp (by rw[kD];lia)]
  ·rw[decide_eq_false hk]
   cases hf:l.find? (fun j=>decide (j≤k∧k<j+8)) with
   |none =>
    show(put m i _)[k]?=m[k]?
    rw[kC hp,kD]
    by_cases h1:k<i
    ·rw[iPp h1]
    ·rw[IN h1,IN (by lia)]
   |some j =>
    have hj:=mem_of_find?_eq_some hf
    have hap:=p1 j hj
    show(le 8 ((num (put m i _) j 8+d)%W64))[k-j]?=(le 8 ((num m j 8+d)%W64))[k-j]?
    rw[Mj (a:=put m i _) (b:=m) (i:=j) (n:=8) fun q h1 h2=>by
     rw[kC hp,kD]
     by_cases h3:q<i
     ·rw[iPp h3]
     ·rw[IN h3,IN (by lia)]]
theorem Km {l:List Nat} (hd:distant l=true) {i:Nat} (hi:i∈l) {k:Nat} (h1:i≤k) (h2:k<i+8):wordOf l k=some i:=by
 unfold wordOf
 cases hf:l.find? (fun j=>decide (j≤k∧k<j+8)) with
 |none =>
  rw[List.find?_eq_none]at hf
  exact absurd (by simp;lia) (hf i hi)
 |some j =>
  have hj:=mem_of_find?_eq_some hf
  have hc:=find?_some hf
  simp only[decide_eq_true_eq]at hc
  congr 1
  have hp:=(dv l).mp hd
  by_cases e:j=i
  ·exact e
  ·obtain⟨x,y⟩:(j+8≤i∨i+8≤j)∧True:=by
    refine⟨?_,trivial⟩
    obtain⟨a,ha,rfl⟩:=List.getElem_of_mem hj
    obtain⟨b,hb,rfl⟩:=List.getElem_of_mem hi
    have hpw:=List.pairwise_iff_getElem.mp hp
    rcases Nat.lt_trichotomy a b with z|z|z
    ·exact hpw a b ha hb z
    ·subst z
     exact absurd rfl e
    ·have:=hpw b a hb ha z
     lia
   lia
theorem QD {l:List Nat} {m:Bytes} {d:Nat} (hd:distant l=true) (hl:∀i∈l,i+8≤m.length) {i:Nat} (hi:i∈l):num (mended m d l) i 8=(num m i 8+d)%W64:=by
 obtain⟨g1,g2⟩:=fM l m d hd hl
 have hp:i+(le 8 ((num m i 8+d)%W64)).length≤m.length:=by rw[kD];exact hl i hi
 rw[Mj (a:=mended m d l) (b:=put m i (le 8 ((num m i 8+d)%W64))) fun k h1 h2=>by
  rw[g2,kC hp,kD,IN (by lia),iPp (by lia)]
  unfold YT
  rw[Km hd hi h1 h2]]
 exact YS (hl i hi) (mod_lt _ (by rw[gX];decide))
theorem Ml {l:List Nat} {m:Bytes} {d e f:Nat} (hd:distant l=true) (hl:∀i∈l,i+8≤m.length) (hf:(d+e)%W64=f%W64):mended (mended m d l) e l=mended m f l:=by
 obtain⟨g1,g2⟩:=fM l m d hd hl
 obtain⟨g3,g4⟩:=fM l (mended m d l) e hd (fun i hi=>by rw[g1];exact hl i hi)
 obtain⟨g5,g6⟩:=fM l m f hd hl
 refine ext_getElem? fun k=>?_
 rw[g4,g6]
 unfold YT
 cases hw:wordOf l k with
 |none =>
  show(mended m d l)[k]?=m[k]?
  rw[g2]
  unfold YT
  rw[hw]
 |some i =>
  show(le 8 ((num (mended m d l) i 8+e)%W64))[k-i]?=(le 8 ((num m i 8+f)%W64))[k-i]?
  have hi:i∈l:=mem_of_find?_eq_some hw
  rw[QD hd hl hi]
  congr 2
  rw[gX]at *
  lia
theorem Ol {l:List Nat} {m:Bytes} {d:Nat} (hd:distant l=true) (hl:∀i∈l,i+8≤m.length) (h0:d%W64=0):mended m d l=m:=by
 obtain⟨g1,g2⟩:=fM l m d hd hl
 refine ext_getElem? fun k=>?_
 rw[g2]
 unfold YT
 cases hw:wordOf l k with
 |none=>rfl
 |some i =>
  show(le 8 ((num m i 8+d)%W64))[k-i]?=m[k]?
  have hi:i∈l:=mem_of_find?_eq_some hw
  have hc:=find?_some hw
  simp only[decide_eq_true_eq]at hc
  have e:(num m i 8+d)%W64=num m i 8:=by
   have:=ack (b:=m) (i:=i)
   rw[gX]at *
   lia
  rw[e,acj (hl i hi),getElem?_take,iPp (by lia),getElem?_drop]
  congr 1
  lia
theorem QE {l:List Nat} {m:Bytes} {d p x:Nat} (hd:distant l=true) (hl:∀i∈l,i+8≤m.length) (hp:p+8≤m.length) (ha:∀i∈l,p+8≤i∨i+8≤p):mended (put m p (le 8 x)) d l=put (mended m d l) p (le 8 x):=by
 have hp':p+(le 8 x).length≤m.length:=by rw[kD];exact hp
 obtain⟨g1,g2⟩:=fM l m d hd hl
 obtain⟨g3,g4⟩:=fM l (put m p (le 8 x)) d hd (fun i hi=>by rw[tm hp'];exact hl i hi)
 refine ext_getElem? fun k=>?_
 rw[g4,kC (by rw[g1];exact hp'),kD,g2]
 unfold YT
 cases hw:wordOf l k with
 |none =>
  show(put m p (le 8 x))[k]?=_
  rw[kC hp',kD]
 |some i =>
  have hi:i∈l:=mem_of_find?_eq_some hw
  have hc:=find?_some hw
  simp only[decide_eq_true_eq]at hc
  have hap:=ha i hi
  show(le 8 ((num (put m p (le 8 x)) i 8+d)%W64))[k-i]?=_
  rw[Mj (a:=put m p (le 8 x)) (b:=m) (i:=i) (n:=8) fun q h1 h2=>by
   rw[kC hp',kD]
   by_cases h3:q<p
   ·rw[iPp h3]
   ·rw[IN h3,IN (by lia)]]
  by_cases h1:k<p
  ·rw[iPp h1]
  ·rw[IN h1,IN (by lia)]
end MX
namespace MI
open PySem L2 Rc31
def Mm (b:List UInt8) (t:Told) (i:Nat):List UInt8:=(t.laid.take i).foldl (fun m s=>Rc31.put m (s.at_-t.base) ((b.drop s.file).take s.raw)) (replicate t.size 0)
theorem V5 {m b:List UInt8} {o f j:Nat} {c:UInt8} (hc:b[f+j]?=some c) (ho:o+j<m.length):bv (Rc31.put m o ((b.drop f).take (j+1)))=(bv (Rc31.put m o ((b.drop f).take j))).set (o+j) (V.int (c.toNat:Int)):=by
 have hl:f+j<b.length:=(List.getElem?_eq_some_iff.mp hc).1
 have l1:((b.drop f).take (j+1)).length=j+1:=by rw[length_take,length_drop];lia
 have l0:((b.drop f).take j).length=j:=by rw[length_take,length_drop];lia
 refine ext_getElem? fun k=>?_
 rw[zA,List.getElem?_set,zA,bt,MX.tm (by rw[l0];lia),MX.kC (by rw[l1];lia),MX.kC (by rw[l0];lia),l0,l1]
 by_cases hk:o+j=k
 ·subst hk
  rw[iPp rfl,iPp ho,IN (by lia),iPp (by lia),Nat.add_sub_cancel_left,getElem?_take,iPp (by lia),getElem?_drop,hc]
  rfl
 ·rw[IN hk]
  by_cases h1:k<o
  ·rw[iPp h1,iPp h1]
  ·rw[IN h1,IN h1]
   by_cases h2:k<o+j
   ·rw[iPp (by lia),iPp h2,getElem?_take,getElem?_take,iPp (by lia),iPp (by lia)]
   ·rw[IN (by lia),IN h2]
theorem V6 (m:List UInt8) (o:Nat):Rc31.put m o []=m:=by
 unfold Rc31.put
 exact take_append_drop o m
theorem Mn {t:Told} (T:MX.wJ t) {s:Segment} (hs:s∈t.laid):s.at_+s.size≤t.base+t.size:=by
 have h1:=MX.LZ (s:=s) T.rise hs
 have h2:=T.lo s hs
 have e:t.size=((t.laid.getLast?.getD s).at_+(t.laid.getLast?.getD s).size)-t.base:=by
  unfold Told.size
  cases hl:t.laid.getLast? with
  |none =>
   rw[List.getLast?_eq_none_iff]at hl
   rw[hl]at hs
   cases hs
  |some l=>rfl
 lia
theorem size_le {t:Told} (T:MX.wJ t):t.size≤4194304:=by
 unfold Told.size
 cases hl:t.laid.getLast? with
 |none=>show 0-t.base≤4194304;lia
 |some l =>
  have:=T.hi l (List.mem_of_getLast? hl)
  show l.at_+l.size-t.base≤4194304
  lia
theorem TF {t:Told} (T:MX.wJ t) {p:Nat} (h:wordAt t p=true):p+8≤t.size:=by
 unfold wordAt at h
 obtain⟨s,hs,h⟩:=List.any_eq_true.mp h
 simp only[and_eq_true,decide_eq_true_eq]at h
 have:=Mn T hs
 lia
theorem Om {t:Told} {s:Segment} (h:s∈t.laid):s∈t.segments:=by
 unfold Told.laid at h
 cases hs:t.segments with
 |nil=>rw[hs]at h;cases h
 |cons y r =>
  rw[hs]at h
  simp only at h
  split at h
  ·exact mem_cons_of_mem _ h
  ·exact h
theorem RT (n:Nat):(replicate n [V.int 0]).flatten=bv (replicate n 0):=by
 unfold bv
 induction n with
 |zero=>rfl
 |succ n ih =>
  rw[replicate_succ,flatten_cons,ih,replicate_succ,map_cons]
  rfl
theorem V7 {b:List UInt8} {t:Told} (T:TG b t):(Rc31.laid b t).length=t.size:=by
 have key:∀(l:List Segment) (m:List UInt8),(∀s∈l,s∈t.laid)→m.length=t.size→(l.foldl (fun m s=>Rc31.put m (s.at_-t.base) ((b.drop s.file).take s.raw)) m).length=t.size:=by
  intro l
  induction l with
  |nil=>intro m _ h;exact h
  |cons s l ih =>
   intro m hs hm
   have h0:=hs s (mem_cons_self ..)
   have h1:=Mn T.tok h0
   have h2:=T.tok.lo s h0
   have h3:=(T.ok.oI s (Om h0)).2.2.2.1
   refine ih _ (fun q hq=>hs q (mem_cons_of_mem _ hq)) ?_
   rw[MX.tm,hm]
   rw[length_take]
   lia
 exact key _ _ (fun _ h=>h) (length_replicate ..)
section
variable {g:Gm} {a:Ad}
inductive Oo (a:Ad) (vs:List V) (H:Hp) (Q:VK) (E:XK):Prop
 |mk (gr f:Addr) (b:List UInt8) (t:Told) (q0:vs=[.ref gr,.ref f]) (q1:Bz a H gr t) (q2:TG b t) (q3:H f=some (.lst (bv b))) (q4:∀l H',H' l=some (.lst (bv (Rc31.laid b t)))→H l=none→ax H H'→Q (.ref l) H'):Oo a vs H Q E
theorem HC (T:Tx g.K g.mg a):Pr g 1 a.jz ["self","file"] (Oo a):=by
 refine Pr.on T.lS dw fun b6 A outer s H vs Q E hr h=>?_
 obtain⟨gr,f,b,t,rfl,G,tg,hf,k⟩:=h
 refine⟨_,ae (aI (i:=2) dw.nd rfl (Or.inl rfl) (aO UC (cy (aa ak ai)) (ar (pv 0) rfl)))
  (ae (ma tX rfl (lA (ar (pv 0) rfl)) (dJ (i:=3) dw.nd rfl (Or.inl rfl)) (ae (aI (i:=4) dw.nd rfl (Or.inl rfl) (aO gA (ar (pv 3) rfl) (ar (pv 0) rfl)))
  (ag (ma tX rfl (BU rfl T.sk (aa (ar (pv 3) rfl) ai)) (dJ (i:=5) dw.nd rfl (Or.inl rfl)) (ag (Uh (fN cJ (pv 1) (aO cq (ar (pv 3) rfl) (pv 5)) (fun _ _=>rfl)) (Ug (pv 2) (aO cq (pv 4) (pv 5)) set_list)))))))
  (ag (aS (pv 2)))),?_⟩
 obtain⟨dx,ls,kH,sp,sa,la,pa,G0⟩:=G
 have hz:sizeLine=16777216:=sizeLine_eq
 have Zz:=size_le tg.tok
 refine⟨(by show 1≤sizeLine;decide),fun z0 nz0=>?_⟩
 have s0:ax H (upd H z0 (.lst [.int 0])):=ax.upd nz0
 have hz0:upd H z0 (.lst [.int 0]) z0=some (.lst [.int 0]):=af
 generalize upd H z0 (.lst [.int 0])=H1 at *
 refine⟨_,rfl,gr,_,dx,_,_,rfl,s0 _ _ G0.ob,T.bI,T.cU,jo,z0,_,_,rfl,rfl,hz0,by lia,by lia,(by rw[toNat_natCast];show 1*_≤_;lia),fun hd nhd=>?_⟩
 rw[toNat_natCast,RT]
 have afb:H hd=none:=s0.free nhd
 have s1:ax H (upd H1 hd (.lst (bv (replicate t.size 0)))):=s0.trans (ax.upd nhd)
 have hd1:upd H1 hd (.lst (bv (replicate t.size 0))) hd=some (.lst (bv (replicate t.size 0))):=af
 generalize upd H1 hd (.lst (bv (replicate t.size 0)))=H2 at *
 refine⟨_,rfl,gr,_,dx,_,_,rfl,s1 _ _ G0.ob,T.bI,T.gq,xZ,kH,rfl,⟨_,bP.of (s1 _ _ G0.hl)⟩,ug (K:=g.K) (a:=kH) (xs:=la.map V.ref) (fun i σ H3=>∃v3 v4 v5,σ=[some (.ref gr),some (.ref f),some (.ref hd),v3,v4,v5]∧H3 hd=some (.lst (bv (Mm b t i)))∧ax H H3∧(Mm b t i).length=t.size)
  ⟨none,none,none,rfl,hd1,s1,by unfold Mm;rw[take_zero,List.foldl_nil,length_replicate]⟩ (fun i σ H3 _ ⟨_,_,_,_,_,q,_⟩=>bP.of (q _ _ G0.hl)) ?_ ?_⟩
 ·rintro i y σ H3 hy ⟨v3,v4,v5,rfl,hL,sH,hlen⟩
  obtain⟨y,Z4,rfl⟩:=pJ hy
  obtain⟨sg,Te,⟨m,⟨d,hyy⟩⟩⟩:=iB G0.laid Z4
  have V8:sg∈t.laid:=mem_of_getElem? Te
  have V9:=tg.tok.lo sg V8
  have hge:=Mn tg.tok V8
  obtain⟨_,_,_,anw,anx,_⟩:=tg.ok.oI sg (Om V8)
  have eF:Mm b t (i+1)=Rc31.put (Mm b t i) (sg.at_-t.base) ((b.drop sg.file).take sg.raw):=by
   unfold Mm
   rw[gN Te,List.foldl_append]
   rfl
  generalize hh:Mm b t i=M at *
  refine⟨_,rfl,y,_,d,_,_,rfl,sH _ _ hyy,T.aG,T.aX,bQ,_,rfl,gr,_,dx,_,_,rfl,sH _ _ G0.ob,T.bI,T.cH,lH,_,_,rfl,rfl,?_⟩
  refine⟨_,rfl,y,_,d,_,_,rfl,sH _ _ hyy,T.aG,T.bL,eg,_,rfl,by lia,by lia,qx (lo:=0) (n:=((sg.raw:Nat):Int).toNat) (fun j σ H4=>∃v5,σ=[some (.ref gr),some (.ref f),some (.ref hd),some (.ref y),some (.int ((sg.at_:Int)-(t.base:Int))),v5]∧H4 hd=some (.lst (bv (Rc31.put M (sg.at_-t.base) ((b.drop sg.file).take j))))∧ax H H4) ⟨v5,rfl,by rw[take_zero,V6];exact hL,sH⟩ ?_ ?_⟩
  ·rintro j σ H4 hj ⟨w5,rfl,hF,s4⟩
   rw[toNat_natCast]at hj
   have hb:sg.file+j<b.length:=by lia
   have hc:b[sg.file+j]?=some b[sg.file+j]:=getElem?_eq_getElem hb
   generalize b[sg.file+j]=c at hc
   have hto:sg.at_-t.base+j<M.length:=by lia
   have l0:((b.drop sg.file).take j).length=j:=by rw[length_take,length_drop];lia
   refine⟨_,rfl,_,rfl,y,_,d,_,_,rfl,s4 _ _ hyy,T.aG,T.cB,iL,_,rfl,_,_,rfl,rfl,f,_,_,V.int (c.toNat:Int),rfl,rfl,bP.of (s4 _ _ hf),at_of (j:=sg.file+j) (by lia) (by rw[zA,hc];rfl),_,rfl,_,rfl,_,rfl,_,_,rfl,rfl,hd,_,_,sg.at_-t.base+j,rfl,rfl,hF,?_,?_⟩
   ·unfold Uu
    rw[bt,MX.tm (by rw[l0];lia),iPp (by lia),iPp (by lia)]
    congr 1
    lia
   ·exact⟨_,rfl,by rw[af,V5 hc hto],wj s4 afb⟩
  ·rintro σ H4 ⟨w5,rfl,hF,s4⟩
   rw[toNat_natCast,←eF]at hF
   refine⟨_,_,_,rfl,hF,s4,?_⟩
   rw[eF,MX.tm,hlen]
   rw[length_take]
   lia
 ·rintro σ H3 ⟨v3,v4,v5,rfl,hL,sH,hlen⟩
  have e:Mm b t (la.map V.ref).length=Rc31.laid b t:=by
   unfold Mm
   rw[length_map,bw G0.laid,take_length]
   rfl
  rw[e]at hL
  exact⟨_,rfl,k hd H3 hL afb sH⟩
end
end MI
namespace MX
open PyRc31
def Oq (p:Int):Option Int:=if p=0 then some 1 else if p=2 then some 2 else if p=3 then some 3 else if p=5 then some 2 else if p=6 then some 3 else if p=7 then some 1 else none
inductive l8:List Int→List (List Int)→List Int→Prop
 |plain (p:Int) (xs t:List Int) (h:Oq p=some ((xs.length:Int)+1)):l8 (p::(xs++t)) [p::xs] t
 |row (p:Int) (r t:List Int) (h:p=1∨p=4):l8 (p::(r.length:Int)::(r++t)) [[p],r] t
theorem QF {l:List Int} {c:List (List Int)} {t:List Int} (h:PyFlat.call shape l=some (c,t)):l8 l c t:=by
 cases l with
 |nil=>cases h
 |cons p r =>
  have plain:∀n:Nat,shape p=some (n,0)→Oq p=some ((n:Int)+1)→l8 (p::r) c t:=by
   intro n hs hl
   simp only[PyFlat.call,hs,PyFlat.rows]at h
   by_cases hn:r.length<n
   ·rw[iPp hn]at h;cases h
   ·rw[IN hn]at h
    cases h
    have e:r=r.take n++r.drop n:=(take_append_drop n r).symm
    have hlen:(r.take n).length=n:=by rw[length_take];lia
    have:=l8.plain p (r.take n) (r.drop n) (by rw[hlen];exact hl)
    rw[←e]at this
    exact this
  have row:shape p=some (0,1)→(p=1∨p=4)→l8 (p::r) c t:=by
   intro hs hp
   simp only[PyFlat.call,hs,PyFlat.rows,List.drop_zero,take_zero]at h
   rw[IN (by lia)]at h
   cases r with
   |nil=>simp[PyFlat.row]at h
   |cons m r =>
    by_cases hm:0≤m∧m.toNat≤r.length
    ·simp only[PyFlat.row,iPp hm]at h
     cases h
     have hlen:(r.take m.toNat).length=m.toNat:=by rw[length_take];lia
     have:=l8.row p (r.take m.toNat) (r.drop m.toNat) hp
     rw[hlen,Int.toNat_of_nonneg hm.1,take_append_drop]at this
     exact this
    ·simp only[PyFlat.row,IN hm]at h
     cases h
  by_cases h0:p=0
  ·subst h0;exact plain 0 rfl rfl
  by_cases h1:p=1
  ·subst h1;exact row rfl (.inl rfl)
  by_cases h2:p=2
  ·subst h2;exact plain 1 rfl rfl
  by_cases h3:p=3
  ·subst h3;exact plain 2 rfl rfl
  by_cases h4:p=4
  ·subst h4;exact row rfl (.inr rfl)
  by_cases h5:p=5
  ·subst h5;exact plain 1 rfl rfl
  by_cases h6:p=6
  ·subst h6;exact plain 2 rfl rfl
  by_cases h7:p=7
  ·subst h7;exact plain 0 rfl rfl
  have:shape p=none:=by simp[shape,h0,h1,h2,h3,h4,h5,h6,h7]
  simp[PyFlat.call,this]at h
theorem QG {f:Nat} {p:Int} {r:List Int} {cs:List (List (List Int))} (h:PyFlat.calls shape f (p::r)=some cs):∃f' c t WU,f=f'+1∧l8 (p::r) c t∧PyFlat.calls shape f' t=some WU∧cs=c::WU:=by
 cases f with
 |zero=>simp[PyFlat.calls]at h
 |succ f =>
  rw[PyFlat.calls]at h
  cases hc:PyFlat.call shape (p::r) with
  |none=>rw[hc]at h;cases h
  |some x =>
   obtain⟨c,t⟩:=x
   rw[hc]at h
   cases hr:PyFlat.calls shape f t with
   |none=>simp only[hr]at h;cases h
   |some WU =>
    simp only[hr]at h
    cases h
    exact⟨f,c,t,WU,rfl,QF hc,hr,rfl⟩
theorem TH {f:Nat} {cs:List (List (List Int))} (h:PyFlat.calls shape f []=some cs):cs=[]:=by
 cases f<;>(simp[PyFlat.calls]at h;exact h)
def ic:List (List Int)→List Int
 | [l]=>l
 | [[p],r]=>p::(r.length:Int)::r
 |_=>[]
theorem l8.flat {l:List Int} {c:List (List Int)} {t:List Int} (h:l8 l c t):l=ic c++t:=by
 cases h with
 |plain p xs t h=>rfl
 |row p r t h=>rfl
theorem kF (c:List (List Int)):0≤Rc31Neutral.tells c:=by
 unfold Rc31Neutral.tells
 split
 ·split<;>lia
 ·lia
def Z8 (st:Rc31.Abs) (cs:List (List (List Int))):List Int:=PyFlat.told (PyFlat.played Rc31Neutral.step st (cs.map whole))
theorem Wa (st:Rc31.Abs) (c:List (List Int)) (cs:List (List (List Int))):Z8 st (c::cs)=(((Rc31Neutral.step st (whole c)).2.length:Int)::(Rc31Neutral.step st (whole c)).2)++Z8 (Rc31Neutral.step st (whole c)).1 cs:=by
 unfold Z8 PyFlat.told
 rw[map_cons,PyFlat.played,flatMap_cons]
def cost (cs:List (List (List Int))):Int:=(cs.map fun c=>515+Rc31Neutral.tells (whole c)).sum
theorem CV (c:List (List Int)) (cs:List (List (List Int))):cost (c::cs)=515+Rc31Neutral.tells (whole c)+cost cs:=by
 unfold cost
 rw[map_cons,sum_cons]
theorem RU:∀cs,0≤cost cs
 | []=>by decide
 |c::cs=>by
  rw[CV]
  have:=RU cs
  have:=kF (whole c)
  lia
theorem Wb (cs:List (List (List Int))):cost cs=515*(cs.length:Int)+((cs.map whole).map Rc31Neutral.tells).sum:=by
 induction cs with
 |nil=>rfl
 |cons c cs ih =>
  rw[CV,ih,map_cons,map_cons,sum_cons,length_cons]
  lia
end MX
namespace MI
open PySem L2 Rc31
theorem HD (p:Int):jt (XC [(0,1),(2,2),(3,3),(5,2),(6,3),(7,1)]) (Sum.inl p)=(MX.Oq p).map V.int:=by
 have key:∀(q v:Int) (r:List (Int×Int)),jt (XC ((q,v)::r)) (Sum.inl p)=if p=q then some (V.int v) else jt (XC r) (Sum.inl p):=fun q v r=>by
  show jt (((Sum.inl q:Key),V.int v)::XC r) (Sum.inl p)=_
  by_cases h:p=q
  ·rw[iPp h,lP (by rw[h])]
  ·rw[IN h,lQ (fun z=>h (by injection z with z;exact z.symm))]
 rw[key,key,key,key,key,key]
 unfold MX.Oq
 repeat' split
 all_goals first|rfl|lia
theorem acn (ns:List Int) (i j:Nat):zY (ns.map V.int) (some (i:Int)) (some ((i:Int)+(j:Int)))=((ns.drop i).take j).map V.int:=Ru V.int ns i j
theorem Ot {ns:List Int} {i:Nat} {p:Int} {r:List Int} (h:ns.drop i=p::r):ns[i]?=some p:=by
 have:=congrArg (fun l=>l[0]?) h
 simpa [getElem?_drop] using this
theorem TJ {ns:List Int} {i:Nat} {p q:Int} {r:List Int} (h:ns.drop i=p::q::r):ns[i+1]?=some q:=by
 have:=congrArg (fun l=>l[1]?) h
 simpa [getElem?_drop] using this
theorem TK {l:List Int} {c:List (List Int)} {t:List Int} (h:MX.l8 l c t):0<(MX.ic c).length:=by cases h<;>simp[MX.ic]
section
variable {g:Gm} {a:Ad}
inductive HE (g:Gm) (vs:List V) (H:Hp) (Q:VK) (E:XK):Prop
 |mk (c:Addr) (ns:List Int) (i:Nat) (cc:List (List Int)) (t:List Int) (q0:vs=[.ref c,.int (i:Int)]) (q1:bP g.K H c (ns.map V.int)) (q2:MX.l8 (ns.drop i) cc t) (q3:Q (.int ((MX.ic cc).length:Int)) H):HE g vs H Q E
theorem Mo (T:Tx g.K g.mg a):Pr g 1 a.Cm ["calls","at"] (HE g):=by
 refine Pr.on T.DJ K3 fun b6 A outer s H vs Q E hr h=>?_
 obtain⟨c,ns,i,cc,t,rfl,hc,ah,k⟩:=h
 refine⟨_,ae (dt (BS (XE T.y3 (fN cJ (pv 0) (pv 1) (fun _ _=>rfl)) (pkr T.nF))) (ag (aS (UW T.y3 (pkr T.nF) (fN cJ (pv 0) (pv 1) (fun _ _=>rfl)) (fun _ _=>rfl)))) gz)
  (ag (aS (aO cq ak (fN cJ (pv 0) (aO cq (pv 1) ak) (fun _ _=>rfl))))),?_⟩
 generalize hd:ns.drop i=l at ah
 cases ah with
 |plain p xs t hl =>
  have hp:=Ot hd
  have ix:(ns.map V.int)[i]?=some (V.int p):=by rw[getElem?_map,hp];rfl
  refine⟨_,rfl,_,rfl,c,_,_,_,rfl,rfl,hc,at_of (j:=i) (v:=V.int p) (by lia) ix,p,rfl,?_⟩
  rw[HD,hl]
  refine⟨_,rfl,iE ⟨_,rfl,_,rfl,c,_,_,_,rfl,rfl,hc,at_of (j:=i) (v:=V.int p) (by lia) ix,p,_,rfl,(by rw[HD,hl];rfl),?_⟩⟩
  have e:((MX.ic [p::xs]).length:Int)=(xs.length:Int)+1:=by
   show(((p::xs).length:Nat):Int)=_
   rw[length_cons]
   lia
  rw[e]at k
  exact k
 |row p r t hp1 =>
  have hp:=Ot hd
  have hq:=TJ hd
  have ix:(ns.map V.int)[i]?=some (V.int p):=by rw[getElem?_map,hp];rfl
  have ix1:(ns.map V.int)[i+1]?=some (V.int (r.length:Int)):=by rw[getElem?_map,hq];rfl
  have hl:MX.Oq p=none:=by rcases hp1 with rfl|rfl<;>rfl
  refine⟨_,rfl,_,rfl,c,_,_,_,rfl,rfl,hc,at_of (j:=i) (v:=V.int p) (by lia) ix,p,rfl,?_⟩
  rw[HD,hl]
  refine⟨_,rfl,eA ⟨_,rfl,_,rfl,_,_,rfl,rfl,c,_,_,_,rfl,rfl,hc,at_of (j:=i+1) (v:=V.int (r.length:Int)) (by lia) ix1,_,_,rfl,rfl,?_⟩⟩
  have e:((MX.ic [[p],r]).length:Int)=2+(r.length:Int):=by
   show(((p::(r.length:Int)::r).length:Nat):Int)=_
   rw[length_cons,length_cons]
   lia
  rw[e]at k
  exact k
inductive HF (a:Ad) (vs:List V) (H:Hp) (Q:VK) (E:XK):Prop
 |mk (x dx:Addr) (q0:vs=[.ref x]) (q1:H x=some (.ins a.fC dx [])) (q2:Q .dh (upd H x (.ins a.fC dx (fJ .dh)))):HF a vs H Q E
theorem Mp (T:Tx g.K g.mg a):Pr g 1 a.Ck ["self"] (HF a):=by
 refine Pr.on T.DG K1 fun b6 A outer s H vs Q E hr h=>?_
 obtain⟨x,dx,rfl,hx,k⟩:=h
 refine⟨_,ag (aT (pv 0) KA rfl),?_⟩
 refine⟨_,rfl,x,_,dx,_,rfl,hx,T.jn,T.dZ,(by show 0<1000;decide),?_⟩
 rw[Sz]
 exact k
structure DI (a:Ad) where
 DS:Hp→Addr→(Addr→Prop)→Abs→Prop
 keep:∀{H H':Hp} {d:Addr} {S:Addr→Prop} {st:Abs},DS H d S st→(∀b,S b→H' b=H b)→DS H' d S st
 there:∀{H:Hp} {d:Addr} {S:Addr→Prop} {st:Abs},DS H d S st→∀b,S b→H b≠none
 start:∀{H:Hp} {d dx:Addr},H d=some (.ins a.fC dx (fJ .dh))→DS H d (At d) {}
inductive wo (a:Ad) (D:DI a) (vs:List V) (H:Hp) (Q:VK) (E:XK):Prop
 |mk (d cl:Addr) (S:Addr→Prop) (st:Abs) (cc:List (List Int)) (l t:List Int) (q0:vs=[.ref d,.ref cl]) (q1:D.DS H d S st) (q2:H cl=some (.lst ((MX.ic cc).map V.int))) (q3:¬S cl) (q4:MX.l8 l cc t) (q5:Rc31Neutral.asked1 (PyRc31.whole cc)=true) (q6:∀tl H' S',H' tl=some (.lst ((Rc31Neutral.step st (PyRc31.whole cc)).2.map V.int))→H tl=none→((Rc31Neutral.step st (PyRc31.whole cc)).2.length:Int)≤514+Rc31Neutral.tells (PyRc31.whole cc)→Kp S H H'→D.DS H' d S' (Rc31Neutral.step st (PyRc31.whole cc)).1→¬S' tl→(∀b,S' b→S b∨H b=none)→Q (.ref tl) H'):wo a D vs H Q E
def YU (K:W.Frag) (H:Hp) (c l:Addr) (S:Addr→Prop) (xs:List V):Prop :=
 (∃(o:Obj) (bu:Array Value) (n:Nat),K.lookup c=some o∧o.cls = .type "list"∧o.dict=none∧o.data = .seq bu n∧bu.size≤sizeLine∧Vals xs bu.toList)∨(Rd H c (.lst xs)∧c≠l∧¬S c)
theorem YU.sq {K:W.Frag} {H:Hp} {c l:Addr} {S:Addr→Prop} {xs:List V} (h:YU K H c l S xs):bP K H c xs:=h.elim .inr fun q=>.inl q.1
theorem Rd.kp {H H':Hp} {c:Addr} {u:HO} (h:Rd H c u) (k:∀o,H c=some o→H' c=some o):Rd H' c u:=h.elim (fun e=>.inl (k _ e)) fun⟨o,e⟩=>.inr ⟨o,k _ e⟩
theorem Rd.some {H:Hp} {c:Addr} {u:HO} (h:Rd H c u):∃o,H c = .some o:=h.elim (fun e=>⟨_,e⟩) fun⟨o,e⟩=>⟨_,e⟩
theorem YU.step {K:W.Frag} {H H':Hp} {c l:Addr} {S S':Addr→Prop} {xs:List V} (h:YU K H c l S xs) (k:∀b o,H b=some o→b≠l→¬S b→H' b=some o) (hs:∀b,S' b→S b∨H b=none):YU K H' c l S' xs:=by
 rcases h with h|⟨h,n1,n2⟩
 ·exact .inl h
 ·refine .inr ⟨Rd.kp h fun o e=>k c o e n1 n2,n1,fun z=>?_⟩
  obtain⟨o,e⟩:=Rd.some h
  exact(hs c z).elim n2 fun q=>by rw[e]at q;cases q
inductive CW (K:W.Frag) (vs:List V) (H:Hp) (Q:VK) (E:XK):Prop
 |mk (c:Addr) (ns:List Int) (cs:List (List (List Int))) (q0:vs=[.ref c]) (q1:bP K H c (ns.map V.int)) (q2:PyFlat.calls PyRc31.shape ns.length ns=some cs) (q3:(∀cc∈cs,Rc31Neutral.asked1 (PyRc31.whole cc)=true)) (q4:MX.cost cs≤700000) (q5:∀l H',H' l=some (.lst ((MX.Z8 {} cs).map V.int))→Q (.ref l) H'):CW K vs H Q E
theorem QH {n:Nat} (hn:1≤n) (T:Tx g.K g.mg a) (D:DI a) (OA:Pr g n a.answer ["desk","call"] (wo a D)):Pr g (n+2) a.answers ["calls"] (CW g.K):=by
 refine Pr.on T.Co jy fun b6 A outer s H vs Q E hr h=>?_
 obtain⟨c,ns,cs,rfl,hc,hcs,xB,afc,k⟩:=h
 refine⟨_,ae (aI (i:=1) jy.nd rfl (Or.inl rfl) (Ra (Mp T) T.E4 au hr (by lia) T.U5))
  (ae (aI (i:=2) jy.nd rfl (Or.inl rfl) (cy ai))
  (ae (aI (i:=3) jy.nd rfl (Or.inl rfl) ak)
  (ae (qw tX (bH nH (pv 3) (aV aJ (by rfl) T.eO boot_len (aa (pv 0) ai)) (aC _)) (ae (aI (i:=4) jy.nd rfl (Or.inl rfl) (aU (Mo T) au hr (by lia) T.DK (aa (pv 0) (aa (pv 3) ai))))
  (ae (aI (i:=5) jy.nd rfl (Or.inl rfl) (aU OA au hr (by lia) T.M1 (aa (pv 1) (aa (jL m4 (pv 0) (gY (pv 3)) (gY (aO cq (pv 3) (pv 4)))) ai))))
  (ae (aR (uh F.plainAttrs_list F.slot_list_append F.type_list_append iC (pv 2) (aa (aV aJ (by rfl) T.eO boot_len (aa (pv 5) ai)) ai)))
  (ae (aR (uh F.plainAttrs_list F.slot_list_extend F.type_list_extend JK (pv 2) (aa (pv 5) ai)))
  (ag (ON (i:=3) jy.nd rfl (Or.inl rfl) (pv 4) aaw)))))))
  (ag (aS (pv 2)))))),?_⟩
 have hsz:sizeLine=16777216:=sizeLine_eq
 refine fun d dx nd ndx nex=>⟨d,dx,rfl,af,rfl,?_⟩
 rw[bN]
 have s1:ax H (upd (upd H dx (.own d)) d (.ins a.fC dx (fJ .dh))):=(ax.upd ndx).trans (ax.upd (by rw[aj nex.symm];exact nd))
 have hd1:upd (upd H dx (.own d)) d (.ins a.fC dx (fJ .dh)) d=some (.ins a.fC dx (fJ .dh)):=af
 generalize upd (upd H dx (.own d)) d (.ins a.fC dx (fJ .dh))=H1 at *
 refine⟨zero_le _,fun l hl=>?_⟩
 have s2:ax H1 (upd H1 l (.lst [])):=ax.upd hl
 have JL:upd H1 l (.lst []) l=some (.lst []):=af
 have ndl:d≠l:=aq hd1 hl
 have hd2:=s2 _ _ hd1
 generalize upd H1 l (.lst [])=H2 at *
 have xy:=s1.trans s2
 have hl0:H l=none:=s1.free hl
 have cI:YU g.K H2 c l (At d) (ns.map V.int):=by
  rcases hc with h|h
  ·obtain⟨o,e⟩:=Rd.some h
   exact .inr ⟨Rd.kp h fun o e=>xy _ _ e,aq e hl0,fun z=>by rw[show c=d from z,nd]at e;cases e⟩
  ·exact .inl h
 have dS0:D.DS H2 d (At d) {}:=D.start hd2
 refine⟨fun m σ H3=>∃(i f:Nat) (WU:List (List (List Int))) (st:Abs) (acc:List Int) (S:Addr→Prop) (v4 v5:Option V),σ=[some (.ref c),some (.ref d),some (.ref l),some (.int (i:Int)),v4,v5]∧i≤ns.length∧m=ns.length-i∧PyFlat.calls PyRc31.shape f (ns.drop i)=some WU∧(∀cc∈WU,Rc31Neutral.asked1 (PyRc31.whole cc)=true)∧H3 l=some (.lst (acc.map V.int))∧D.DS H3 d S st∧¬S l∧YU g.K H3 c l S (ns.map V.int)∧MX.Z8 {} cs=acc++MX.Z8 st WU∧(acc.length:Int)+MX.cost WU≤700000,
  ⟨_,0,ns.length,cs,{},[],At d,none,none,rfl,zero_le _,rfl,hcs,xB,JL,dS0,(fun z=>ndl z.symm),cI,rfl,by simpa using afc⟩,?_⟩
 rintro m σ H3 ⟨i,f,WU,st,acc,S,v4,v5,rfl,hi,rfl,YV,pP,hL,hD,nSl,cl3,afd,hco⟩
 refine⟨_,rfl,_,rfl,c,_,rfl,.inl cl3.sq,_,_,rfl,rfl,_,rfl,?_⟩
 rw[length_map]
 refine aw (fun oU=>?_) fun oU=>?_
 ·have oU:i<ns.length:=by lia
  obtain⟨p,r,hpr⟩:∃p r,ns.drop i=p::r:=⟨_,_,drop_eq_getElem_cons oU⟩
  rw[hpr]at YV
  obtain⟨f',cc,t,cs2,rfl,ah,Mv,rfl⟩:=MX.QG YV
  rw[←hpr]at ah
  have Tb:=ah.flat
  have akp:0<(MX.ic cc).length:=TK ah
  have hlen:(MX.ic cc).length≤ns.length-i:=by
   have:=congrArg length Tb
   rw[length_drop,length_append]at this
   lia
  refine⟨fun σ' H'=>∃m',m'<ns.length-i∧_,fun σ' H' q=>q,?_⟩
  refine⟨_,rfl,_,rfl,c,ns,i,cc,t,rfl,cl3.sq,ah,?_⟩
  refine⟨_,rfl,_,rfl,_,rfl,_,rfl,_,rfl,_,rfl,_,_,rfl,rfl,_,rfl,c,_,rfl,cl3.sq,fun cl oN=>?_⟩
  rw[acn,show(ns.drop i).take (MX.ic cc).length=MX.ic cc by rw[Tb,List.take_left'];rfl]
  have s4:ax H3 (upd H3 cl (.lst ((MX.ic cc).map V.int))):=ax.upd oN
  have ait:upd H3 cl (.lst ((MX.ic cc).map V.int)) cl=_:=af
  have afe:¬S cl:=fun z=>D.there hD cl z oN
  have hD4:D.DS (upd H3 cl (.lst ((MX.ic cc).map V.int))) d S st:=D.keep hD fun b hb=>by
   have nb:b≠cl:=fun z=>afe (by rw[←z];exact hb)
   rw[aj nb]
  generalize upd H3 cl (.lst ((MX.ic cc).map V.int))=H4 at *
  have hL4:=s4 _ _ hL
  have cl4:YU g.K H4 c l S (ns.map V.int):=cl3.step (fun b o e _ _=>s4 _ _ e) fun b z=>.inl z
  refine⟨d,cl,S,st,cc,_,t,rfl,hD4,ait,afe,ah,pP cc (mem_cons_self ..),fun tl H5 S' ZZ wq hbl k5 hD5 nS' Z6=>?_⟩
  have hdc:=MX.Wa st cc cs2
  have hcc:=MX.CV cc cs2
  have hcn:=MX.RU cs2
  generalize jj:Rc31Neutral.step st (PyRc31.whole cc)=stp at *
  have hL5:=k5 _ _ hL4 nSl
  have nlt:l≠tl:=aq hL4 wq
  have aff:¬S' l:=fun z=>(Z6 l z).elim nSl fun q=>by rw[hL4]at q;cases q
  have cl5:YU g.K H5 c l S' (ns.map V.int):=cl4.step (fun b o e _ n=>k5 _ _ e n) Z6
  refine⟨_,rfl,.inl ⟨rfl,_,bP.of hL5⟩,_,rfl,tl,_,rfl,.inl (bP.of ZZ),l,_,_,rfl,rfl,hL5,(by rw[length_map];lia),?_⟩
  rw[length_map]
  have hL6:upd H5 l (.lst (acc.map V.int++[.int (stp.2.length:Int)])) l=_:=af
  have aiv:upd H5 l (.lst (acc.map V.int++[.int (stp.2.length:Int)])) tl=some (.lst (stp.2.map V.int)):=by rw[aj nlt.symm];exact ZZ
  refine⟨_,rfl,.inl ⟨rfl,_,bP.of hL6⟩,_,rfl,l,tl,_,_,rfl,rfl,hL6,aiv,?_,?_⟩
  ·rw[length_append,length_map,length_map]
   show acc.length+1+stp.2.length≤sizeLine
   lia
  ·rw[bN]
   refine⟨_,rfl,_,rfl,_,_,rfl,rfl,ns.length-(i+(MX.ic cc).length),by lia,i+(MX.ic cc).length,f',cs2,stp.1,acc++((stp.2.length:Int)::stp.2),S',some (.int ((MX.ic cc).length:Int)),some (.ref tl),?_,by lia,rfl,?_,fun c' hc'=>pP c' (mem_cons_of_mem _ hc'),?_,D.keep hD5 (fun b hb=>by
    have nb:b≠l:=fun z=>aff (by rw[←z];exact hb)
    rw[aj nb]),aff,cl5.step (fun b o e n _=>by rw[aj n];exact e) (fun b z=>.inl z),?_,?_⟩
   ·rw[natCast_add]
    rfl
   ·rw[←drop_drop,Tb,List.drop_left']
    ·exact Mv
    ·rfl
   ·rw[af,map_append,map_cons,append_assoc]
    rfl
   ·rw[afd,hdc,append_assoc]
   ·rw[length_append,length_cons]
    lia
 ·have ei:i=ns.length:=by lia
  subst ei
  rw[drop_of_length_le (le_refl _)]at YV
  have:=MX.TH YV
  subst this
  refine⟨_,rfl,k l H3 ?_⟩
  rw[hL,afd,show MX.Z8 st []=[] from rfl,append_nil]
end
end MI
namespace MI
open PySem L2
theorem QI {l:List Int} {c:List (List Int)} {t:List Int} (h:MX.l8 l c t):∃i:Nat,i<8∧(MX.ic c)[0]?=some (i:Int):=by
 cases h with
 |plain p xs t h =>
  have key:∀n:Nat,n<8→p=(n:Int)→∃i:Nat,i<8∧(MX.ic [p::xs])[0]?=some (i:Int):=fun n hn e=>⟨n,hn,by rw[←e];rfl⟩
  unfold MX.Oq at h
  by_cases h0:p=0
  ·exact key 0 (by decide) h0
  rw[IN h0]at h
  by_cases h2:p=2
  ·exact key 2 (by decide) h2
  rw[IN h2]at h
  by_cases h3:p=3
  ·exact key 3 (by decide) h3
  rw[IN h3]at h
  by_cases h5:p=5
  ·exact key 5 (by decide) h5
  rw[IN h5]at h
  by_cases h6:p=6
  ·exact key 6 (by decide) h6
  rw[IN h6]at h
  by_cases h7:p=7
  ·exact key 7 (by decide) h7
  rw[IN h7]at h
  cases h
 |row p r t h =>
  rcases h with rfl|rfl
  ·exact⟨1,by decide,rfl⟩
  ·exact⟨4,by decide,rfl⟩
section
variable {g:Gm} {a:Ad}
inductive Wc (a:Ad) (D:DI a) (i:Nat) (vs:List V) (H:Hp) (Q:VK) (E:XK):Prop
 |mk (d cl:Addr) (S:Addr→Prop) (st:Rc31.Abs) (cc:List (List Int)) (l t:List Int) (q0:vs=[.ref d,.ref cl]) (q1:D.DS H d S st) (q2:H cl=some (.lst ((MX.ic cc).map V.int))) (q3:¬S cl) (q4:MX.l8 l cc t) (q5:Rc31Neutral.asked1 (PyRc31.whole cc)=true) (q6:(MX.ic cc)[0]?=some (i:Int)) (q7:(∀tl H' S',H' tl=some (.lst ((Rc31Neutral.step st (PyRc31.whole cc)).2.map V.int))→H tl=none→((Rc31Neutral.step st (PyRc31.whole cc)).2.length:Int)≤514+Rc31Neutral.tells (PyRc31.whole cc)→Kp S H H'→D.DS H' d S' (Rc31Neutral.step st (PyRc31.whole cc)).1→¬S' tl→(∀b,S' b→S b∨H b=none)→Q (.ref tl) H')) (q8:∀C z,(C=a.cv∧z = -4)∨((C=a.aE∨C=a.dM∨C=a.bK∨C=a.bM)∧z = -1)→(Rc31Neutral.step st (PyRc31.whole cc)).2=[z]→∀H' S',Kp S H H'→(∀b,H b≠none→H' b≠none)→D.DS H' d S' (Rc31Neutral.step st (PyRc31.whole cc)).1→(∀b,S' b→S b∨H b=none)→E (.ref C) none H'):Wc a D i vs H Q E
theorem TM {n:Nat} (T:Tx g.K g.mg a) (D:DI a) (cf:List Addr) (hcf:cf.length=8) (hT:∀H,tV g.K H a.oZ (cf.map V.ref)) (G:∀i:Fin cf.length,Pr g n cf[i] ["desk","call"] (Wc a D i.val)):Pr g (n+1) a.answer ["desk","call"] (wo a D):=by
 refine Pr.on T.M0 Su fun b6 A outer s H vs Q E hr h=>?_
 obtain⟨d,cl,S,st,cc,l,t,rfl,hD,oN,nS,ah,xB,k⟩:=h
 refine⟨_,ag (aba rfl rfl rfl rfl rfl rfl (fun W pn E2 pass=>ag (aS (XB (tf:=Zn (adN g.K) (tC (.ref a.oZ)) (Zn (adM g.K) (zS 1) (tC (.int 0)))) (fa:=fun i:Fin cf.length=>cf[i]) (ps:=fun _=>["desk","call"]) (sp:=fun i=>Wc a D i.val) (fN OW (pkr T.oZ) (fN cJ (pv 1) ak (fun _ _=>rfl)) (fun _ _=>rfl)) G pass hr (by lia) (aa (pv 0) (aa (pv 1) ai)))))
  (Af rfl rfl rfl T.Cp.ns (fun _=>ag (aS (cy (aa (zU rD ak) ai)))) (Af rfl rfl rfl T.qF.ns (fun _=>ag (aS (cy (aa (zU rD ak) ai)))) (Af rfl rfl rfl T.Cq.ns (fun _=>ag (aS (cy (aa (zU rD ak) ai)))) (Af rfl rfl rfl T.qb.ns (fun _=>ag (aS (cy (aa (zU rD ak) ai)))) (Af rfl rfl rfl T.vj.ns (fun _=>ag (aS (cy (aa (zU rD ak) ai)))) aa9)))))),?_⟩
 obtain⟨i,hi8,hi⟩:=QI ah
 have hi':i<cf.length:=by lia
 have back:∀{H':Hp} {tl:Addr},(∀b,H b≠none→H' b≠none)→H' tl=none→H tl=none:=fun{H' tl} hb e=>by
  cases q:H tl with
  |none=>rfl
  |some o=>exact absurd e (hb tl (by rw[q];intro z;cases z))
 have fin:∀(z:Int) (H':Hp) (S':Addr→Prop),(Rc31Neutral.step st (PyRc31.whole cc)).2=[z]→Kp S H H'→(∀b,H b≠none→H' b≠none)→D.DS H' d S' (Rc31Neutral.step st (PyRc31.whole cc)).1→(∀b,S' b→S b∨H b=none)→∀tl,H' tl=none→Q (.ref tl) (upd H' tl (.lst [.int z])):=fun z H' S' hz kp hb hD' Z6 tl wq=>by
  have nS':¬S' tl:=fun q=>D.there hD' tl q wq
  refine k tl _ S' (by rw[af,hz];rfl) (back hb wq) (by rw[hz];have:=MX.kF (PyRc31.whole cc);show(1:Int)≤_;lia) (fun b o e n=>?_) (D.keep hD' fun b hb'=>?_) nS' Z6
  ·have h1:=kp b o e n
   rw[aj (aq h1 wq)]
   exact h1
  ·have nb:b≠tl:=fun q=>nS' (by rw[←q];exact hb')
   rw[aj nb]
 refine⟨_,rfl,cl,_,_,_,rfl,rfl,bP.of oN,at_of (j:=0) (v:=V.int (i:Int)) (by lia) (by rw[getElem?_map,hi];rfl),a.oZ,_,_,_,rfl,rfl,hT H,at_of (j:=i) (v:=V.ref cf[i]) (by lia) (by rw[getElem?_map,getElem?_eq_getElem hi'];rfl),⟨i,hi'⟩,rfl,_,rfl,_,rfl,d,cl,S,st,cc,l,t,rfl,hD,oN,nS,ah,xB,hi,fun tl H' S' h1 h2 h3 h4 h5 h6 h7=>k tl H' S' h1 h2 h3 h4 h5 h6 h7,fun C z hC hz H' S' kp hb hD' Z6=>?_⟩
 have F:=fin z H' S' hz kp hb hD' Z6
 rcases hC with⟨rfl,rfl⟩|⟨rfl|rfl|rfl|rfl,rfl⟩
 ·exact⟨_,rfl,fun σ'=>⟨true,T.o5,iE ⟨_,rfl,(by show 1≤sizeLine;decide),F⟩⟩⟩
 ·exact⟨_,rfl,fun σ'=>⟨false,T.o6,eA ⟨true,T.o7,iE ⟨_,rfl,(by show 1≤sizeLine;decide),F⟩⟩⟩⟩
 ·exact⟨_,rfl,fun σ'=>⟨false,T.o8,eA ⟨false,T.o9,eA ⟨true,T.pb,iE ⟨_,rfl,(by show 1≤sizeLine;decide),F⟩⟩⟩⟩⟩
 ·exact⟨_,rfl,fun σ'=>⟨false,T.kJ,eA ⟨false,T.kK,eA ⟨false,T.kL,eA ⟨true,T.iP,iE ⟨_,rfl,(by show 1≤sizeLine;decide),F⟩⟩⟩⟩⟩⟩
 ·exact⟨_,rfl,fun σ'=>⟨false,T.mG,eA ⟨false,T.mH,eA ⟨false,T.mI,eA ⟨false,T.jD,eA ⟨true,T.kM,iE ⟨_,rfl,(by show 1≤sizeLine;decide),F⟩⟩⟩⟩⟩⟩⟩
end
end MI
namespace L2
open PySem PySem.Spec PyProof.Rows
theorem Kn {R:W.WRecords} {cl:Str→Option Addr} {h:Heap}:∀{vs:List Value} {ns:List Int},IntsAre vs ns→W.ReadsAllW R cl h vs (ns.map W.WData.int) []
 |_,_,.nil=>.nil
 |_,_,.cons n t r=>.cons (.int n t) (Kn r)
def afg (s₁:Shared) (ms:List Int) (r:Result) (s':Shared):Prop :=
 ∃p o vs n,r = .ok (.ret (.ref p))∧s'.heap.get? p=some o∧o.cls = .type "list"∧o.data = .seq vs n∧IntsAre vs.toList ms∧OldK s₁.heap s'.heap∧s'.os=s₁.os∧AllBare s'.gens
theorem TN {P:Program} {w:World} {K:PySem.W.Frag} {mg mb:Str→Option Value} {CX:Sj} {k:Nat} {fa a:Addr} {fd:FuncData} {x:Str} {sp:Sp} {s₁:Shared} {vs:List Value} {ns ms:List Int}
 (KX:K.In s₁.heap) (hns:s₁.heap.Ns mainGlobals mg) (hb:s₁.heap.Ns builtinsNs mb) (hbb:∀x:Str,x ≠ "__name__"→mb x=bootBuiltins x) (aiw:s₁.heap.NoLimit) (hg:s₁.gens=#[])
 (ha:s₁.heap.get? a=some {cls:=.type "list",data:=.seq vs.toArray}) (hi:IntsAre vs ns) (hl:ns.length≤sizeLine) (hr:ig k callerA)
 (F:∀base:Heap,K.In base→base.Ns mainGlobals mg→tW P w K mg base CX k fa fd [x] sp) (afh:∀(s:Shared) (u:Value),BindsTo s fd ⟨[u],[]⟩ [(x,u)])
 (Q2:∀H:Hp,aa4 H→bP K H a (ns.map V.int)→sp [.ref a] H (fun v H'=>∃p,v = .ref p∧H' p=some (.lst (ms.map V.int))) fun _ _ _=>False)
 (hCX:∀H e s',CX [] H s₁ (fun _ _ _=>False) e s'→False) :
 codeAny (model P w) callerA (.call (.ref fa) ⟨[.ref a],[]⟩) (afg s₁ ms) s₁:=by
 have rv:=JQ hi
 have aiy:=hi.length
 have core:∀H:Hp,aa4 H→bP K H a (ns.map V.int)→t9 P w H s₁.heap→(∀b,H b≠none→b=a)→(H a≠none→K.lookup a=none) →
  codeAny (model P w) callerA (.call (.ref fa) ⟨[.ref a],[]⟩) (afg s₁ ms) s₁:=by
  intro H hO hS cG hA hK
  have RV:∀{b:Addr} {o:Obj},s₁.heap.get? b=some o→H b=none→(Ky s₁.heap H).get? b=some o:=fun e n=>T9 e n
  have noA:∀{b:Addr} {o:Obj} {es:Array DictEntry} {ep:Nat},s₁.heap.get? b=some o→o.data = .dict es ep→H b=none:=fun{b o es ep} e d=>by
   cases q:H b with
   |none=>rfl
   |some u =>
    have e':b=a:=hA b (by rw[q];simp)
    subst e'
    rw[ha]at e;cases e
    have d':Data.seq vs.toArray _=Data.dict es ep:=d
    cases d'
  have nsK:∀{b:Addr} {m:Str→Option Value},s₁.heap.Ns b m→(Ky s₁.heap H).Ns b m:=fun{b m} ⟨o,es,ep,e,d,r⟩=>⟨o,es,ep,RV e (noA e d),d,r⟩
  have hKb:K.In (Ky s₁.heap H):=fun b o e=>RV (KX b o e) (by
   cases q:H b with
   |none=>rfl
   |some u =>
    have e':b=a:=hA b (by rw[q];simp)
    subst e'
    rw[hK (by rw[q];simp)]at e;cases e)
  have hM:Mod K mg (Ky s₁.heap H):=⟨hKb,nsK hns,⟨mb,nsK hb,hbb⟩,let⟨mc,h1,h2⟩:=aiw;⟨mc,nsK h1,h2⟩⟩
  have e0:OV P w K mg (Ky s₁.heap H) callerA [] s₁ H:=⟨rfl,hM,fun b o e=>WY e,le_of_eq (R7 _ _),trivial,fun b hb=>absurd (show b∈([]:List Addr) from hb) (by simp),cG,.of_eq hg⟩
  refine codeAny_mono ((F _ hKb (nsK hns)).run callerA [] s₁ H ⟨[.ref a],[]⟩ [.ref a] [.ref a] _ _ hr e0 (afh s₁ (.ref a)) (.cons rfl .nil) (Q2 H hO hS)) fun r s' h=>?_
  cases r with
  |error e=>exact(hCX H e s' h).elim
  |ok fl =>
   cases fl with
   |next=>exact False.elim h
   |brk=>exact False.elim h
   |cont=>exact False.elim h
   |ret u =>
    obtain⟨v,H',os,bare,un,afi,r',q⟩:=h
    obtain⟨p,rfl,hp⟩:=q
    obtain rfl:u=Value.ref p:=r'
    obtain⟨hz,bu,n,rvs,hob⟩:=afi p _ hp
    refine⟨p,_,_,n,rfl,hob,rfl,rfl,by simpa using rvs.ints,OldK.of_keep fun b o e=>?_,os,bare⟩
    cases q:H b with
    |none=>exact un.keep b o e q (by intro z;exact absurd (show b∈([]:List Addr) from z) (by simp)) (by simp)
    |some u =>
     rcases hO b with z|⟨ob,xs,z⟩
     ·rw[q]at z;cases z
     ·have z2:=un.Fh b ob _ z
      obtain⟨e1,_⟩:=cG b _ z
      obtain⟨e2,_⟩:=afi b _ z2
      rw[e]at e1;cases e1
      exact e2
 cases hk:K.lookup a with
 |some o =>
  have e:=KX a o hk
  rw[ha]at e
  cases e
  refine core (fun _=>none) (fun _=>.inl rfl) (.inr ⟨_,vs.toArray,_,hk,rfl,rfl,rfl,by rw[size_toArray,aiy];exact hl,by simpa using rv⟩) (fun b u z=>by have z':(none:Option HO)=some u:=z;cases z') (fun b z=>absurd rfl z) fun z=>absurd rfl z
 |none =>
  refine core (fun b=>if b=a then some (.T7 {cls:=.type "list",data:=.seq vs.toArray} (.lst (ns.map V.int))) else none) (fun b=>?_) (.inl (.inr ⟨{cls:=.type "list",data:=.seq vs.toArray},iPp rfl⟩)) (fun b u z=>?_) (fun b z=>?_) fun _=>hk
  ·by_cases hb:b=a
   ·exact .inr ⟨_,_,iPp hb⟩
   ·exact .inl (IN hb)
  ·by_cases hb:b=a
   ·have z':=(iPp hb).symm.trans z
    cases z'
    subst hb
    exact⟨ha,by rw[length_map];exact hl,vs,_,rv,ha⟩
   ·have z':=(IN hb).symm.trans z
    cases z'
  ·by_cases hb:b=a
   ·exact hb
   ·exact absurd (IN hb) z
theorem We {r:PySem.W.OpenSpec} {n k:Nat} {q:Program} {loose:List Str} {XP:(Str→Option Value)→Heap→Prop} {YP:World→Heap→Prop} {d:DefRec} {K:Params→PySem.W.Frag} {CX:World→Sj} {sp:World→Sp} {x:Str} {PRE:List Int→Prop} {g:List Int→List Int}
 (aiz:∀args,r.pre args=true→∃ns:List Int,args=[.list (ns.map .int)]∧ns.length≤n∧PRE ns) (afj:∀ns:List Int,r.pre [.list (ns.map .int)]=true→PRE ns→r.post [.list (ns.map .int)] (.list ((g ns).map .int))=true)
 (hn2:n≤sizeLine) (hdf:d.params.defaults=[]) (hr:ig k callerA)
 (hY:∀(w:World) (h:Heap),YP w h→(K w.params).In h)
 (F:∀(w:World) (mg:Str→Option Value) (fa:Addr) (h:Heap),(K w.params).In h→h.Ns mainGlobals mg→mg d.name=some (.ref fa) →
  ∃fd:FuncData,(∀(s:Shared) (u:Value),BindsTo s fd ⟨[u],[]⟩ [(x,u)]) ∧
   ∀base:Heap,(K w.params).In base→base.Ns mainGlobals mg→tW r.prog w (K w.params) mg base (CX w) k fa fd [x] (sp w))
 (Q2:∀(w:World) (H:Hp) (a:Addr) (ns:List Int),ns.length≤n→PRE ns→aa4 H→bP (K w.params) H a (ns.map V.int)→sp w [.ref a] H (fun v H'=>∃p,v = .ref p∧H' p=some (.lst ((g ns).map V.int))) fun _ _ _=>False)
 (hCX:∀(w:World) (H:Hp) (s:Shared) (e:Value) (s':Shared),CX w [] H s (fun _ _ _=>False) e s'→False) :
 PySem.W.WalkOS q loose XP YP r d [] (fun f vs=>PySem.call f vs):=by
 intro w s₀ s₁ mg mb G Y fa o pm cd doc dV kV ho hd WK hD hmg hg args vals as YG anK hrd zQ V9
 obtain rfl:dV = .none:=PySem.W.Dflts.none hD hdf
 obtain rfl:kV = .none:=PySem.W.Dflts.noKw hD
 obtain⟨ns,rfl,hlen,hP⟩:=aiz args YG
 have KX:=hY w _ Y
 obtain⟨fd,hb,hF⟩:=F w mg fa _ KX G.T.g hmg
 cases zQ with
 |cons w1 w2 =>
  cases w2
  cases w1 with
  |list aiC MR =>
   have hints:=Att.Ei ns _ MR
   refine PySem.W.enter_call (codeAny_mono (TN KX G.T.g G.T.b G.T.builtins G.T.nolimit hg aiC hints (le_trans hlen hn2) hr hF hb (fun H hO hS=>Q2 w H _ ns hlen hP hO hS) fun H e s'=>hCX w H s₁ e s') fun res s' hq=>?_)
   obtain⟨p,ob,vs',n',rfl,h1,h2,h3,h4,h5,h6,h7⟩:=hq
   refine⟨.inl ⟨.ref p,.list ((g ns).map .int),[p],rfl,fun c=>PySem.W.osNone c,.list h1 h2 h3 (Kn h4),afj ns YG hP,fun z=>by cases z⟩,h5,h6,h7⟩
end L2
namespace MI
open PySem L2 PySem.W
theorem Ko {lo hi:Int}:∀{ds:List WData} {ns:List Int},Codec.decItems (Codec.decInt lo hi) ds=some ns→ds=ns.map WData.int
 | [],ns,h=>by
  cases h
  rfl
 |d::ds,ns,h=>by
  unfold Codec.decItems at h
  cases hd:Codec.decInt lo hi d with
  |none=>rw[hd]at h;cases h
  |some z =>
   cases hr:Codec.decItems (Codec.decInt lo hi) ds with
   |none=>rw[hd,hr]at h;cases h
   |some zs =>
    rw[hd,hr]at h
    cases h
    rw[Ko hr]
    unfold Codec.decInt at hd
    split at hd
    ·split at hd
     ·cases hd
      rfl
     ·cases hd
    ·cases hd
abbrev rr:OpenSpec:=PySem.Challenge.rw_mendedimage_s01_answers
theorem Wf {args:List WData} {x:Codec.denoteAll rr.args} (h:Codec.decAll rr.args args=some x):args=[.list (x.1.map WData.int)]∧x.1.length≤16000:=by
 cases args with
 |nil=>cases h
 |cons d ds =>
  have h':Codec.both Prod.mk (Codec.decList 0 16000 (Codec.decInt (Int.negSucc 2147483647) (Int.ofNat 18446744073709551615)) d) (Codec.decEnd ds)=some x:=h
  cases hd:Codec.decList 0 16000 (Codec.decInt (Int.negSucc 2147483647) (Int.ofNat 18446744073709551615)) d with
  |none=>rw[hd]at h';cases h'
  |some ns =>
   cases ds with
   |cons e es=>rw[hd]at h';cases h'
   |nil =>
    rw[hd]at h'
    cases h'
    unfold Codec.decList at hd
    split at hd
    ·rename_i dl
     split at hd
     ·rename_i hl
      have e:=Ko hd
      subst e
      refine⟨rfl,?_⟩
      have hl:Codec.inNat 0 16000 (ns.map WData.int).length=true:=hl
      unfold Codec.inNat at hl
      simp only[and_eq_true,decide_eq_true_eq,length_map]at hl
      exact hl.2
     ·cases hd
    ·cases hd
theorem Ec:∀{a b:List Int},a.map WData.int=b.map WData.int→a=b
 | [],[],_=>rfl
 | [],_::_,h=>by cases h
 |_::_,[],h=>by cases h
 |x::a,y::b,h=>by
  rw[map_cons,map_cons]at h
  injection h with h1 h2
  injection h1 with h1
  rw[h1,Ec h2]
theorem acp (args:List WData) (h:rr.pre args=true):∃ns:List Int,args=[.list (ns.map .int)]∧ns.length≤16000∧PyRc31.answers_asked ns=true:=by
 unfold OpenSpec.pre at h
 cases hd:Codec.decAll rr.args args with
 |none=>rw[hd]at h;cases h
 |some x =>
  rw[hd]at h
  obtain⟨e,l⟩:=Wf hd
  exact⟨x.1,e,l,h⟩
theorem YW (ns:List Int) (h:rr.pre [.list (ns.map .int)]=true):rr.post [.list (ns.map .int)] (.list ((PyRc31.answers ns).map .int))=true:=by
 unfold OpenSpec.pre at h
 unfold OpenSpec.post
 cases hd:Codec.decAll rr.args [.list (ns.map .int)] with
 |none=>rw[hd]at h;cases h
 |some x =>
  obtain⟨e,l⟩:=Wf hd
  have e2:ns=x.1:=Ec (by injection e with e _;injection e)
  show same _ (rr.ret.enc (PyRc31.answers x.1))=true
  rw[←e2]
  exact same_iff.mpr rfl
theorem Wg {ns:List Int} (h:PyRc31.answers_asked ns=true):∃cs,PyFlat.calls PyRc31.shape ns.length ns=some cs∧(∀cc∈cs,Rc31Neutral.asked1 (PyRc31.whole cc)=true)∧MX.cost cs≤700000∧PyRc31.answers ns=MX.Z8 {} cs:=by
 unfold PyRc31.answers_asked at h
 unfold PyRc31.answers
 unfold PyRc31.calls at h ⊢
 cases hc:PyFlat.calls PyRc31.shape ns.length ns with
 |none=>rw[hc]at h;cases h
 |some cs =>
  rw[hc]at h
  simp only[and_eq_true]at h
  obtain⟨h1,h2⟩:=h
  unfold Rc31Neutral.asked at h2
  simp only[and_eq_true,decide_eq_true_eq,all_eq_true,mem_map,forall_exists_index,and_imp,forall_apply_eq_imp_iff₂,length_map]at h2
  obtain⟨⟨h3,h4,h5⟩,_⟩:=h2
  refine⟨cs,rfl,h3,?_,rfl⟩
  rw[MX.Wb]
  lia
theorem acq {P:Program} {w:World} {fs:List Env} {H:Hp} {s:Shared} {e:Value} {s':Shared} (h:ua P w fs H s (fun _ _ _=>False) e s'):False:=by
 obtain⟨_,_,_,_,_,_,_,_,_,_,_,_,_,q⟩:=h
 exact q
theorem Wh {n:Nat} {q:Program} {loose:List Str} {XP:(Str→Option Value)→Heap→Prop} {YP:World→Heap→Prop} {d:DefRec} {K:Params→PySem.W.Frag} (hn:1≤n) (hdf:d.params.defaults=[]) (hdn:d.name = "answers") (hr:ig (n+2) callerA)
 (hY:∀(w:World) (h:Heap),YP w h→(K w.params).In h)
 (TX:∀(w:World) (mg:Str→Option Value) (h:Heap),(K w.params).In h→h.Ns mainGlobals mg→∃a,Tx (K w.params) mg a)
 (D:∀a:Ad,DI a)
 (OA:∀(w:World) (mg:Str→Option Value) (base:Heap) (a:Ad),Tx (K w.params) mg a→Pr ⟨rr.prog,w,K w.params,mg,base⟩ n a.answer ["desk","call"] (wo a (D a))) :
 PySem.W.WalkOS q loose XP YP rr d [] (fun f vs=>PySem.call f vs):=by
 refine We (r:=rr) (n:=16000) (k:=n+2) (x := "calls") (K:=K) (CX:=fun w=>ua rr.prog w) (sp:=fun w=>CW (K w.params)) (PRE:=fun ns=>PyRc31.answers_asked ns=true) (g:=PyRc31.answers) acp (fun ns h _=>YW ns h) (by decide) hdf hr hY (fun w mg fa h KX G hmg=>?_) (fun w H a ns hl hP hO hS=>?_) fun w H s e s' h=>acq h
 ·obtain⟨a,T⟩:=TX w mg h KX G
  have e0:(Value.ref fa) = .ref a.answers:=Option.some.inj ((show mg "answers" = some (.ref fa) by rw[←hdn];exact hmg).symm.trans T.JY)
  cases e0
  obtain⟨fd,F,_⟩:=T.Co
  obtain⟨oc,od,kV,doc,pm,an,b6,ct,JI,rfl,lk,WK⟩:=F.ex
  refine⟨PySem.W.fnOf "answers" "answers" (gZ nE) (fQ nE) (ao nE) .none kV doc pm an b6 ct,fun s u=>.of_eq rfl,fun base kb nb=>?_⟩
  have T':Tx (Gm.K ⟨rr.prog,w,K w.params,mg,base⟩) (Gm.mg ⟨rr.prog,w,K w.params,mg,base⟩) a:=T
  obtain⟨fd',F',_,_,oc',od',ahF,lk'⟩:=QH hn T' (D a) (OA w mg base a T)
  rw[lk]at lk'
  cases lk'
  exact F'
 ·obtain⟨cs,h1,h2,h3,h4⟩:=Wg hP
  exact⟨a,ns,cs,rfl,hS,h1,h2,h3,fun l H' hl=>⟨l,rfl,by rw[h4];exact hl⟩⟩
end MI
namespace MI
open PySem L2
def RW (fb:List UInt8) (at_ p v j:Nat):List UInt8:=fb.mapIdx fun k c=>if p≤at_+k∧at_+k<p+j then ofNat (v/256^(at_+k-p)%256) else c
theorem tq (fb:List UInt8) (at_ p v j k:Nat):(RW fb at_ p v j)[k]?=(fb[k]?).map fun c=>if p≤at_+k∧at_+k<p+j then ofNat (v/256^(at_+k-p)%256) else c:=by
 unfold RW
 rw[List.getElem?_mapIdx]
theorem Mq (fb:List UInt8) (at_ p v j:Nat):(RW fb at_ p v j).length=fb.length:=by
 unfold RW
 rw[List.length_mapIdx]
theorem Wi (fb:List UInt8) (at_ p v:Nat):RW fb at_ p v 0=fb:=by
 refine ext_getElem? fun k=>?_
 rw[tq]
 cases fb[k]? with
 |none=>rfl
 |some c =>
  show some (if _ then _ else c)=some c
  rw[IN (by lia)]
theorem RX {fb:List UInt8} {at_ p v j:Nat} (h:∀K,K<fb.length→at_+K≠p+j):RW fb at_ p v (j+1)=RW fb at_ p v j:=by
 refine ext_getElem? fun k=>?_
 rw[tq,tq]
 by_cases hk:k<fb.length
 ·have:=h k hk
  have e:(p≤at_+k∧at_+k<p+(j+1))=(p≤at_+k∧at_+k<p+j):=propext (by lia)
  simp only[e]
 ·rw[getElem?_eq_none (by lia)]
  rfl
theorem acr {fb:List UInt8} {at_ p v j K:Nat} (hK:K<fb.length) (h:at_+K=p+j):bv (RW fb at_ p v (j+1))=(bv (RW fb at_ p v j)).set K (V.int ((v/256^j%256:Nat):Int)):=by
 refine ext_getElem? fun k=>?_
 rw[zA,List.getElem?_set,zA,tq,tq,bt,Mq]
 by_cases hk:K=k
 ·subst hk
  rw[iPp rfl,iPp hK,getElem?_eq_getElem hK]
  show some (V.int ((if _ then _ else _:UInt8).toNat:Int))=_
  rw[iPp (by lia),show at_+K-p=j by lia,MX.QC]
 ·rw[IN hk]
  have e:(p≤at_+k∧at_+k<p+(j+1))=(p≤at_+k∧at_+k<p+j):=propext (by lia)
  simp only[e]
section
variable {g:Gm} {a:Ad}
def Ou (m:List UInt8) (p base kG:Nat):Nat:=((((Rc31.num m p 8:Nat):Int)+(base:Int)-(kG:Int))%18446744073709551616).toNat
inductive Kq (vs:List V) (H:Hp) (Q:VK) (E:XK):Prop
 |mk (fl:Addr) (fb:List UInt8) (p at_ v:Nat) (q0:vs=[.ref fl,.int ((p:Int)-(at_:Int)),.int (v:Int)]) (q1:H fl=some (.lst (bv fb))) (q2:at_<2^60) (q3:p<2^60) (q4:∀H',H' fl=some (.lst (bv (RW fb at_ p v 8)))→Kp (At fl) H H'→Q .dh H'):Kq  vs H Q E
theorem Ed (T:Tx g.K g.mg a):Pr g 1 a.FX ["row","at","value"] Kq:=by
 refine Pr.on T.F4 uK fun b6 A outer s H vs Q E hr h=>?_
 obtain⟨fl,fb,p,at_,v,rfl,hf,hat,hp,k⟩:=h
 refine⟨_,ag (ma tX rfl (JA rfl T.sk (aa (pv 1) (aa (aO cq (pv 1) (pk T.mr)) ai))) (dJ (i:=3) uK.nd rfl (Or.inl rfl)) (ae (dt (Fs iO nH ak (pv 3) (aV aJ (by rfl) T.eO boot_len (aa (pv 0) ai))) (ag (Uh (aO jJ (pv 2) ak) (Ug (pv 0) (pv 3) set_list))) gz)
  (ag (ON (i:=2) uK.nd rfl (Or.inl rfl) ak Uj)))),?_⟩
 refine⟨_,rfl,_,rfl,_,_,rfl,rfl,_,_,rfl,⟨by lia,by lia,by lia,by lia⟩,qx (lo:=(p:Int)-(at_:Int)) (n:=((p:Int)-(at_:Int)+8-((p:Int)-(at_:Int))).toNat) (fun j σ H2=>∃v3,σ=[some (.ref fl),some (.int ((p:Int)-(at_:Int))),some (.int ((v/256^j:Nat):Int)),v3]∧H2 fl=some (.lst (bv (RW fb at_ p v j)))∧Kp (At fl) H H2) ⟨none,by rw[pow_zero,Nat.div_one];rfl,by rw[Wi];exact hf,Kp.refl⟩ ?_ ?_⟩
 ·rintro j σ H2 hj ⟨v5,rfl,hF,kp⟩
  have hd:(((v/256^j:Nat):Int)/256)=((v/256^(j+1):Nat):Int):=by
   rw[pow_succ,←Nat.div_div_eq_div_mul]
   lia
  have hm:(((v/256^j:Nat):Int)%256)=((v/256^j%256:Nat):Int):=by lia
  have aiD:((bv (RW fb at_ p v j)).length:Int)=(fb.length:Int):=by rw[bt,Mq]
  refine⟨_,rfl,_,_,rfl,rfl,_,rfl,?_⟩
  refine aw (fun c1=>?_) fun c1=>⟨false,rfl,eA ⟨_,rfl,_,_,rfl,rfl,⟨(by decide:(0:Int)<256),(by decide:(256:Int)<1073741824)⟩,_,by rw[←hd];rfl,by rw[RX (fun K hK=>by lia)];exact hF,kp⟩⟩
  refine⟨_,rfl,fl,_,rfl,.inl (bP.of hF),_,_,rfl,rfl,_,rfl,?_⟩
  rw[aiD]
  refine aw (fun c2=>?_) fun c2=>⟨_,rfl,_,_,rfl,rfl,⟨(by decide:(0:Int)<256),(by decide:(256:Int)<1073741824)⟩,_,by rw[←hd];rfl,by rw[RX (fun K hK=>by lia)];exact hF,kp⟩
  obtain⟨K,hK⟩:∃K:Nat,(p:Int)-(at_:Int)+(j:Int)=(K:Int):=⟨((p:Int)-(at_:Int)+(j:Int)).toNat,by lia⟩
  have hKl:K<fb.length:=by lia
  refine⟨_,rfl,_,_,rfl,rfl,(by show(0:Int)<256;decide),_,rfl,_,rfl,fl,_,_,K,rfl,rfl,hF,?_,?_⟩
  ·unfold Uu
   rw[bt,Mq,iPp (by lia),iPp (by lia)]
   congr 1
   lia
  ·refine⟨_,rfl,_,_,rfl,rfl,⟨(by decide:(0:Int)<256),(by decide:(256:Int)<1073741824)⟩,_,by rw[←hd];rfl,?_,?_⟩
   ·rw[af,acr hKl (by lia),←hm]
   ·exact kp.step (Kp.upd (S:=At fl) (.inl rfl)) fun _ z=>.inl z
 ·rintro σ H2 ⟨v5,rfl,hF,kp⟩
  rw[show((p:Int)-(at_:Int)+8-((p:Int)-(at_:Int))).toNat=8 by lia]at hF
  exact k H2 hF kp
inductive BL (a:Ad) (vs:List V) (H:Hp) (Q:VK) (E:XK):Prop
 |mk (x dx hl gr dg:Addr) (fs fg:List (Str×V)) (m:List UInt8) (p:Nat) (base kG:Nat) (q0:vs=[.ref x,.int (p:Int)]) (q1:H x=some (.ins a.bS dx fs)) (q2:fs.lookup ("held" : Str)=some (.ref hl)) (q3:fs.lookup ("base" : Str)=some (.int (base:Int))) (q4:fs.lookup ("ground" : Str)=some (.ref gr)) (q5:H gr=some (.ins a.c9 dg fg)) (q6:fg.lookup ("home" : Str)=some (.int (kG:Int))) (q7:H hl=some (.lst (bv m))) (q8:∀H',ax H H'→Q (.int (Ou m p base kG:Nat)) H'):BL a vs H Q E
theorem wu (T:Tx g.K g.mg a):Pr g 2 a.jS ["self","place"] (BL a):=by
 refine Pr.on T.mB uL fun b6 A outer s H vs Q E hr h=>?_
 obtain⟨x,dx,hl,gr,dg,fs,fg,m,p,base,kG,rfl,hx,f1,f2,f3,hg,f4,hh,k⟩:=h
 refine⟨_,ag (aS (aO jJ (aO gA (aO cq (aU (cw T) au hr (by decide) T.a8 (aa (ar (pv 0) rfl) (aa (pv 1) (aa (pk T.mr) ai)))) (ar (pv 0) rfl)) (ar (ar (pv 0) rfl) rfl)) (pk T.gU))),?_⟩
 refine⟨_,rfl,x,_,dx,_,_,rfl,hx,T.ba,T.fH,f1,_,rfl,hl,m,p,8,rfl,hh,fun H1 s1=>?_⟩
 refine⟨_,rfl,x,_,dx,_,_,rfl,s1 _ _ hx,T.ba,T.fG,f2,_,_,rfl,rfl,_,rfl,x,_,dx,_,_,rfl,s1 _ _ hx,T.ba,T.dQ,f3,gr,_,dg,_,_,rfl,s1 _ _ hg,T.bI,T.cH,f4,_,_,rfl,rfl,_,_,rfl,rfl,(by show(0:Int)<18446744073709551616;decide),?_⟩
 have ev:((((Rc31.num m p 8:Nat):Int)+(base:Int)-(kG:Int))%18446744073709551616)=((Ou m p base kG:Nat):Int):=by
  unfold Ou
  lia
 have:=k H1 s1
 rw[←ev]at this
 exact this
end
open Rc31
def YX (m:List UInt8) (l:List Nat) (V:Nat→Nat) (at_ n:Nat) (z:Int):List UInt8:=((m.drop at_).take n).mapIdx fun k c=>match MX.wordOf l (at_+k) with
 |some i=>if (i:Int)<z then ofNat (V i/256^(at_+k-i)%256) else c
 |none=>c
section
variable {m:List UInt8} {l:List Nat} {V:Nat→Nat} {at_ n:Nat} {z:Int}
theorem wL (k:Nat):(YX m l V at_ n z)[k]?=(((m.drop at_).take n)[k]?).map fun c=>match MX.wordOf l (at_+k) with
 |some i=>if (i:Int)<z then ofNat (V i/256^(at_+k-i)%256) else c
 |none=>c:=by
 unfold YX
 rw[List.getElem?_mapIdx]
theorem BM {k i:Nat} (h:MX.wordOf l k=some i):i∈l∧i≤k∧k<i+8:=by
 have hc:=find?_some h
 simp only[decide_eq_true_eq]at hc
 exact⟨mem_of_find?_eq_some h,hc⟩
theorem Wj (hz:z≤(at_:Int)-7):YX m l V at_ n z=(m.drop at_).take n:=by
 refine ext_getElem? fun k=>?_
 rw[wL]
 cases((m.drop at_).take n)[k]? with
 |none=>rfl
 |some c =>
  show some _=some c
  congr 1
  cases hw:MX.wordOf l (at_+k) with
  |none=>rfl
  |some i =>
   have:=BM hw
   show(if (i:Int)<z then _ else c)=c
   rw[IN (by lia)]
theorem YY (h:∀i∈l,(i:Int)≠z):YX m l V at_ n (z+1)=YX m l V at_ n z:=by
 refine ext_getElem? fun k=>?_
 rw[wL,wL]
 cases hw:MX.wordOf l (at_+k) with
 |none=>rfl
 |some i =>
  have h1:=h i (BM hw).1
  have e:((i:Int)<z+1)=((i:Int)<z):=propext (by lia)
  simp only[e]
theorem acs (hd:distant l=true) {p:Nat} (hp:p∈l) (hz:z=(p:Int)):YX m l V at_ n (z+1)=RW (YX m l V at_ n z) at_ p (V p) 8:=by
 refine ext_getElem? fun k=>?_
 rw[tq,wL,wL,Option.map_map]
 congr 1
 funext c
 show _=if p≤at_+k∧at_+k<p+8 then _ else _
 by_cases hk:p≤at_+k∧at_+k<p+8
 ·rw[iPp hk,MX.Km hd hp hk.1 hk.2]
  show(if (p:Int)<z+1 then _ else c)=_
  rw[iPp (by lia)]
 ·rw[IN hk]
  cases hw:MX.wordOf l (at_+k) with
  |none=>rfl
  |some i =>
   have h1:=BM hw
   have ne:i≠p:=fun q=>hk (by rw[←q];exact h1.2)
   have e:((i:Int)<z+1)=((i:Int)<z):=propext (by lia)
   simp only[e]
theorem YZ {d:Nat} (hd:distant l=true) (hl:∀i∈l,i+8≤m.length) (hV:∀i,V i=(num m i 8+d)%W64) (hz:(at_:Int)+(((m.drop at_).take n).length:Int)≤z):YX m l V at_ n z=((mended m d l).drop at_).take n:=by
 obtain⟨g1,g2⟩:=MX.fM l m d hd hl
 refine ext_getElem? fun k=>?_
 have eR:(((mended m d l).drop at_).take n)[k]?=if k<n then MX.YT m d l (at_+k) else none:=by rw[getElem?_take,getElem?_drop,g2]
 rw[wL,eR]
 by_cases hk:k<n
 ·rw[iPp hk]
  unfold MX.YT
  have e0:((m.drop at_).take n)[k]?=m[at_+k]?:=by rw[getElem?_take,iPp hk,getElem?_drop]
  by_cases UP:at_+k<m.length
  ·have hlen:k<((m.drop at_).take n).length:=by rw[length_take,length_drop];lia
   rw[e0,getElem?_eq_getElem UP]
   cases hw:MX.wordOf l (at_+k) with
   |none=>rfl
   |some i =>
    have h1:=BM hw
    show some (if (i:Int)<z then _ else _)=(Rc31.le 8 ((num m i 8+d)%W64))[at_+k-i]?
    rw[iPp (by lia),←hV i]
    unfold Rc31.le
    rw[getElem?_map,List.getElem?_range (by lia)]
    rfl
  ·rw[e0,getElem?_eq_none (by lia)]
   cases hw:MX.wordOf l (at_+k) with
   |none=>rfl
   |some i =>
    have h1:=BM hw
    have h2:=hl i h1.1
    lia
 ·rw[IN hk,getElem?_take,IN hk]
  rfl
end
section
variable {g:Gm} {a:Ad}
inductive Kr (a:Ad) (vs:List V) (H:Hp) (Q:VK) (E:XK):Prop
 |mk (x dx hl md gr dg:Addr) (fs fg:List (Str×V)) (aZ:List (Key×V)) (m:List UInt8) (l:List Nat) (at_ base kG d:Nat) (most:Int) (q0:vs=[.ref x,.int (at_:Int),.int most]) (q1:H x=some (.ins a.bS dx fs)) (q2:fs.lookup ("held" : Str)=some (.ref hl)) (q3:fs.lookup ("base" : Str)=some (.int (base:Int))) (q4:fs.lookup ("ground" : Str)=some (.ref gr)) (q5:H gr=some (.ins a.c9 dg fg)) (q6:fg.lookup ("home" : Str)=some (.int (kG:Int))) (q7:fs.lookup ("mended" : Str)=some (.ref md)) (q8:fs.lookup ("mended_word" : Str)=none) (q9:H hl=some (.lst (bv m))) (q10:H md=some (.dK aZ)) (q11:(∀z:Int,(jt aZ (Sum.inl z)).isSome=decide (∃p∈l,(p:Int)=z))) (q12:distant l=true) (q13:(∀i∈l,i+8≤m.length)) (q14:m.length≤4194304) (q15:(∀i,Ou m i base kG=(num m i 8+d)%W64)) (q16:at_<2^40) (q17:∀tl H',H' tl=some (.lst (bv (((mended m d l).drop at_).take (room_ most))))→H tl=none→ax H H'→Q (.ref tl) H'):Kr a vs H Q E
theorem Jr (T:Tx g.K g.mg a):Pr g 3 a.yV ["self","at","most"] (Kr a):=by
 refine Pr.on T.Az p6 fun b6 A outer s H vs Q E hr h=>?_
 obtain⟨x,dx,hl,md,gr,dg,fs,fg,aZ,m,l,at_,base,kG,d,most,rfl,hx,f1,f2,f3,hgr,f6,f4,f5,hh,hmd,V8,hdi,hli,Mw,hV,hat,k⟩:=h
 refine⟨_,ae (dt (KC (Fs iO iO ak (pv 2) (pk T.DP))) (ag (aS (cy ai))) gz)
  (ae (aI (i:=3) p6.nd rfl (Or.inl rfl) (jL m4 (ar (pv 0) rfl) (gY (pv 1)) (gY (aO cq (pv 1) (pv 2)))))
  (ae (ma tX rfl (JA rfl T.sk (aa (aO gA (pv 1) ak) (aa (aO cq (pv 1) (aV aJ (by rfl) T.eO boot_len (aa (pv 3) ai))) ai))) (dJ (i:=4) p6.nd rfl (Or.inl rfl)) (ag (dt (BS (aaY (FL hr) (pv 4) (ar (pv 0) rfl))) (ag (aR (aU (Ed T) au hr (by decide) T.yZ (aa (pv 3) (aa (aO gA (pv 4) (pv 1)) (aa (cN (pv 0) (wu T) T.ba T.mM au hr (by decide) (aa (pv 4) ai)) ai)))))) gz)))
  (ag (aS (pv 3))))),?_⟩
 have empty:¬(1≤most∧most≤4194304)→∀tl,H tl=none→Q (.ref tl) (upd H tl (.lst [])):=fun hn tl ht=>by
  refine k tl _ ?_ ht (ax.upd ht)
  have e:room_ most=0:=by
   unfold room_
   rw[IN (show ¬(1≤most∧most≤((MOST:Nat):Int)) from hn)]
  rw[af,e]
  rfl
 refine⟨_,rfl,_,_,rfl,rfl,_,rfl,?_⟩
 refine aw (fun c1=>?_) fun c1=>⟨false,rfl,iE ⟨zero_le _,empty fun z=>c1 z.1⟩⟩
 refine⟨_,_,rfl,rfl,_,rfl,?_⟩
 by_cases c2:¬most≤4194304
 ·have e2:decide (most≤(4194304:Int))=false:=decide_eq_false c2
  rw[e2]
  exact iE ⟨zero_le _,empty fun z=>c2 z.2⟩
 ·have c2:most≤4194304:=Classical.not_not.mp c2
  have e2:decide (most≤(4194304:Int))=true:=decide_eq_true c2
  rw[e2]
  obtain⟨n,rfl⟩:∃n:Nat,most=(n:Int):=⟨most.toNat,by lia⟩
  have er:room_ (n:Int)=n:=by
   unfold room_
   rw[iPp (show 1≤(n:Int)∧(n:Int)≤((MOST:Nat):Int) from ⟨c1,c2⟩)]
   rfl
  rw[er]at k
  refine eA ⟨_,rfl,x,_,dx,_,_,rfl,hx,T.ba,T.fH,f1,_,rfl,_,rfl,_,rfl,_,rfl,_,_,rfl,rfl,_,rfl,hl,_,rfl,bP.of hh,fun fl Tb=>?_⟩
  rw[LP]
  have s1:ax H (upd H fl (.lst (bv ((m.drop at_).take n)))):=ax.upd Tb
  have OJ:upd H fl (.lst (bv ((m.drop at_).take n))) fl=some (.lst (bv ((m.drop at_).take n))):=af
  generalize upd H fl (.lst (bv ((m.drop at_).take n)))=H1 at *
  have anS:((m.drop at_).take n).length≤m.length:=by rw[length_take,length_drop];lia
  refine⟨_,rfl,_,_,rfl,rfl,_,rfl,_,rfl,fl,_,rfl,.inl (bP.of OJ),_,_,rfl,rfl,_,_,rfl,?_,?_⟩
  ·rw[bt]
   exact⟨by lia,by lia,by lia,by lia⟩
  rw[bt]
  refine qx (lo:=(at_:Int)-7) (n:=((at_:Int)+(((m.drop at_).take n).length:Int)-((at_:Int)-7)).toNat) (fun j σ H2=>∃v4,σ=[some (.ref x),some (.int (at_:Int)),some (.int (n:Int)),some (.ref fl),v4]∧H2 fl=some (.lst (bv (YX m l (fun i=>Ou m i base kG) at_ n ((at_:Int)-7+(j:Int)))))∧ax H H2) ⟨none,rfl,?_,s1⟩ ?_ ?_
  ·rw[Wj (by lia)]
   exact OJ
  ·rintro j σ H2 hj ⟨v4,rfl,hF,sH⟩
   have WQ:=sH _ _ hx
   refine⟨_,rfl,_,rfl,x,_,dx,_,_,rfl,WQ,T.ba,T.fh,f4,md,_,rfl,wM.k (k:=Sum.inl ((at_:Int)-7+(j:Int))) (sH _ _ hmd),_,rfl,?_⟩
   rw[V8]
   have ej:(at_:Int)-7+((j+1:Nat):Int)=((at_:Int)-7+(j:Int))+1:=by lia
   refine aw (fun hp=>?_) fun hp=>⟨_,rfl,by rw[ej,YY fun i hi e=>hp ⟨i,hi,e⟩];exact hF,sH⟩
   obtain⟨p,oM,hpz⟩:=hp
   have hp8:=hli p oM
   refine⟨_,rfl,_,rfl,_,rfl,_,_,rfl,rfl,_,rfl,x,dx,_,rfl,WQ,f5,_,rfl,x,dx,hl,gr,dg,fs,fg,m,p,base,kG,?_,WQ,f1,f2,f3,sH _ _ hgr,f6,sH _ _ hh,fun H3 s3=>⟨fl,_,p,at_,Ou m p base kG,?_,s3 _ _ hF,by lia,by lia,fun H4 hF4 k4=>?_⟩⟩
   ·rw[hpz]
    rfl
   ·rw[hpz]
    rfl
   ·refine⟨_,rfl,?_,wK (sH.trans s3) k4 fun b hb=>by rw[show b=fl from hb];exact Tb⟩
    rw[hF4,ej,acs hdi oM hpz.symm]
  ·rintro σ H2 ⟨v4,rfl,hF,sH⟩
   refine⟨_,rfl,k fl H2 ?_ Tb sH⟩
   rw[hF,YZ (d:=d) hdi hli hV (by lia)]
inductive Ov (a:Ad) (vs:List V) (H:Hp) (Q:VK) (E:XK):Prop
 |mk (x dx:Addr) (fs:List (Str×V)) (b:Nat) (q0:vs=[.ref x,.int (b:Int)]) (q1:H x=some (.ins a.bS dx fs)) (q2:fs.length<1000) (q3:(b%4096≠0∨2^47≤b+MOST→E (.ref a.dM) none H)) (q4:(¬(b%4096≠0∨2^47≤b+MOST)→Q .dh (upd H x (.ins a.bS dx (aF "base" (.int (b:Int)) fs))))):Ov a vs H Q E
theorem Mr (T:Tx g.K g.mg a):Pr g 1 a.Cg ["self","base"] (Ov a):=by
 refine Pr.on T.DC KZ fun b6 A outer s H vs Q E hr h=>?_
 obtain⟨x,dx,fs,b,rfl,hx,hl,k0,k1⟩:=h
 refine⟨_,ae (dt (PW.pt (adi (bH Ul (aO jJ (pv 1) (pk T.Gb)) ak (aC _)) (aap (bH zV (aO cq (pv 1) (pk T.sj)) (pk T.U6) (aC _))))) (ag (nK T.Cq rfl rF rfl)) gz)
  (ag (aT (pv 0) (pv 1) rfl)),?_⟩
 have hM:MOST=4194304:=rfl
 rw[hM]at k0 k1
 refine⟨_,rfl,_,_,rfl,rfl,(by show(0:Int)<4096;decide),rfl,_,rfl,?_⟩
 have ne:(!decide (V.int ((b:Int)%4096)=V.int 0))=decide (b%4096≠0):=by
  by_cases q:b%4096=0
  ·have e1:V.int ((b:Int)%4096)=V.int 0:=by congr 1;lia
   have e2:¬(b%4096≠0):=fun z=>z q
   rw[decide_eq_true e1,decide_eq_false e2]
   rfl
  ·have e1:¬V.int ((b:Int)%4096)=V.int 0:=fun z=>by injection z with z;lia
   have e2:b%4096≠0:=q
   rw[decide_eq_false e1,decide_eq_true e2]
   rfl
 show if (!decide (V.int ((b:Int)%4096)=V.int 0))=true then _ else _
 rw[ne]
 refine aw (fun c1=>?_) fun c1=>?_
 ·exact k0 (.inl c1)
 ·refine⟨_,rfl,_,_,rfl,rfl,_,_,rfl,rfl,_,rfl,?_⟩
  generalize hb:decide ((140737488355328:Int)≤(b:Int)+4194304)=bb
  cases bb with
  |true =>
   have:=of_decide_eq_true hb
   exact iE (k0 (.inr (by lia)))
  |false =>
   have:=of_decide_eq_false hb
   refine eA ⟨_,rfl,_,rfl,x,_,dx,_,rfl,hx,T.ba,T.fG,hl,k1 (fun z=>z.elim (fun z=>c1 z) fun z=>by lia)⟩
end
end MI
namespace MI
open Rc31
def dF (t:Told):Dir×Dir×Dir:=t.info.getD ((0,0),(0,0),(0,0))
theorem HG {b:Bytes} {d:Dir} (h:MX.rh b d):(part b d).length=d.2:=by
 unfold part
 rw[length_take,length_drop]
 unfold MX.rh at h
 lia
theorem RY {b:Bytes} {t:Told} (T:TG b t):MX.rh b (dF t).1∧MX.rh b (dF t).2.1∧MX.rh b (dF t).2.2:=by
 unfold dF
 cases h:t.info with
 |none=>exact⟨zero_le _,zero_le _,zero_le _⟩
 |some d=>exact T.ok.info d h
theorem TQ (u:Wn):(eY u).map (fun w=>w.word)=wm u.r:=by
 unfold eY
 rw[map_map]
 exact map_id _
theorem zL (ws:List Wn):(ws.flatMap eY).map (fun w=>w.word)=outs (ws.map fun u=>u.r):=by
 unfold outs
 induction ws with
 |nil=>rfl
 |cons u ws ih =>
  rw[flatMap_cons,map_append,ih,TQ,map_cons,flatMap_cons]
theorem BN (a b:List Rn):outs (a++b)=outs a++outs b:=by
 unfold outs
 rw[flatMap_append]
structure aiF (b:Bytes) (t:Told):Prop where
 noM:v9 t (part b (dF t).1)=none→image b=none
 noB:wg t (part b (dF t).2.1)=none→image b=none
 noG:gives (part b (dF t).2.2) t.size=none→image b=none
 noD:∀rs ws,v9 t (part b (dF t).1)=some rs→wg t (part b (dF t).2.1)=some ws→distant (outs (rs++ws.map fun u=>u.r))=false→image b=none
 yes:∀rs ws g,v9 t (part b (dF t).1)=some rs→wg t (part b (dF t).2.1)=some ws→gives (part b (dF t).2.2) t.size=some g→distant (outs (rs++ws.map fun u=>u.r))=true→image b=some ⟨t,laid b t,outs rs,ws.flatMap eY,g⟩
 okM:∀rs,v9 t (part b (dF t).1)=some rs→∀r∈rs,xA t r
 okB:∀ws,wg t (part b (dF t).2.1)=some ws→∀u∈ws,Tu t u
theorem Y0 {b:Bytes} {t:Told} (h:toldOf b=some t) (T:TG b t):aiF b t:=by
 obtain⟨d1,d2,d3⟩:=RY T
 obtain⟨m1,m2⟩:=Tt T.tok (part b (dF t).1) (dF t).1.2 (HG d1).symm
 obtain⟨b1,b2⟩:=Tz T.tok (part b (dF t).2.1) (dF t).2.1.2 (HG d2).symm
 have e:image b=(mends t ((dF t).1.2+1) {} (part b (dF t).1)).bind fun ms=>(binds t ((dF t).2.1.2+1) {} (part b (dF t).2.1)).bind fun ws=>(gives (part b (dF t).2.2) t.size).bind fun g =>
  if distant (ms++ws.map fun w=>w.word)=true then some ⟨t,laid b t,ms,ws,g⟩ else none:=by
  unfold image
  rw[h]
  rfl
 have fin:∀ms ws (g:List (Bytes×Nat)),distant (ms++ws.map fun w=>w.word)=false→(if distant (ms++ws.map fun w=>w.word)=true then some (⟨t,laid b t,ms,ws,g⟩:Image) else none)=none:=fun ms ws g q=>by rw[q];rfl
 refine⟨fun hm=>?_,fun hb=>?_,fun hg=>?_,fun rs ws hm hb hd=>?_,fun rs ws g hm hb hg hd=>?_,fun rs hm=>(m1 rs hm).2,fun ws hb=>(b1 ws hb).2⟩
 ·rw[e]
  cases hms:mends t ((dF t).1.2+1) {} (part b (dF t).1) with
  |none=>rfl
  |some ms =>
   have hd:=m2 hm ms hms
   show(binds t ((dF t).2.1.2+1) {} (part b (dF t).2.1)).bind _=none
   cases binds t ((dF t).2.1.2+1) {} (part b (dF t).2.1) with
   |none=>rfl
   |some ws =>
    show(gives (part b (dF t).2.2) t.size).bind _=none
    cases gives (part b (dF t).2.2) t.size with
    |none=>rfl
    |some g=>exact fin _ _ _ (MX.kx hd).1
 ·rw[e]
  cases hms:mends t ((dF t).1.2+1) {} (part b (dF t).1) with
  |none=>rfl
  |some ms =>
   show(binds t ((dF t).2.1.2+1) {} (part b (dF t).2.1)).bind _=none
   cases hbs:binds t ((dF t).2.1.2+1) {} (part b (dF t).2.1) with
   |none=>rfl
   |some ws =>
    have hd:=b2 hb ws hbs
    show(gives (part b (dF t).2.2) t.size).bind _=none
    cases gives (part b (dF t).2.2) t.size with
    |none=>rfl
    |some g=>exact fin _ _ _ (MX.kx hd).2
 ·rw[e,hg]
  cases mends t ((dF t).1.2+1) {} (part b (dF t).1) with
  |none=>rfl
  |some ms =>
   show(binds t ((dF t).2.1.2+1) {} (part b (dF t).2.1)).bind _=none
   cases binds t ((dF t).2.1.2+1) {} (part b (dF t).2.1) with
   |none=>rfl
   |some ws=>rfl
 ·rw[e,(m1 rs hm).1,(b1 ws hb).1]
  show(gives (part b (dF t).2.2) t.size).bind _=none
  cases gives (part b (dF t).2.2) t.size with
  |none=>rfl
  |some g =>
   refine fin _ _ _ ?_
   rw[zL,←hd,BN]
   rfl
 ·rw[e,(m1 rs hm).1,(b1 ws hb).1,hg]
  show(if _ then _ else _)=_
  rw[iPp]
  ·rfl
  ·rw[zL,←hd,BN]
   rfl
open PySem L2
inductive rm (a:Ad0) (libs:List (List UInt8)) (N:Addr→Prop) (hl x:Addr) (H:Hp) (y:Addr) (u:Wn):Prop
 |mk (dx:_) (xr:_) (dr:_) (nl:_) (ln:_) (q0:H y=some (.ins a.mi dx (so (.ref xr) (.int (u.wb:Int)) (.ref ln) (.ref nl) (.int (u.plus:Int))))) (q1:H xr=some (.ins a.tF dr (xX (.int (u.r.p:Int)) (.int (u.r.n:Int)) (.int (MX.aD u.r.n u.r.skip))))) (q2:H nl=some (.lst (bv u.name))) (q3:H ln=some (.lst (bv (libs.getD (u.wb-1) [])))) (q4:(N y∧N xr∧N nl∧N ln)∧y≠x∧xr≠x∧nl≠hl∧ln≠hl):rm a libs N hl x H y u
theorem rm.kept {a:Ad0} {libs:List (List UInt8)} {N:Addr→Prop} {hl x:Addr} {H H':Hp} {y:Addr} {u:Wn} (h:rm a libs N hl x H y u) (s:ax H H'):rm a libs N hl x H' y u:=by
 obtain⟨dx,xr,dr,nl,ln,h1,h2,h3,h4,r⟩:=h
 exact⟨dx,xr,dr,nl,ln,s _ _ h1,s _ _ h2,s _ _ h3,s _ _ h4,r⟩
theorem HH (u:Wn):(eY u).length=u.r.n:=by
 unfold eY
 rw[length_map,Of]
theorem Wl {u:Wn} {b:Nat} (h:b<u.r.n):(eY u)[b]?=some ⟨u.wb,u.name,u.plus,MX.bR u.r.p u.r.skip b⟩:=by
 unfold eY wm
 rw[getElem?_map,getElem?_map,List.getElem?_range h]
 rfl
theorem TR {ws:List Wn} {i b:Nat} {u:Wn} (hi:ws[i]?=some u) (h:b<u.r.n):(ws.flatMap eY)[((ws.take i).flatMap eY).length+b]?=some ⟨u.wb,u.name,u.plus,MX.bR u.r.p u.r.skip b⟩:=by
 obtain⟨oU,e⟩:=List.getElem?_eq_some_iff.mp hi
 have e2:ws=ws.take i++(u::ws.drop (i+1)):=by
  conv=>lhs;rw[←take_append_drop i ws]
  rw[drop_eq_getElem_cons oU,e]
 conv=>lhs;arg 1;rw[e2]
 rw[flatMap_append,flatMap_cons,getElem?_append_right (by lia),Nat.add_sub_cancel_left,getElem?_append_left (by rw[HH];exact h),Wl h]
theorem QJ {ws:List Wn} {i:Nat} {u:Wn} (hi:ws[i]?=some u):((ws.take (i+1)).flatMap eY).length=((ws.take i).flatMap eY).length+u.r.n:=by
 rw[gN hi,flatMap_append,length_append,flatMap_cons,length_append,HH]
 rfl
section
variable {g:Gm} {a:Ad}
inductive Ow (a:Ad) (vs:List V) (H:Hp) (Q:VK) (E:XK):Prop
 |mk (z dz y:Addr) (p:Int) (q0:vs=[.ref z,.int p,.ref y]) (q1:H z=some (.ins a.fq dz [])) (q2:∀H',H' z=some (.ins a.fq dz (ki (.int p) (.ref y)))→Kp (At z) H H'→Q .dh H'):Ow a vs H Q E
theorem zM (T:Tx g.K g.mg a):Pr g 1 a.mm ["self","place","want"] (Ow a):=by
 refine Pr.on T.o4 yN fun b6 A outer s H vs Q E hr h=>?_
 obtain⟨z,dz,y,p,rfl,hz,k⟩:=h
 refine⟨_,ae (aT (pv 0) (pv 1) rfl) (ag (aT (pv 0) (pv 2) rfl)),?_⟩
 refine⟨_,rfl,_,rfl,z,_,dz,_,rfl,hz,T.fF,T.dj,(by show 0<1000;decide),_,rfl,_,rfl,z,_,dz,_,rfl,af,T.fF,T.dB,pl1,?_⟩
 rw[bN,Ex]
 exact k _ af (Kp.upd (.inl rfl))
structure Ee (a:Ad) (H:Hp) (x dx wl:Addr) (fs:List (Str×V)) (wa:List Addr) (ws:List Wn) (t:Told) (N:Addr→Prop) (hl:Addr):Prop where
 ob:H x=some (.ins a.bS dx fs)
 f:fs.lookup ("wanted" : Str)=some (.ref wl)
 l:H wl=some (.lst (wa.map V.ref))
 pr:Paired (rm a.toAd0 t.libraries N hl x H) wa ws
 tok:MX.wJ t
 ok:∀u∈ws,Tu t u
theorem Ee.same {H H':Hp} {x dx wl:Addr} {fs:List (Str×V)} {wa:List Addr} {ws:List Wn} {t:Told} {N:Addr→Prop} {hl:Addr} (h:Ee a H x dx wl fs wa ws t N hl) (s:ax H H'):Ee a H' x dx wl fs wa ws t N hl :=
 ⟨s _ _ h.ob,h.f,s _ _ h.l,Paired.ud h.pr fun _ _ q=>q.kept s,h.tok,h.ok⟩
inductive BO (a:Ad) (vs:List V) (H:Hp) (Q:VK) (E:XK):Prop
 |mk (x dx wl:Addr) (fs:List (Str×V)) (wa:List Addr) (ws:List Wn) (t:Told) (N:Addr→Prop) (hl:Addr) (k:Int) (q0:vs=[.ref x,.int k]) (q1:Ee a H x dx wl fs wa ws t N hl) (q2:(¬(0≤k∧k<((ws.flatMap eY).length:Int))→∀H',ax H H'→E (.ref a.bM) none H')) (q3:∀(u:Wn) (y z dz:Addr) (p:Nat) (H':Hp),0≤k→u∈ws→rm a.toAd0 t.libraries N hl x H' y u→(ws.flatMap eY)[k.toNat]?=some ⟨u.wb,u.name,u.plus,p⟩→H' z=some (.ins a.fq dz (ki (.int (p:Int)) (.ref y)))→H z=none→ax H H'→Q (.ref z) H'):BO a vs H Q E
theorem l9 (T:Tx g.K g.mg a):Pr g 3 a.jU ["self","k"] (BO a):=by
 refine Pr.on T.mD fm fun b6 A outer s H vs Q E hr h=>?_
 obtain⟨x,dx,wl,fs,wa,ws,t,N,hl,kk,rfl,P,k0,k1⟩:=h
 refine⟨_,ae (aI (i:=2) fm.nd rfl (Or.inl rfl) (pv 1))
  (ae (ma tX rfl (lA (ar (pv 0) rfl)) (dJ (i:=3) fm.nd rfl (Or.inl rfl)) (ae (dt (Fs iO nH ak (pv 2) (ar (ar (pv 3) rfl) rfl)) (ag (aS (kT (zM T) T.lF au hr (by decide) T.AK (aa (cN (ar (pv 3) rfl) (iA T) T.dU T.fR au hr (by decide) (aa (pv 2) ai)) (aa (pv 3) ai))))) gz)
  (ag (ON (i:=2) fm.nd rfl (Or.inl rfl) (ar (ar (pv 3) rfl) rfl) aax))))
  (ag (nK T.vj rfl rF rfl))),?_⟩
 refine⟨_,rfl,_,rfl,x,_,dx,_,_,rfl,P.ob,T.ba,T.fi,P.f,wl,rfl,⟨_,bP.of P.l⟩,ug (K:=g.K) (a:=wl) (xs:=wa.map V.ref) (fun i σ H2=>∃v3,σ=[some (.ref x),some (.int kk),some (.int (kk-(((ws.take i).flatMap eY).length:Int))),v3]∧H2=H∧(0≤kk→(((ws.take i).flatMap eY).length:Int)≤kk)) ⟨none,?_,rfl,fun q=>by simpa using q⟩ (fun i σ H2 _ ⟨_,_,e,_⟩=>by rw[e];exact bP.of P.l) ?_ ?_⟩
 ·rw[take_zero,List.flatMap_nil,length_nil,Int.natCast_zero,Int.sub_zero]
  rfl
 ·rintro i y σ H2 hy ⟨v3,rfl,rfl,hle⟩
  obtain⟨y,Z4,rfl⟩:=pJ hy
  obtain⟨u,hu,hW⟩:=iB P.pr Z4
  obtain⟨HU,xr,dr,nl,ln,h1,h2,h3,h4,hN,HP⟩:=id hW
  have hum:u∈ws:=mem_of_getElem? hu
  have hsn:=QJ hu
  generalize hB:((ws.take i).flatMap eY).length=B at *
  have next:¬(0≤kk-(B:Int)∧kk-(B:Int)<(u.r.n:Int))→∃v3,[some (V.ref x),some (.int kk),some (.int (kk-(B:Int)-(u.r.n:Int))),some (.ref y)]=[some (V.ref x),some (.int kk),some (.int (kk-(((ws.take (i+1)).flatMap eY).length:Int))),v3]∧H2=H2∧(0≤kk→(((ws.take (i+1)).flatMap eY).length:Int)≤kk):=fun zR=>by
   refine⟨some (.ref y),?_,rfl,fun q=>?_⟩
   ·rw[hsn,show kk-(B:Int)-(u.r.n:Int)=kk-((B+u.r.n:Nat):Int) by lia]
   ·have:=hle q
    rw[hsn]
    lia
  refine⟨_,rfl,_,_,rfl,rfl,_,rfl,?_⟩
  refine aw (fun c1=>?_) fun c1=>⟨false,rfl,eA ⟨_,rfl,_,rfl,y,_,HU,_,_,rfl,h1,T.eU,T.bC,dP,xr,_,dr,_,_,rfl,h2,T.dU,T.cK,gx,_,_,rfl,rfl,next fun z=>c1 z.1⟩⟩
  refine⟨_,rfl,y,_,HU,_,_,rfl,h1,T.eU,T.bC,dP,xr,_,dr,_,_,rfl,h2,T.dU,T.cK,gx,_,_,rfl,rfl,_,rfl,?_⟩
  refine aw (fun c2=>?_) fun c2=>⟨_,rfl,_,rfl,y,_,HU,_,_,rfl,h1,T.eU,T.bC,dP,xr,_,dr,_,_,rfl,h2,T.dU,T.cK,gx,_,_,rfl,rfl,next fun z=>c2 z.2⟩
  obtain⟨b,hb⟩:∃b:Nat,kk-(B:Int)=(b:Int):=⟨(kk-(B:Int)).toNat,by lia⟩
  have hbn:b<u.r.n:=by lia
  have Y1:=P.ok u hum
  have jj:=Y1.r.str P.tok
  have oM:=(Y1.r.pl P.tok hbn).1
  refine⟨_,rfl,y,_,HU,_,_,rfl,h1,T.eU,T.bC,dP,xr,dr,_,rfl,h2,gH,_,rfl,xr,_,_,_,_,rfl,⟨dr,h2⟩,⟨by lia,by lia⟩,_,rfl,fun z d nz nd ZN=>⟨z,d,y,_,rfl,af,fun H3 hz k3=>⟨rfl,?_⟩⟩⟩
  have s3:ax H2 H3:=ax.tS nz nd k3
  refine k1 u y z d (MX.bR u.r.p u.r.skip b) H3 (by lia) hum (hW.kept s3) ?_ ?_ nz s3
  ·rw[show kk.toNat=B+b by lia,←hB]
   exact TR hu hbn
  ·rw[hz,oM,hb]
 ·rintro σ H2 ⟨v3,rfl,rfl,hle⟩
  refine k0 (fun z=>?_) H2 (ax.refl _)
  have:=hle z.1
  rw[length_map,bw P.pr,take_length]at this
  lia
theorem Ox (b:List UInt8):nv (codes b)=bv b:=by
 unfold nv codes bv
 rw[map_map]
 rfl
theorem Y2 (n:Nat):nv (replicate n 0)=bv (replicate n 0):=by
 unfold nv bv
 rw[List.map_replicate,List.map_replicate]
 rfl
inductive Ef (vs:List V) (H:Hp) (Q:VK) (E:XK):Prop
 |mk (l:Addr) (b:List UInt8) (q0:vs=[.ref l]) (q1:H l=some (.lst (bv b))) (q2:b.length≤255) (q3:∀z H',H' z=some (.lst (nv (padded 255 b)))→H z=none→ax H H'→Q (.ref z) H'):Ef  vs H Q E
theorem yu (T:Tx g.K g.mg a):Pr g 1 a.yT ["letters"] Ef:=by
 refine Pr.on T.Ax Ig fun b6 A outer s H vs Q E hr h=>?_
 obtain⟨l,b,rfl,hl,hb,k⟩:=h
 refine⟨_,ag (aS (aO BY (pv 0) (aO UC (cy (aa ak ai)) (aO gA (pk T.ph) (aV aJ (by rfl) T.eO boot_len (aa (pv 0) ai)))))),?_⟩
 have hz:sizeLine=16777216:=sizeLine_eq
 refine⟨_,rfl,(by show 1≤sizeLine;decide),fun z0 nz0=>?_⟩
 have s0:ax H (upd H z0 (.lst [.int 0])):=ax.upd nz0
 have hz0:upd H z0 (.lst [.int 0]) z0=some (.lst [.int 0]):=af
 generalize upd H z0 (.lst [.int 0])=H1 at *
 have hk:((255:Int)-((bv b).length:Int)).toNat=255-b.length:=by rw[bt];lia
 refine⟨_,rfl,l,_,rfl,.inl (bP.of (s0 _ _ hl)),_,_,rfl,rfl,z0,_,_,rfl,rfl,hz0,by rw[bt];lia,by rw[bt];lia,by rw[hk];show 1*_≤_;lia,fun z1 nz1=>?_⟩
 rw[hk,RT]
 have s1:ax H1 (upd H1 z1 (.lst (bv (replicate (255-b.length) 0)))):=ax.upd nz1
 have Y3:upd H1 z1 (.lst (bv (replicate (255-b.length) 0))) z1=_:=af
 generalize upd H1 z1 (.lst (bv (replicate (255-b.length) 0)))=H2 at *
 have s01:=s0.trans s1
 refine⟨l,z1,_,_,rfl,rfl,s01 _ _ hl,Y3,by rw[bt,bt,length_replicate];lia,fun z nz=>k z _ ?_ (s01.free nz) (s01.trans (ax.upd nz))⟩
 rw[af]
 unfold padded
 rw[Mh,Ox,Y2]
def Oy (libs:List (List UInt8)) (w:Want):List Nat:=w.name.length::w.word::w.library::w.plus::(padded 255 (libs.getD (w.library-1) [])++padded 255 w.name)
theorem oK {b:List UInt8} (h:b.length≤255):(padded 255 b).length=255:=by
 unfold padded codes
 rw[length_append,length_map,length_replicate]
 lia
inductive BP (a:Ad) (vs:List V) (H:Hp) (Q:VK) (E:XK):Prop
 |mk (x dx wl:Addr) (fs:List (Str×V)) (wa:List Addr) (ws:List Wn) (t:Told) (N:Addr→Prop) (hl:Addr) (k:Int) (q0:vs=[.ref x,.int k]) (q1:Ee a H x dx wl fs wa ws t N hl) (q2:fs.lookup ("wanted_word" : Str)=none) (q3:(∀l∈t.libraries,l.length≤255)) (q4:(¬(0≤k∧k<((ws.flatMap eY).length:Int))→∀H',ax H H'→E (.ref a.bM) none H')) (q5:∀(w:Want) (z:Addr) (H':Hp),0≤k→(ws.flatMap eY)[k.toNat]?=some w→w.name.length≤255→H' z=some (.lst (nv (Oy t.libraries w)))→H z=none→ax H H'→Q (.ref z) H'):BP a vs H Q E
theorem wx (T:Tx g.K g.mg a):Pr g 4 a.jV ["self","k"] (BP a):=by
 refine Pr.on T.mE fo fun b6 A outer s H vs Q E hr h=>?_
 obtain⟨x,dx,wl,fs,wa,ws,t,N,hl,kk,rfl,P,f5,Tv,k0,k1⟩:=h
 refine⟨_,ae (aI (i:=2) fo.nd rfl (Or.inl rfl) (cN (pv 0) (l9 T) T.ba T.jd au hr (by decide) (aa (pv 1) ai)))
  (ae (aI (i:=3) fo.nd rfl (Or.inl rfl) (ar (pv 2) rfl))
  (ae (aI (i:=4) fo.nd rfl (Or.inl rfl) (cy (aa (aV aJ (by rfl) T.eO boot_len (aa (ar (pv 3) rfl) ai)) (aa (ar (pv 2) rfl) (aa (ar (pv 3) rfl) (aa (ar (pv 3) rfl) ai))))))
  (ag (aS (aO BY (aO BY (pv 4) (aU (yu T) au hr (by decide) T.sd (aa (ar (pv 3) rfl) ai))) (aU (yu T) au hr (by decide) T.sd (aa (ar (pv 3) rfl) ai))))))),?_⟩
 have hsz:sizeLine=16777216:=sizeLine_eq
 refine⟨_,rfl,x,dx,_,rfl,P.ob,f5,_,rfl,x,dx,wl,fs,wa,ws,t,N,hl,kk,rfl,P,k0,fun u y z dz p H1 hk hu hW hw hz nz s1=>?_⟩
 obtain⟨HU,xr,dr,nl,ln,h1,h2,h3,h4,hN,HP⟩:=id hW
 have Y1:=P.ok u hu
 have Wm:=Y1.ae6
 have Oz:(t.libraries.getD (u.wb-1) []).length≤255:=by
  rw[List.getD_eq_getElem?_getD]
  cases hg:t.libraries[u.wb-1]? with
  |none=>exact zero_le _
  |some l=>exact Tv l (mem_of_getElem? hg)
 refine⟨_,rfl,z,_,dz,_,_,rfl,hz,T.fF,T.dB,px,?_⟩
 refine⟨_,rfl,y,_,HU,_,_,rfl,h1,T.eU,T.iI,DR,nl,_,rfl,.inl (bP.of h3),_,rfl,z,_,dz,_,_,rfl,hz,T.fF,T.dj,oo,_,rfl,y,_,HU,_,_,rfl,h1,T.eU,T.gO,Gd,_,rfl,y,_,HU,_,_,rfl,h1,T.eU,T.gT,AW,(by show 4≤sizeLine;lia),fun l4 nl4=>?_⟩
 rw[bt]
 have s2:ax H1 (upd H1 l4 (.lst [.int (u.name.length:Int),.int (p:Int),.int (u.wb:Int),.int (u.plus:Int)])):=ax.upd nl4
 have hl4:upd H1 l4 (.lst [.int (u.name.length:Int),.int (p:Int),.int (u.wb:Int),.int (u.plus:Int)]) l4=_:=af
 generalize upd H1 l4 (.lst [.int (u.name.length:Int),.int (p:Int),.int (u.wb:Int),.int (u.plus:Int)])=H2 at *
 have xy:=s1.trans s2
 refine⟨_,rfl,_,rfl,y,_,HU,_,_,rfl,s2 _ _ h1,T.eU,T.dH,wY,ln,_,rfl,s2 _ _ h4,Oz,fun z5 H3 hz5 nz5 s3=>?_⟩
 have Mf:=xy.trans s3
 refine⟨l4,z5,_,_,rfl,rfl,s3 _ _ hl4,hz5,by rw[ly,oK Oz];show 4+255≤sizeLine;lia,fun z6 nz6=>?_⟩
 have s4:ax H3 (upd H3 z6 (.lst ([V.int (u.name.length:Int),.int (p:Int),.int (u.wb:Int),.int (u.plus:Int)]++nv (padded 255 (t.libraries.getD (u.wb-1) []))))):=ax.upd nz6
 have hz6:upd H3 z6 (.lst ([V.int (u.name.length:Int),.int (p:Int),.int (u.wb:Int),.int (u.plus:Int)]++nv (padded 255 (t.libraries.getD (u.wb-1) [])))) z6=_:=af
 generalize upd H3 z6 (.lst ([V.int (u.name.length:Int),.int (p:Int),.int (u.wb:Int),.int (u.plus:Int)]++nv (padded 255 (t.libraries.getD (u.wb-1) []))))=H4 at *
 have s14:=Mf.trans s4
 refine⟨_,rfl,y,_,HU,_,_,rfl,s4 _ _ (s3 _ _ (s2 _ _ h1)),T.eU,T.iI,DR,nl,_,rfl,s4 _ _ (s3 _ _ (s2 _ _ h3)),Wm,fun z7 H5 hz7 nz7 s5=>?_⟩
 have s15:=s14.trans s5
 refine⟨z6,z7,_,_,rfl,rfl,s5 _ _ hz6,hz7,by rw[length_append,ly,ly,oK Oz,oK Wm];show 4+255+255≤sizeLine;lia,fun z8 nz8=>?_⟩
 refine k1 _ z8 _ hk hw Wm ?_ (s15.free nz8) (s15.trans (ax.upd nz8))
 rw[af]
 unfold Oy
 rw[append_assoc,←Mh]
 rfl
theorem Y4 {m:List UInt8} {p v:Nat} (h:p+8≤m.length):RW m 0 p v 8=Rc31.put m p (Rc31.le 8 v):=by
 refine ext_getElem? fun k=>?_
 have e8:(Rc31.le 8 v).length=8:=MX.kD 8 v
 rw[tq,MX.kC (by rw[e8];exact h),e8]
 by_cases h1:k<p
 ·rw[iPp h1]
  cases m[k]? with
  |none=>rfl
  |some c =>
   show some (if _ then _ else c)=some c
   rw[IN (by lia)]
 ·rw[IN h1]
  by_cases h2:k<p+8
  ·rw[iPp h2,getElem?_eq_getElem (show k<m.length by lia)]
   show some (if _ then _ else _)=_
   rw[iPp (by lia),zero_add]
   unfold Rc31.le
   rw[getElem?_map,List.getElem?_range (by lia)]
   rfl
  ·rw[IN h2]
   cases m[k]? with
   |none=>rfl
   |some c =>
    show some (if _ then _ else c)=some c
    rw[IN (by lia)]
inductive Ks (a:Ad) (vs:List V) (H:Hp) (Q:VK) (E:XK):Prop
 |mk (x dx wl:Addr) (fs:List (Str×V)) (wa:List Addr) (ws:List Wn) (t:Told) (N:Addr→Prop) (hl:Addr) (k:Int) (v:Nat) (m:List UInt8) (q0:vs=[.ref x,.int k,.int (v:Int)]) (q1:Ee a H x dx wl fs wa ws t N hl) (q2:fs.lookup ("wanted_word" : Str)=none) (q3:fs.lookup ("held" : Str)=some (.ref hl)) (q4:H hl=some (.lst (bv m))) (q5:m.length≤4194304) (q6:(∀w∈ws.flatMap eY,w.word+8≤m.length)) (q7:(¬(0≤k∧k<((ws.flatMap eY).length:Int))→∀H',ax H H'→E (.ref a.bM) none H')) (q8:∀(w:Want) (H':Hp),0≤k→(ws.flatMap eY)[k.toNat]?=some w→H' hl=some (.lst (bv (Rc31.put m w.word (Rc31.le 8 ((v+w.plus)%W64)))))→Kp (At hl) H H'→Q .dh H'):Ks a vs H Q E
theorem Js (T:Tx g.K g.mg a):Pr g 4 a.yW ["self","k","value"] (Ks a):=by
 refine Pr.on T.AA xD fun b6 A outer s H vs Q E hr h=>?_
 obtain⟨x,dx,wl,fs,wa,ws,t,N,hl,kk,v,m,rfl,P,f5,f1,hh,Mw,Q7,k0,k1⟩:=h
 refine⟨_,ae (aI (i:=3) xD.nd rfl (Or.inl rfl) (cN (pv 0) (l9 T) T.ba T.jd au hr (by decide) (aa (pv 1) ai)))
  (ag (aR (aU (Ed T) au hr (by decide) T.yZ (aa (ar (pv 0) rfl) (aa (ar (pv 3) rfl) (aa (aO jJ (aO cq (pv 2) (ar (ar (pv 3) rfl) rfl)) (pk T.gU)) ai)))))),?_⟩
 refine⟨_,rfl,x,dx,_,rfl,P.ob,f5,_,rfl,x,dx,wl,fs,wa,ws,t,N,hl,kk,rfl,P,k0,fun u y z dz p H1 hk hu hW hw hz nz s1=>?_⟩
 obtain⟨HU,xr,dr,nl,ln,h1,h2,h3,h4,hN,HP⟩:=id hW
 have hp8:p+8≤m.length:=Q7 _ (mem_of_getElem? hw)
 refine⟨_,rfl,x,_,dx,_,_,rfl,s1 _ _ P.ob,T.ba,T.fH,f1,_,rfl,z,_,dz,_,_,rfl,hz,T.fF,T.dj,oo,_,rfl,_,rfl,z,_,dz,_,_,rfl,hz,T.fF,T.dB,px,y,_,HU,_,_,rfl,h1,T.eU,T.gT,AW,_,_,rfl,rfl,_,_,rfl,rfl,(by show(0:Int)<18446744073709551616;decide),?_⟩
 have ev:((v:Int)+(u.plus:Int))%18446744073709551616=(((v+u.plus)%W64:Nat):Int):=by
  rw[MX.gX]
  lia
 refine⟨hl,m,p,0,(v+u.plus)%W64,?_,s1 _ _ hh,by decide,by lia,fun H2 hF k2=>k1 _ H2 hk hw (by rw[hF,Y4 hp8]) ((Kp.same s1).step k2 fun _ z=>.inl z)⟩
 rw[←ev,show(p:Int)-((0:Nat):Int)=(p:Int) by lia]
 rfl
end
end MI
namespace L2
open PySem PySem.Spec PyProof.Rows
theorem QK {prog:Program} {w:World} {d:Addr} (hd:(d==sysModules)=false) :
 MeetsIn prog w (Builtin.«dict.__len__» ⟨[.ref d],[]⟩) (fun _ R s=>∃o es ep,s.heap.get? d=some o∧o.data = .dict es ep∧R (.ok (.ret (.int es.size s.toks))) {s with toks:=s.toks+1}) :=
 .of_wp fun A R s ⟨o,es,ep,ho,acu,h⟩=>by
  show wpAny _ _ (dictSize d >>= _) _ _ s
  unfold dictSize
  refine wpAny_bind (wpAny_bind (wpAny_dictEntries ho acu (wpAny_pure ?_)))
  show wpAny _ _ (Builtin.Dict.pendingCount d >>= _) _ _ s
  refine wpAny_bind (wpAny_pendingCount_other hd ?_)
  refine wpAny_ret_mkInt ?_
  rw[Nat.add_zero]
  exact h
theorem TU {prog:Program} {w:World} {A:Around} {E:Value→Shared→Prop} {s:Shared} {d:Addr} {o:Obj} {es:Array DictEntry} {ep:Nat} {Q:Value→Shared→Prop} (hd:(d==sysModules)=false) (ht:s.TypeIs (.ref d) "dict") (ho:s.heap.get? d=some o) (acu:o.data = .dict es ep) (adP:(es.size:Int)<2^63)
 (h:Q (.int es.size (s.toks+1)) {s with toks:=s.toks+1+1}):wpAny (model prog w) A (call (.builtin "len") [.ref d]) Q E s:=by
 refine Calls.call_function_entry kind_len plain_len entry_len (args_len1 _) ?_
 unfold Builtin.«len»
 refine wpAny_bind (m:=oneArg "len" _) (wpAny_pure ?_)
 refine wpAny_bind (m:=callSpecial? (.ref d) (Str.ofString "__len__")) (wpAny_callSpecial?_slot (name:=Str.ofString "__len__") ht F.slot_dict_len
  (call_meetsIn F.slot_dict_len ht F.entry_dict_len (F.args_dict_len_1 _) (QK hd) ⟨o,es,ep,ho,acu,?_⟩))
 show wpAny _ _ _ _ _ {s with toks:=s.toks+1}
 refine wpAny_bind (wpAny_holding (wpAny_pure ?_))
 refine wpAny_bind (wpAny_letGo ?_)
 show wpAny _ _ (if ((es.size:Nat):Int)<0 then _ else _) _ _ _
 rw[IN (by lia)]
 show wpAny _ _ (if ((es.size:Nat):Int)≥2^63 then _ else _) _ _ _
 rw[IN (by lia)]
 exact wpAny_bind (wpAny_mkInt (wpAny_pure ⟨_,rfl,h⟩))
theorem TV {X:Cx}:oV X (.builtin "len") (fun xs H Q=>∃a aZ,xs=[V.ref a]∧H a=some (.dT aZ)∧Q (.int aZ.length) H):=by
 intro pp s σ H xs us Q I r h
 obtain⟨a,aZ,rfl,ha,q⟩:=h
 obtain⟨u,rfl,ru⟩:=vals1 r
 cases ru
 obtain⟨z,hd,xs,rel,o,es,ep,h1,h2,h3,h4,_⟩:=Zs I.cG ha
 have hl:es.size=aZ.length:=by
  rw[size_of_entries h4]
  exact(Paired.length rel).symm
 refine TU hd ⟨o,h1,h2.1⟩ h1 h3 (by rw[hl];rw[sizeLine_eq]at z;lia) ?_
 rw[hl]
 exact⟨.int aZ.length,H,I.tok _,⟨_,rfl⟩,q⟩
end L2
namespace MX
open Rc31
theorem Wo {size:Nat} {pre:Bytes} {x:Nat×Bytes} {h:List (Bytes×Nat)} (e:fP size pre x=some h):∀y∈h,y.1≠[]:=by
 unfold fP at e
 split at e
 ·cases e
  intro y hy
  cases hy
 ·split at e
  ·cases e
  ·obtain⟨y,_,e⟩:=oBb e
   obtain⟨z,_,e⟩:=oBb e
   split at e
   ·rename_i hc
    cases e
    intro q hq
    rw[mem_singleton.mp hq]
    intro h0
    have h0:pre=[]:=h0
    rw[h0]at hc
    cases hc.2.2.2
   ·cases e
theorem TY {e:Bytes} {size:Nat} {S:List (Nat×Bytes)} {g:List (Bytes×Nat)} {ns:List Nat} (F:cR e size S g ns):∀y∈g,y.1≠[]:=by
 induction F with
 |nil=>intro y hy;cases hy
 |@cons i pre h kids rest gk gr nk nr hn _ _ ih1 ih2 =>
  intro y hy
  rcases mem_append.mp hy with q|q
  ·unfold kA at hn
   split at hn
   ·cases hn
   ·obtain⟨x,_,hn⟩:=oBb hn
    obtain⟨h',hh,hn⟩:=oBb hn
    have e2:h'=h:=by
     split at hn
     ·cases hn
     ·obtain⟨l,_,hn⟩:=oMm hn
      exact congrArg Prod.fst hn
    subst e2
    exact Wo hh y q
  ·exact(mem_append.mp q).elim (ih1 y) (ih2 y)
theorem Wq {e:Bytes} {size:Nat} {g:List (Bytes×Nat)} (h:gives e size=some g):∀y∈g,y.1≠[]:=by
 by_cases he:e=[]
 ·rw[he]at h
  unfold gives at h
  cases h
  intro y hy
  cases hy
 ·obtain⟨ns,F,_⟩:=(CU he).mp h
  exact TY F
theorem find_key {b:Bytes}:∀{g:List (Bytes×Nat)},(g.map fun x=>x.1).Nodup→∀{y:Bytes×Nat},g.find? (fun x=>x.1==b)=some y↔y∈g∧y.1=b
 | [],_,y=>by simp
 |p::g,nd,y=>by
  rw[map_cons,nodup_cons]at nd
  rw[find?_cons]
  by_cases hp:p.1=b
  ·have e:(p.1==b)=true:=by simpa using hp
   rw[e]
   constructor
   ·intro h
    cases h
    exact⟨mem_cons_self ..,hp⟩
   ·rintro⟨hm,hb⟩
    rcases mem_cons.mp hm with q|q
    ·rw[q]
    ·exact absurd (mem_map.mpr ⟨y,q,by rw[hb,hp]⟩) nd.1
  ·have e:(p.1==b)=false:=by simpa using hp
   rw[e]
   show g.find? (fun x=>x.1==b)=some y↔_
   rw[find_key nd.2]
   constructor
   ·rintro⟨hm,hb⟩
    exact⟨mem_cons_of_mem _ hm,hb⟩
   ·rintro⟨hm,hb⟩
    rcases mem_cons.mp hm with q|q
    ·rw[q]at hb
     exact absurd hb hp
    ·exact⟨q,hb⟩
theorem find_perm {b:Bytes} {g G:List (Bytes×Nat)} (p:g.Perm G) (nd:(G.map fun x=>x.1).Nodup):g.find? (fun x=>x.1==b)=G.find? (fun x=>x.1==b):=by
 have nd':(g.map fun x=>x.1).Nodup:=(p.map _).nodup_iff.mpr nd
 cases h:G.find? (fun x=>x.1==b) with
 |some y =>
  obtain⟨hm,hb⟩:=(find_key nd).mp h
  exact(find_key nd').mpr ⟨p.mem_iff.mpr hm,hb⟩
 |none =>
  cases h':g.find? (fun x=>x.1==b) with
  |none=>rfl
  |some y =>
   obtain⟨hm,hb⟩:=(find_key nd').mp h'
   rw[(find_key nd).mpr ⟨p.mem_iff.mp hm,hb⟩]at h
   cases h
end MX
namespace MI
open PySem L2
theorem RZ (G:List (List UInt8×Nat)) (b:List UInt8):jt (gk G) (kb b)=(G.find? fun x=>x.1==b).map fun x=>V.int (x.2:Int):=by
 induction G with
 |nil=>rfl
 |cons p r ih =>
  show jt ((kb p.1,V.int (p.2:Int))::gk r) (kb b)=_
  rw[find?_cons]
  by_cases h:p.1=b
  ·have e:(p.1==b)=true:=by simpa using h
   rw[lP (by show kb p.1=kb b;rw[h]),e]
   rfl
  ·have e:(p.1==b)=false:=by simpa using h
   rw[lQ (fun z=>h (Qx z)),ih,e]
section
variable {g:Gm} {a:Ad}
inductive BQ (a:Ad) (vs:List V) (H:Hp) (Q:VK) (E:XK):Prop
 |mk (x dx gd nb:Addr) (fs:List (Str×V)) (b:List UInt8) (G:List (List UInt8×Nat)) (q0:vs=[.ref x,.ref nb]) (q1:H x=some (.ins a.bS dx fs)) (q2:fs.lookup ("names" : Str)=some (.ref gd)) (q3:H gd=some (.dT (gk G))) (q4:H nb=some (.tup (bv b))) (q5:((G.find? fun x=>x.1==b)=none→E (.ref a.bK) none H)) (q6:∀z,(G.find? fun x=>x.1==b)=some z→Q (.int (z.2:Int)) H):BQ a vs H Q E
theorem wy (T:Tx g.K g.mg a):Pr g 1 a.jT ["self","name"] (BQ a):=by
 refine Pr.on T.mC uM fun b6 A outer s H vs Q E hr h=>?_
 obtain⟨x,dx,gd,nb,fs,b,G,rfl,hx,f,hg,hn,k0,k1⟩:=h
 refine⟨_,ae (dt (BS (B3 (FL hr) (pv 1) (ar (pv 0) rfl))) (ag (nK T.qb rfl rF rfl)) gz)
  (ag (aS (Xw (FL hr) (ar (pv 0) rfl) (pv 1) (fun _ _=>rfl)))),?_⟩
 have WZ:H nb=some (.tup ((kb b).map kV)):=by rw[aeS];exact hn
 refine⟨_,rfl,_,rfl,x,_,dx,_,_,rfl,hx,T.ba,T.eL,f,gd,_,rfl,wM.t hg WZ,_,rfl,?_⟩
 rw[RZ]
 cases hf:(G.find? fun x=>x.1==b) with
 |none=>exact iE (k0 hf)
 |some z =>
  refine eA ⟨_,rfl,x,_,dx,_,_,rfl,hx,T.ba,T.eL,f,_,rfl,gd,_,rfl,?_,k1 z hf⟩
  have:=wM.t hg WZ
  rw[RZ,hf]at this
  exact this
inductive Kt (a:Ad) (vs:List V) (H:Hp) (Q:VK) (E:XK):Prop
 |mk (x dx gr dg hl md wl gd:Addr) (fg:List (Str×V)) (kG bg:Int) (q0:vs=[.ref x,.ref gr,.int bg,.ref hl,.ref md,.ref wl,.ref gd]) (q1:H x=some (.ins a.bS dx [])) (q2:H gr=some (.ins a.c9 dg fg)) (q3:fg.lookup ("home" : Str)=some (.int kG)) (q4:gr≠x) (q5:∀H',H' x=some (.ins a.bS dx (cM (.ref gr) (.int kG) (.int bg) (.ref hl) (.ref md) (.ref wl) (.ref gd)))→Kp (At x) H H'→Q .dh H'):Kt a vs H Q E
theorem Jt (T:Tx g.K g.mg a):Pr g 1 a.yU ["self","ground","beginning","held","mended","wanted","names"] (Kt a):=by
 refine Pr.on T.Ay Ih fun b6 A outer s H vs Q E hr h=>?_
 obtain⟨x,dx,gr,dg,hl,md,wl,gd,fg,kG,bg,rfl,hx,hg,f,ne,k⟩:=h
 refine⟨_,ae (aT (pv 0) (pv 1) rfl)
  (ae (aT (pv 0) (ar (pv 1) rfl) rfl)
  (ae (aT (pv 0) (pv 2) rfl)
  (ae (aT (pv 0) (pv 3) rfl)
  (ae (aT (pv 0) (pv 4) rfl)
  (ae (aT (pv 0) (pv 5) rfl)
  (ag (aT (pv 0) (pv 6) rfl))))))),?_⟩
 refine⟨_,rfl,_,rfl,x,_,dx,_,rfl,hx,T.ba,T.dQ,(by show 0<1000;decide),_,rfl,gr,_,dg,_,_,rfl,(by rw[aj ne];exact hg),T.bI,T.cH,f,_,rfl,x,_,dx,_,rfl,af,T.ba,T.fG,pl1,_,rfl,_,rfl,x,_,dx,_,rfl,af,T.ba,T.eJ,pl2,_,rfl,_,rfl,x,_,dx,_,rfl,af,T.ba,T.fH,pl3,_,rfl,_,rfl,x,_,dx,_,rfl,af,T.ba,T.fh,pl4,_,rfl,_,rfl,x,_,dx,_,rfl,af,T.ba,T.fi,pl5,_,rfl,_,rfl,x,_,dx,_,rfl,af,T.ba,T.eL,pl6,?_⟩
 rw[bN,bN,bN,bN,bN,bN,Ph]
 exact k _ af (Kp.upd (.inl rfl))
theorem Ku:∀ws:List Wn,(ws.map fun u=>(u.r.n:Int)).sum=((ws.flatMap eY).length:Int)
 | []=>rfl
 |u::ws=>by
  have ih:=Ku ws
  show(u.r.n:Int)+(ws.map fun u=>(u.r.n:Int)).sum=((eY u++ws.flatMap eY).length:Int)
  rw[ih,length_append,HH]
  lia
inductive R0 (a:Ad) (vs:List V) (H:Hp) (Q:VK) (E:XK):Prop
 |mk (x dx wl gr dg kH md gd:Addr) (fs fg:List (Str×V)) (wa:List Addr) (ws:List Wn) (t:Rc31.Told) (N:Addr→Prop) (hl:Addr) (lv:List V) (aZ:List (Key×V)) (G:List (List UInt8×Nat)) (base size bg:Int) (q0:vs=[.ref x]) (q1:Ee a H x dx wl fs wa ws t N hl) (q2:ws.length≤16000000) (q3:fs.lookup ("ground" : Str)=some (.ref gr)) (q4:fs.lookup ("base" : Str)=some (.int base)) (q5:fs.lookup ("beginning" : Str)=some (.int bg)) (q6:fs.lookup ("mended" : Str)=some (.ref md)) (q7:fs.lookup ("names" : Str)=some (.ref gd)) (q8:H gr=some (.ins a.c9 dg fg)) (q9:fg.lookup ("laid" : Str)=some (.ref kH)) (q10:fg.lookup ("length" : Str)=some (.int size)) (q11:H kH=some (.lst lv)) (q12:H md=some (.dK aZ)) (q13:H gd=some (.dT (gk G))) (q14:∀z H',H' z=some (.lst [.int (lv.length:Int),.int base,.int size,.int bg,.int (aZ.length:Int),.int ((ws.flatMap eY).length:Int),.int (G.length:Int)])→H z=none→ax H H'→Q (.ref z) H'):R0 a vs H Q E
theorem HI (T:Tx g.K g.mg a):Pr g 1 a.uW ["self"] (R0 a):=by
 refine Pr.on T.xQ il fun b6 A outer s H vs Q E hr h=>?_
 obtain⟨x,dx,wl,gr,dg,kH,md,gd,fs,fg,wa,ws,t,N,hl,lv,aZ,G,base,size,bg,rfl,P,zQ,f1,f2,f3,f4,f5,hg,f6,f7,aiI,hmd,Z2,k⟩:=h
 refine⟨_,ae (aI (i:=1) il.nd rfl (Or.inl rfl) (cy (aa (aV aJ (by rfl) T.eO boot_len (aa (ar (ar (pv 0) rfl) rfl) ai)) (aa (ar (pv 0) rfl) (aa (ar (ar (pv 0) rfl) rfl) (aa (ar (pv 0) rfl) ai))))))
  (ae (aI (i:=2) il.nd rfl (Or.inl rfl) (aV (O1 rfl) (by rfl) T.Ro PyProof.Rows.boot_sum (aa (CK (te:=KJ g.K (KJ g.K (zS 3) "run_wanted") "count") J9 rfl il.nd (lA (ar (pv 0) rfl)) (nJ (N:=["self","lies","wanted","want"]) (sc:=ao lC) (own:=[("want",3)]) (by decide +kernel)) (fun _ _ _ _ _ _=>dJ (i:=3) il.nd rfl (Or.inl rfl)) (fun _ _ _ _ _ _ _=>Aa) (fun _ _ _ _ _ _ pass=>ar (ar (pv 3) rfl) rfl)) ai)))
  (ag (aS (aO BY (pv 1) (cy (aa (aV Sq (by rfl) T.eO boot_len (aa (ar (pv 0) rfl) ai)) (aa (pv 2) (aa (aV TV (by rfl) T.eO boot_len (aa (ar (pv 0) rfl) ai)) ai)))))))),?_⟩
 have hsz:sizeLine=16777216:=sizeLine_eq
 refine⟨_,rfl,x,_,dx,_,_,rfl,P.ob,T.ba,T.dQ,f1,gr,_,dg,_,_,rfl,hg,T.bI,T.gq,f6,kH,_,rfl,.inl (bP.of aiI),_,rfl,x,_,dx,_,_,rfl,P.ob,T.ba,T.fG,f2,_,rfl,x,_,dx,_,_,rfl,P.ob,T.ba,T.dQ,f1,gr,_,dg,_,_,rfl,hg,T.bI,T.cU,f7,_,rfl,x,_,dx,_,_,rfl,P.ob,T.ba,T.eJ,f3,(by show 4≤sizeLine;lia),fun l1 nl1=>?_⟩
 have s1:ax H (upd H l1 (.lst [.int (lv.length:Int),.int base,.int size,.int bg])):=ax.upd nl1
 have E7:upd H l1 (.lst [.int (lv.length:Int),.int base,.int size,.int bg]) l1=_:=af
 generalize upd H l1 (.lst [.int (lv.length:Int),.int base,.int size,.int bg])=H1 at *
 have P1:=P.same s1
 refine⟨_,rfl,x,_,dx,_,_,rfl,P1.ob,T.ba,T.fi,P.f,wl,rfl,⟨_,bP.of P1.l⟩,fun D hD=>?_⟩
 refine Ac (K:=g.K) (a:=wl) (xs:=wa.map V.ref) (fun i H4=>H4 D=some (.lst (((ws.take i).map fun u=>(u.r.n:Int)).map V.int))∧ax H1 H4) ⟨af,ax.upd hD⟩ (fun i H4 _ ⟨_,s4⟩=>bP.of (s4 _ _ P1.l)) ?_ ?_
 ·rintro i y H4 hi ⟨RI,s4⟩
  obtain⟨y,hy,rfl⟩:=pJ hi
  obtain⟨u,hq,⟨HU,xr,dr,nl,ln,h1,h2,h3,h4,hN,HP⟩⟩:=iB P1.pr hy
  obtain⟨oU,_⟩:=List.getElem?_eq_some_iff.mp hq
  refine⟨rfl,RG ?_⟩
  refine⟨_,rfl,y,_,HU,_,_,rfl,s4 _ _ h1,T.eU,T.bC,dP,xr,_,dr,_,_,rfl,s4 _ _ h2,T.dU,T.cK,gx,_,RI,?_,?_,?_⟩
  ·rw[length_map,length_map,length_take]
   lia
  ·rw[af,gN hq,map_append,map_append]
   rfl
  ·intro z o e
   rw[aj (aq e hD)]
   exact s4 _ _ e
 ·rintro H4 ⟨RI,s4⟩
  rw[length_map,bw P.pr,take_of_length_le (le_refl _)]at RI
  refine⟨D,_,rfl,bP.of RI,?_⟩
  rw[Ku]
  have s14:=s1.trans s4
  have P4:=P.same s14
  refine⟨_,rfl,_,rfl,x,_,dx,_,_,rfl,P4.ob,T.ba,T.fh,f4,md,_,rfl,s14 _ _ hmd,_,rfl,_,rfl,x,_,dx,_,_,rfl,P4.ob,T.ba,T.eL,f5,gd,_,rfl,s14 _ _ Z2,(by show 3≤sizeLine;lia),fun l2 nl2=>?_⟩
  have s5:ax H4 (upd H4 l2 (.lst [.int (aZ.length:Int),.int ((ws.flatMap eY).length:Int),.int ((gk G).length:Int)])):=ax.upd nl2
  have JL:upd H4 l2 (.lst [.int (aZ.length:Int),.int ((ws.flatMap eY).length:Int),.int ((gk G).length:Int)]) l2=_:=af
  generalize upd H4 l2 (.lst [.int (aZ.length:Int),.int ((ws.flatMap eY).length:Int),.int ((gk G).length:Int)])=H5 at *
  have s15:=s14.trans s5
  refine⟨l1,l2,_,_,rfl,rfl,s5 _ _ (s4 _ _ E7),JL,(by show 4+3≤sizeLine;lia),fun z nz=>k z _ ?_ (s15.free nz) (s15.trans (ax.upd nz))⟩
  have eG:(gk G).length=G.length:=by unfold gk;rw[length_map]
  rw[af,eG]
  rfl
end
end MI
namespace L2
open PySem PySem.Spec PyProof.Rows
section
variable {prog:Program} {w:World} {A:Around} {E:Value→Shared→Prop} {s:Shared}
theorem acv {a:Addr} {o:Obj} {Q:Option Obj→Shared→Prop} (ho:s.heap.get? a=some o) (h:Q (some o) s):wpAny (model prog w) A (loadIfAlive a) Q E s:=by
 have h':Q (s.heap.get? a) s:=by rw[ho];exact h
 exact fun _ _ _=>h'
abbrev zN (h:Heap) (z TI TO T:Addr) (f:Bool):Prop :=
 h.get? z=some {cls:=.type "zip",dict:=none,data:=.fields #[rawInt T,.bool f,.bool false,.ref TI,.ref TO],slots:=#[]}
theorem Z9 {z TI TO T:Addr} {f:Bool} {oT:Obj} {Q:Bool→Shared→Prop} (hz:zN s.heap z TI TO T f) (hT:s.heap.get? T=some oT)
 (hQ:∀h',zN h' z TI TO T true→Heap.SameBut z s.heap h'→Q false {s with heap:=h'}):wpAny (model prog w) A (Builtin.SmallTypes.ownedTupleIsFree (.ref z)) Q E s:=by
 unfold Builtin.SmallTypes.ownedTupleIsFree
 refine wpAny_bind (wpAny_field hz rfl (x:=rawInt T) rfl ?_)
 show wpAny _ _ (loadIfAlive ((T:Int).toNat) >>= _) _ _ _
 rw[toNat_natCast]
 refine wpAny_bind (acv hT ?_)
 simp only[Option.isNone_some,false_eq_true,if_false]
 refine wpAny_bind (wpAny_field hz rfl (x:=.bool f) rfl ?_)
 cases f with
 |true =>
  rw[IN (show ¬((Value.bool true != Value.bool true)=true) from Bool.false_ne_true)]
  exact wpAny_pure (hQ _ hz (Heap.SameBut.refl _ _))
 |false =>
  rw[iPp (show(Value.bool false != Value.bool true)=true from rfl)]
  exact wpAny_bind (wpAny_setField_rec hz (by simp) fun h₃ he₃ hs₃=>wpAny_pure (hQ _ he₃ hs₃))
theorem Ms {z TI TO i1 i2 l1 l2 T:Addr} {f:Bool} {oT:Obj} {k1 k2:Nat} {xs ys:Array Value} {x y:Value} {Q:Value→Shared→Prop} (D:ZipApart z TI TO i1 i2 l1 l2)
 (hz:zN s.heap z TI TO T f) (hT:s.heap.get? T=some oT) (yD:IsPair s.heap TI (.ref i1) (.ref i2))
 (h1:s.heap.IsListIter i1 l1 k1) (h2:s.heap.IsListIter i2 l2 k2) (E7:s.heap.IsList l1 xs) (JL:s.heap.IsList l2 ys) (hx:xs[k1]?=some x) (hy:ys[k2]?=some y)
 (hQ:∀h',zN h' z TI TO T true→h'.IsListIter i1 l1 (k1+1)→h'.IsListIter i2 l2 (k2+1)→IsPair h' s.heap.objs.size x y→h'.objs.size=s.heap.objs.size+1 →
  (∀c o,c≠z→c≠i1→c≠i2→s.heap.get? c=some o→h'.get? c=some o)→Q (.ref s.heap.objs.size) {s with heap:=h'}) :
 wpAny (model prog w) A (Builtin.«zip.__next__» ⟨[.ref z],[]⟩) (fun fin s'=>∃v,fin = .done (.ret v)∧Q v s') E s:=by
 show wpAny _ _ (field (.ref z) 2 >>= _) _ _ _
 refine wpAny_bind (wpAny_field hz rfl (x:=.bool false) rfl ?_)
 show wpAny _ _ (field (.ref z) 3 >>= _) _ _ _
 refine wpAny_bind (wpAny_field hz rfl (x:=.ref TI) rfl ?_)
 refine wpAny_bind (wpAny_seqItems yD rfl ?_)
 show wpAny _ _ (Builtin.SmallTypes.ownedTupleIsFree (.ref z) >>= _) _ _ _
 refine wpAny_bind (Z9 hz hT fun h₁ hz₁ WV=>?_)
 simp only[false_eq_true,if_false]
 refine wpAny_bind ?_
 rw[←Array.forIn_toList]
 simp only[forIn_cons,forIn_nil]
 refine wpAny_bind (wpAny_bind (wpAny_holding ?_))
 show wpAny _ _ (Builtin.SmallTypes.nextOf (.ref i1) >>= _) _ _ _
 refine wpAny_bind (wpAny_nextOf_list_item (h1.extBut WV.extBut D.i1z) (E7.extBut WV.extBut D.l1z) hx fun h₂ h1₂ hs₂=>wpAny_pure ?_)
 refine wpAny_pure ?_
 refine wpAny_bind (wpAny_bind (wpAny_holding ?_))
 show wpAny _ _ (Builtin.SmallTypes.nextOf (.ref i2) >>= _) _ _ _
 refine wpAny_bind (wpAny_nextOf_list_item ((h2.extBut WV.extBut D.i2z).extBut hs₂.extBut D.i12.symm) ((JL.extBut WV.extBut D.l2z).extBut hs₂.extBut D.l2i1) hy fun h₄ h2₄ hs₄=>wpAny_pure ?_)
 refine wpAny_pure ?_
 refine wpAny_pure ?_
 show wpAny _ _ (newTuple [x,y] >>= _) _ _ _
 refine wpAny_bind (wpAny_newTuple (wpAny_pure ⟨_,rfl,?_⟩))
 have e2:h₂.objs.size=h₁.objs.size:=hs₂.1
 have e4:h₄.objs.size=h₂.objs.size:=hs₄.1
 have hsz:h₄.objs.size=s.heap.objs.size:=by rw[e4,e2,WV.1]
 have hk:∀c o,c≠z→c≠i1→c≠i2→s.heap.get? c=some o→h₄.get? c=some o:=fun c o c1 c3 c4 e=>hs₄.extBut _ _ c4 (hs₂.extBut _ _ c3 (WV.extBut _ _ c1 e))
 have hz₄:zN h₄ z TI TO T true:=hs₄.extBut _ _ D.i2z.symm (hs₂.extBut _ _ D.i1z.symm hz₁)
 have h1₄:h₄.IsListIter i1 l1 (k1+1):=h1₂.extBut hs₄.extBut D.i12
 show Q (.ref h₄.objs.size) _
 have up:∀c o,h₄.get? c=some o→(h₄.push {cls:=.type "tuple",data:=.seq #[x,y]}).get? c=some o:=fun c o e=>Heap.get?_push_of_some _ e
 rw[hsz]
 refine hQ _ (up _ _ hz₄) (h1₄.at fun o e=>up _ o e) (h2₄.at fun o e=>up _ o e) ?_ (by rw[Heap.size_push,hsz]) fun c o c1 c3 c4 e=>up _ _ (hk c o c1 c3 c4 e)
 rw[←hsz]
 exact Heap.get?_push_size _ rfl
theorem OB {z TI TO i1 i2 l1 l2 T:Addr} {f:Bool} {oT:Obj} {k1:Nat} {xs:Array Value} {Q:Fin→Shared→Prop} (hh:A.handled=none) (D:ZipApart z TI TO i1 i2 l1 l2)
 (hz:zN s.heap z TI TO T f) (hT:s.heap.get? T=some oT) (yD:IsPair s.heap TI (.ref i1) (.ref i2))
 (h1:s.heap.IsListIter i1 l1 k1) (E7:s.heap.IsList l1 xs) (So:xs[k1]?=none)
 (hE:∀h' e,(∀c o,c≠z→c≠i1→c≠i2→s.heap.get? c=some o→h'.get? c=some o)→(∃o,h'.get? e=some o∧o.cls = .type "StopIteration")→E (.ref e) {s with heap:=h'}) :
 wpAny (model prog w) A (Builtin.«zip.__next__» ⟨[.ref z],[]⟩) Q E s:=by
 show wpAny _ _ (field (.ref z) 2 >>= _) _ _ _
 refine wpAny_bind (wpAny_field hz rfl (x:=.bool false) rfl ?_)
 show wpAny _ _ (field (.ref z) 3 >>= _) _ _ _
 refine wpAny_bind (wpAny_field hz rfl (x:=.ref TI) rfl ?_)
 refine wpAny_bind (wpAny_seqItems yD rfl ?_)
 show wpAny _ _ (Builtin.SmallTypes.ownedTupleIsFree (.ref z) >>= _) _ _ _
 refine wpAny_bind (Z9 hz hT fun h₁ hz₁ WV=>?_)
 simp only[false_eq_true,if_false]
 refine wpAny_bind ?_
 rw[←Array.forIn_toList]
 simp only[forIn_cons,forIn_nil]
 refine wpAny_bind (wpAny_bind (wpAny_holding ?_))
 show wpAny _ _ (Builtin.SmallTypes.nextOf (.ref i1) >>= _) _ _ _
 refine wpAny_bind (wpAny_nextOf_list_end hh (h1.extBut WV.extBut D.i1z) (E7.extBut WV.extBut D.l1z) So fun h₂ e hs₂ he=>?_)
 exact hE h₂ e (fun c o c1 c3 _ q=>hs₂ _ _ c3 (WV.extBut _ _ c1 q)) he
def ZS (h:Heap) (z TI TO i1 i2 S:Addr):Prop:=(IsZip h z TI TO .none∧∃a b,IsPair h TO a b)∨∃T f oT,zN h z TI TO T f∧h.get? T=some oT∧T≠z∧T≠TO∧T≠i1∧T≠i2∧T≠S
theorem ZS.typeIs {z TI TO i1 i2 S:Addr} (h:ZS s.heap z TI TO i1 i2 S):s.TypeIs (.ref z) "zip":=by
 rcases h with⟨h,_⟩|⟨T,f,oT,h,_⟩
 ·exact⟨_,h,rfl⟩
 ·exact⟨_,h,rfl⟩
theorem ZS.keep {h h':Heap} {z TI TO i1 i2 S:Addr} (q:ZS h z TI TO i1 i2 S) (hzS:z≠S) (hTS:TO≠S) (k:∀c o,c≠S→h.get? c=some o→h'.get? c=some o):ZS h' z TI TO i1 i2 S:=by
 rcases q with⟨h,a,b,p⟩|⟨T,f,oT,h,p,n1,n2,n3,n4,n5⟩
 ·exact .inl ⟨k _ _ hzS h,a,b,k _ _ hTS p⟩
 ·exact .inr ⟨T,f,oT,k _ _ hzS h,k _ _ n5 p,n1,n2,n3,n4,n5⟩
theorem Wr {z TI TO i1 i2 l1 l2 S:Addr} {k:Nat} {xs ys:Array Value} {x y:Value} {Q:Option Value→Shared→Prop} (D:ZipApart z TI TO i1 i2 l1 l2) (hS:S<s.heap.objs.size)
 (hz:ZS s.heap z TI TO i1 i2 S) (yD:IsPair s.heap TI (.ref i1) (.ref i2)) (HQ:TO<s.heap.objs.size)
 (h1:s.heap.IsListIter i1 l1 k) (h2:s.heap.IsListIter i2 l2 k) (E7:s.heap.IsList l1 xs) (JL:s.heap.IsList l2 ys) (hx:xs[k]?=some x) (hy:ys[k]?=some y)
 (hQ:∀h',ZS h' z TI TO i1 i2 S→h'.IsListIter i1 l1 (k+1)→h'.IsListIter i2 l2 (k+1)→IsPair h' s.heap.objs.size x y→h'.objs.size=s.heap.objs.size+1 →
  (∀c o,c≠z→c≠TO→c≠i1→c≠i2→s.heap.get? c=some o→h'.get? c=some o)→Q (some (.ref s.heap.objs.size)) {s with heap:=h'}) :
 wpAny (model prog w) A (pyNext (.ref z)) Q E s:=by
 have lz:z<s.heap.objs.size:=by
  obtain⟨o,e,_⟩:=hz.typeIs
  exact Heap.lt_size e
 have li1:i1<s.heap.objs.size:=by obtain⟨_,e,_⟩:=h1;exact Heap.lt_size e
 have li2:i2<s.heap.objs.size:=by obtain⟨_,e,_⟩:=h2;exact Heap.lt_size e
 have hT:=hz.typeIs
 rcases hz with⟨hz,a,b,p⟩|⟨T,f,oT,hz,p,n1,n2,n3,n4,n5⟩
 ·exact wpAny_pyNext_zip_item D hz yD p h1 h2 E7 JL hx hy fun h' z' TO' a1 a2 a3 a4 a5=>hQ h' (.inr ⟨_,false,_,z',a3,ne_of_gt lz,ne_of_gt HQ,ne_of_gt li1,ne_of_gt li2,ne_of_gt hS⟩) a1 a2 a3 a4 a5
 ·unfold pyNext
  exact wpAny_bind (wpAny_attempt (wpAny_callSpecial?_slot (name:=Str.ofString "__next__") hT F.slot_zip_next
   (wpAny_call_entry F.slot_zip_next hT F.entry_zip_next
    (Ms D hz p yD h1 h2 E7 JL hx hy fun h' z' a1 a2 a3 a4 a5=>wpAny_pure (hQ h' (.inr ⟨T,true,oT,z',a5 _ _ n1 n3 n4 p,n1,n2,n3,n4,n5⟩) a1 a2 a3 a4 fun c o c1 _ c3 c4 e=>a5 c o c1 c3 c4 e)) (F.args_zip_next_1 _))))
theorem Y5 {z TI TO i1 i2 l1 l2 S:Addr} {k:Nat} {xs ys:Array Value} {Q:Option Value→Shared→Prop} (hh:A.handled=none) (D:ZipApart z TI TO i1 i2 l1 l2)
 (hz:ZS s.heap z TI TO i1 i2 S) (yD:IsPair s.heap TI (.ref i1) (.ref i2))
 (h1:s.heap.IsListIter i1 l1 k) (h2:s.heap.IsListIter i2 l2 k) (E7:s.heap.IsList l1 xs) (JL:s.heap.IsList l2 ys) (So:xs[k]?=none)
 (hQ:∀h',(∀c o,c≠z→c≠TO→c≠i1→c≠i2→s.heap.get? c=some o→h'.get? c=some o)→Q none {s with heap:=h'}) :
 wpAny (model prog w) A (pyNext (.ref z)) Q E s:=by
 have hT:=hz.typeIs
 rcases hz with⟨hz,a,b,p⟩|⟨T,f,oT,hz,p,n1,n2,n3,n4,n5⟩
 ·exact wpAny_pyNext_zip_end hh D hz yD p h1 h2 E7 JL (.inl So) hQ
 ·unfold pyNext
  refine wpAny_bind (wpAny_attempt (wpAny_callSpecial?_slot (name:=Str.ofString "__next__") hT F.slot_zip_next
   (wpAny_call_entry F.slot_zip_next hT F.entry_zip_next (OB hh D hz p yD h1 E7 So fun h' e hk he=>?_) (F.args_zip_next_1 _))))
  obtain⟨o,ho,hc⟩:=he
  refine wpAny_bind (wpAny_isInstance (T := "StopIteration") (b:=true) ⟨o,ho,hc⟩ isSubtype_stop ?_)
  exact wpAny_pure (hQ _ fun c o c1 _ c3 c4 e=>hk c o c1 c3 c4 e)
theorem Ju:typeLookup (.type "zip") "keys" = pure none:=am_miss_of_fast (by first|decide +kernel|rfl)
theorem CY:typeLookup (.type "zip") "__getattr__" = pure none:=by rw[typeLookup_type,builtinLookup_eq_fast];kernel_rfl
theorem tu:entryFor table "zip.__getattribute__" = some Builtin.«object.__getattribute__» :=
 entryFor_alias (id' := "object.__getattribute__") (by kernel_rfl) (by decide +kernel) (by decide +kernel) (by kernel_rfl)
theorem HJ (a:Addr) (xs:Array Value) (name:Str) (u:Tok) (aaa:typeLookup (.type "zip") name=pure none) (Ws:(["__module__","__name__","__qualname__","__doc__","__annotations__"]:List Str).contains name=false) (hsz:name.length+100≤sizeLine:=by size_fits) :
 Meets (Builtin.«object.__getattribute__» ⟨[.ref a,.str name u],[]⟩) (fun A R s=>s.heap.get? a=some {cls:=.type "zip",dict:=none,data:=.fields xs,slots:=#[]}∧raisesAttr (.ref a) name A R s) :=
 Meets.of_wp fun prog w A R s hs=>by
  obtain⟨hp,g,d,tk,os⟩:=s
  obtain⟨hx,hs⟩:=hs
  have hT:(⟨hp,g,d,tk,os⟩:Shared).TypeIs (.ref a) "zip":=⟨_,hx,rfl⟩
  unfold Builtin.«object.__getattribute__»
  repeat (any_goals (first|assumption|wp_step))
  simp only[Ws,false_eq_true,if_false]
  repeat (any_goals (first|assumption|wp_step))
  exact wpAny_raiseAttrError hs.1 hs.2 (attrMsg_fits (by decide +kernel) hsz)
theorem Wt {a:Addr} {xs:Array Value} {Q:Option Value→Shared→Prop} (hx:s.heap.get? a=some {cls:=.type "zip",dict:=none,data:=.fields xs,slots:=#[]}) (hA:A.handled=none)
 (h:∀h' tk,(∀b ob,s.heap.get? b=some ob→h'.get? b=some ob)→Q none {s with heap:=h',toks:=tk}):wpAny (model prog w) A (getAttr? (.ref a) "keys") Q E s:=by
 obtain⟨hp,g,d,tk,os⟩:=s
 have hT:∀tk',(⟨hp,g,d,tk',os⟩:Shared).TypeIs (.ref a) "zip":=fun _=>⟨_,hx,rfl⟩
 have aaa:=Ju
 have Ws:(["__module__","__name__","__qualname__","__doc__","__annotations__"]:List Str).contains "keys" = false:=by decide +kernel
 have hsz:("keys" : Str).length+100≤sizeLine:=by first|size_fits|decide +kernel
 have f1:=sub_AttributeError
 have f3:=F.slot_zip_getattribute.lookup
 have f4:=F.slot_zip_getattribute.bind (.ref a)
 have f5:=CY
 unfold getAttr? getAttrBy? getAttrBy
 repeat (any_goals (first|assumption|exact hT _|((with_reducible show wpAny _ _ (call (Value.builtin "zip.__getattribute__") _ _) _ _ _);refine call_meets F.slot_zip_getattribute (hT _) tu (F.args_zip_getattribute_2 _ _) (HJ a xs "keys" _ aaa Ws hsz) ⟨hx,hA,fun h' tk' e hx'=>?_⟩)|wp_step))
 obtain⟨t',u',he⟩:=hx'.there
 show wpAny _ _ (getattributeRaised _ _ _ _ _ _ _) _ _ _
 unfold getattributeRaised
 repeat (any_goals (first|assumption|wp_step))
 all_goals first|exact h _ _ hx'.keeps|(dsimp only;repeat (any_goals (first|assumption|exact h _ _ hx'.keeps|wp_step)))
end
section
variable {prog:Program} {w:World} {A:Around} {E:Value→Shared→Prop}
theorem Kv {R:Result→Shared→Prop} {S z TI TO i1 i2 l1 l2:Addr} {xs ys:Array Value} {res:Value} (hh:A.handled=none) (D:ZipApart z TI TO i1 i2 l1 l2) (n1:S≠z) (n2:S≠TI) (n3:S≠TO) (n4:S≠i1) (n5:S≠i2) (n6:S≠l1) (n7:S≠l2) :
 ∀(rest:List (Key×Value)) (i:Nat) (acc:List (Key×Value)) (ix:Int) (t:Tok) (s:Shared),xs.size=i+rest.length→acc.length+rest.length≤sizeLine →
  (∀(j:Nat) (q:Key×Value),rest[j]?=some q→∃u:Value,xs[i+j]?=some u∧ys[i+j]?=some q.2∧De q.1 u=true) →
  ZS s.heap z TI TO i1 i2 S→IsPair s.heap TI (.ref i1) (.ref i2)→TO<s.heap.objs.size→s.heap.IsListIter i1 l1 i→s.heap.IsListIter i2 l2 i→s.heap.IsList l1 xs→s.heap.IsList l2 ys→s.heap.DictOf (cp prog w) S acc →
  (∀h' tk,h'.DictOf (cp prog w) S (merged acc rest)→(∀b o,b≠S→b≠z→b≠TO→b≠i1→b≠i2→s.heap.get? b=some o→h'.get? b=some o)→R (.ok (.ret res)) {s with heap:=h',toks:=tk}) →
  codeAny (model prog w) A (.builtin "dict.update.loop" ⟨[.ref S,.ref z,.int ix t,res],[]⟩) R s
 | [],i,acc,ix,t,s,hsz,T5,ht,hz,yD,HQ,h1,h2,E7,JL,hm,hR=>by
  refine codeAny_builtin MS ?_
  rw[Around.under_plainId uq _]
  show wpAny _ A.in1 (pyNext (.ref z) >>= _) _ _ s
  refine wpAny_bind (Y5 (A:=A.in1) hh D hz yD h1 h2 E7 JL (by first|exact Array.getElem?_eq_none (le_of_eq hsz)|(simp at hsz;simp;lia)) fun h' hk=>?_)
  show wpAny _ A.in1 (Builtin.Dict.addKeywords S [] >>= _) _ _ _
  refine wpAny_bind (wpAny_pure (wpAny_pure ?_))
  exact hR h' s.toks (hm.at fun o e=>hk S o n1 n3 n4 n5 e) fun b o _ b2 b3 b4 b5 e=>hk b o b2 b3 b4 b5 e
 |q::rest,i,acc,ix,t,s,hsz,T5,ht,hz,yD,HQ,h1,h2,E7,JL,hm,hR=>by
  obtain⟨u,hu,hv,hk⟩:=ht 0 q rfl
  rw[length_cons]at hsz T5
  have hS:S<s.heap.objs.size:=by
   obtain⟨o,e,_⟩:=hm.typeIs (s:=s)
   exact Heap.lt_size e
  refine codeAny_builtin MS ?_
  rw[Around.under_plainId uq _]
  show wpAny _ A.in1 (pyNext (.ref z) >>= _) _ _ s
  refine wpAny_bind (Wr (A:=A.in1) (x:=u) (y:=q.2) D hS hz yD HQ h1 h2 E7 JL (by simpa using hu) (by simpa using hv) fun g1 Y3 j1 j2 hp hgs hg=>?_)
  have hm1:g1.DictOf (cp prog w) S acc:=hm.at fun o e=>hg S o n1 n3 n4 n5 e
  have aiM:IsPair g1 TI (.ref i1) (.ref i2):=hg _ _ D.TIz D.TITO D.TIi1 D.TIi2 yD
  have aiN:g1.IsList l1 xs:=E7.at fun o e=>hg _ o D.l1z D.l1TO D.l1i1 D.l1i2 e
  have aiO:g1.IsList l2 ys:=JL.at fun o e=>hg _ o D.l2z D.l2TO D.l2i1 D.l2i2 e
  have aiP:TO<g1.objs.size:=by rw[hgs];exact lt_succ_of_lt HQ
  show wpAny _ A.in1 (holding [Value.ref s.heap.objs.size] _ >>= _) _ _ _
  refine wpAny_bind (wpAny_holding ?_)
  refine wpAny_bind (wpAny_tryCatch ?_)
  unfold Builtin.Dict.pairItems
  refine wpAny_bind (wpAny_typeOf (T := "tuple") ⟨_,hp,rfl⟩ ?_)
  rw[iPp (by first|decide|rfl|simp)]
  refine wpAny_bind (wpAny_seqItems hp rfl (wpAny_pure ?_))
  show wpAny _ A.in1 (holding [u,q.2] (dictSet S u q.2)) _ _ _
  refine wpAny_holding (wpAny_dictSet_pairs (knd:=cp prog w) (k:=q.1) hk hm1 (fun g2 hm2 Zm=>?_) (by lia))
  have k2:∀c o,c≠S→g1.get? c=some o→g2.get? c=some o:=fun c o hc e=>Zm.extBut c o hc e
  have aiQ:g2.objs.size=g1.objs.size:=Zm.1
  refine wpAny_pure ⟨plainId_quiet uq _,Kv (xs:=xs) (ys:=ys) hh D n1 n2 n3 n4 n5 n6 n7 rest (i+1) (stored acc q.1 q.2) (ix+1) 0 _ (show xs.size=i+1+rest.length by lia) ?_ (fun j q' e=>?_) ?_ ?_ ?_ ?_ ?_ ?_ ?_ hm2 fun h' tk Ua k=>?_⟩
  ·have z:=stored_length_le acc q.1 q.2
   lia
  ·obtain⟨u',e1,e2,e3⟩:=ht (j+1) q' (by simpa using e)
   rw[show i+1+j=i+(j+1) by lia]
   exact⟨u',e1,e2,e3⟩
  ·exact Y3.keep n1.symm n3.symm k2
  ·exact k2 _ _ n2.symm aiM
  ·show TO<g2.objs.size
   rw[aiQ]
   exact aiP
  ·exact j1.at fun o e=>k2 _ o n4.symm e
  ·exact j2.at fun o e=>k2 _ o n5.symm e
  ·exact aiN.at fun o e=>k2 _ o n6.symm e
  ·exact aiO.at fun o e=>k2 _ o n7.symm e
  ·exact hR h' tk Ua fun c oc c1 c2 c3 c4 c5 e=>k c oc c1 c2 c3 c4 c5 (k2 _ _ c1 (hg c oc c2 c3 c4 c5 e))
theorem Jv {s:Shared} {z TI TO i1 i2 l1 l2:Addr} {xs ys:Array Value} {va vb:Value} {prs:List (Key×Value)} {Q:Value→Shared→Prop} (hh:A.handled=none) (D:ZipApart z TI TO i1 i2 l1 l2) (hz:IsZip s.heap z TI TO .none) (yD:IsPair s.heap TI (.ref i1) (.ref i2)) (HQ:IsPair s.heap TO va vb)
 (h1:s.heap.IsListIter i1 l1 0) (h2:s.heap.IsListIter i2 l2 0) (E7:s.heap.IsList l1 xs) (JL:s.heap.IsList l2 ys) (hsz:xs.size=prs.length) (T5:prs.length≤sizeLine)
 (ht:∀(j:Nat) (q:Key×Value),prs[j]?=some q→∃u:Value,xs[j]?=some u∧ys[j]?=some q.2∧De q.1 u=true)
 (h:∀h' tk,h'.DictOf (cp prog w) s.heap.objs.size (merged [] prs)→(∀b o,b≠z→b≠TO→b≠i1→b≠i2→s.heap.get? b=some o→h'.get? b=some o)→Q (.ref s.heap.objs.size) {s with heap:=h',toks:=tk}) :
 wpAny (model prog w) A (call (.type "dict") [.ref z]) Q E s:=by
 refine callType_codes (Q₁:=fun obj s₁=>obj = .ref s.heap.objs.size∧s₁ = {s with heap:=s.heap.push {cls:=.type "dict",data:=.dict #[]}}) F.kt_called_dict (F.kt_typeCall_dict_1 _) F.entry_dict_init (kt_code_dict_new _ ⟨rfl,rfl⟩) ?_
 rintro obj s₁ ⟨rfl,rfl⟩
 have O0:(s.heap.push {cls:=.type "dict",data:=.dict #[]}).DictOf (cp prog w) s.heap.objs.size []:=Heap.DictOf.new s.heap
 have k0:∀b o,s.heap.get? b=some o→(s.heap.push {cls:=.type "dict",data:=.dict #[]}).get? b=some o:=fun b o e=>Heap.get?_push_of_some _ e
 refine⟨O0.typeIs,F.args_dict_init_2 _ _,?_⟩
 unfold Builtin.«dict.__init__»
 refine wpAny_bind ?_
 unfold Builtin.Dict.selfAndRest
 refine wpAny_bind (wpAny_notOrdered_dict O0.typeIs ?_)
 show wpAny _ _ (pure (s.heap.objs.size,[Value.ref z])) _ _ _
 refine wpAny_pure ?_
 show wpAny _ _ (Builtin.Dict.updateFrom "dict.__init__" s.heap.objs.size (.ref z) [] .none) _ _ _
 unfold Builtin.Dict.updateFrom
 refine wpAny_bind (wpAny_typeOf (T := "zip") ⟨_,k0 _ _ hz,rfl⟩ ?_)
 rw[iPp (by first|decide|rfl|simp)]
 refine wpAny_bind (Wt (k0 _ _ hz) hh fun g1 tk1 hk1=>?_)
 rw[iPp (show(none:Option Value).isNone=true from rfl)]
 refine wpAny_bind (wpAny_rule ?_)
 have up:∀b o,s.heap.get? b=some o→g1.get? b=some o:=fun b o e=>hk1 _ _ (k0 _ _ e)
 refine wpAny_bind (wpAny_pyIter_zip (up _ _ hz) ?_)
 have lt:∀{b o},s.heap.get? b=some o→s.heap.objs.size≠b:=fun e=>ne_of_gt (Heap.lt_size e)
 have li1:s.heap.objs.size≠i1:=by obtain⟨_,e,_⟩:=h1;exact lt e
 have li2:s.heap.objs.size≠i2:=by obtain⟨_,e,_⟩:=h2;exact lt e
 have ll1:s.heap.objs.size≠l1:=by obtain⟨_,e,_⟩:=E7;exact lt e
 have ll2:s.heap.objs.size≠l2:=by obtain⟨_,e,_⟩:=JL;exact lt e
 have key:=Kv (prog:=prog) (w:=w) (A:=A.in1) (R:=wants (fun r s₂=>r = .none∧Q (.ref s.heap.objs.size) s₂) E) (S:=s.heap.objs.size) (xs:=xs) (ys:=ys) (res:=Value.none) hh D (lt hz) (lt yD) (lt HQ) li1 li2 ll1 ll2 prs 0 [] 0 0
  {s with heap:=g1,toks:=tk1} (by rw[hsz,zero_add]) (by rw[length_nil,zero_add];exact T5)
  (fun j q e=>by
   obtain⟨u,e1,e2,e3⟩:=ht j q e
   exact⟨u,by rw[zero_add];exact e1,by rw[zero_add];exact e2,e3⟩)
  (.inl ⟨up _ _ hz,va,vb,up _ _ HQ⟩) (up _ _ yD) (Heap.lt_size (up _ _ HQ)) (h1.at fun o e=>up _ o e) (h2.at fun o e=>up _ o e) (E7.at fun o e=>up _ o e) (JL.at fun o e=>up _ o e) (O0.at fun o e=>hk1 _ _ e)
  (fun h' tk Ua k=>⟨rfl,h h' tk Ua fun b o b1 b2 b3 b4 e=>k b o (lt e).symm b1 b2 b3 b4 (up _ _ e)⟩)
 first
  |exact wpAny_pure ⟨plainId_quiet uq _,key⟩
  |exact wpAny_bind (wpAny_pure (wpAny_pure ⟨plainId_quiet uq _,key⟩))
end
section
variable {X:Cx}
theorem Wu:∀(ks:List Key) {ys:List V} {us:List Value},Vals ys us→KV (ks.zip ys) (ks.zip us)
 | [],_,_,_=>by simp only[List.zip_nil_left];exact .nil
 |k::ks,_,_,.nil=>by simp only[List.zip_nil_right];exact .nil
 |k::ks,_,_,.cons r t=>by
  rw[zip_cons_cons,zip_cons_cons]
  exact .cons ⟨rfl,r⟩ (Wu ks t)
def Wv (K:W.Frag) (ta:TA):TE:=fun σ H Q=>ta σ H fun vs H1=>∃(a b:Addr) (ks:List Key) (ys:List V),vs=[.ref a,.ref b]∧bP K H1 a (ks.map kV)∧bP K H1 b ys∧ks.length=ys.length∧∀p,H1 p=none→Q (.ref p) (upd H1 p (.dK (kS [] (ks.zip ys))))
theorem QL:bootBuiltins "dict" = some (.type "dict"):=by decide +kernel
theorem QM {e e2:Expr} {ta:TA} {p pos p2 TZ:Pos} (afn:X.calm=true) (hg:Gl X "dict") (hm:X.mg "dict" = none) (hgz:Gl X "zip") (hmz:X.mg "zip" = none) (ha:PA X [e,e2] ta)
 (hs:starEach [e,e2] X.env=(false,eval e X.env)::starEach [e2] X.env:=by rfl) (oM:(backTo TZ (starEach [e2] X.env)).any (·.1)=false:=by rfl)
 (hs1:starEach [Expr.Call (.Name "zip" p2) [e,e2] [] TZ] X.env=(false,eval (.Call (.Name "zip" p2) [e,e2] [] TZ) X.env)::starEach [] X.env:=by rfl) (aiR:(backTo pos (starEach [] X.env)).any (·.1)=false:=by rfl) :
 PE X (.Call (.Name "dict" p) [.Call (.Name "zip" p2) [e,e2] [] TZ] [] pos) (Wv X.K ta):=by
 intro pp s σ H Q I h
 refine wpAny_Call_Name_kw (rB I hg hm QL ?_)
 refine PyProof.Rows.callWith_type1 ?_ hs1 aiR
 rw[hs1]
 show wpAny _ _ (spliced ((false,eval (.Call (.Name "zip" p2) [e,e2] [] TZ) X.env)::backTo pos (starEach [] X.env))) _ _ s
 refine Calls.spliced_cons ?_
 refine Call_ (rB I hgz hmz JP (PyProof.Rows.callWith_type1 (dq (ha TZ pp s σ H _ I h) fun us s1 ⟨vs,H1,I1,r1,q1⟩=>?_) hs oM))
 obtain⟨a,b,ks,ys,ex,Zt,Zu,hlen,q⟩:=q1
 subst ex
 cases r1 with
 |cons r rr =>
  cases rr with
  |cons r' rr =>
   cases rr
   cases r
   cases r'
   obtain⟨bu,rv,p1,Y3⟩:=I1.list Zt
   obtain⟨rE,rv2,p2',_⟩:=I1.list Zu
   have la:a<s1.heap.objs.size:=p1.lt
   have lb:b<s1.heap.objs.size:=p2'.lt
   refine call_zip_2 p1.isList p2'.isList fun h' hz yD HQ h1 h2 hsz hk=>Calls.spliced_nil ?_
   have I2:Inv X pp σ H1 {s1 with heap:=h'}:=I1.kept (t':=s1.toks) hk
   have l1:=rv.length
   have l2:=rv2.length
   rw[length_map]at l1 Y3
   have lp:(ks.zip rE).length=ks.length:=by rw[length_zip];lia
   refine Jv (s:={s1 with heap:=h'}) (prs:=ks.zip rE) (I2.ok.hd afn) (W.ktu_apart s1.heap.objs.size a b la lb) hz yD HQ h1 h2 (p1.isList.at fun o e=>hk _ o e) (p2'.isList.at fun o e=>hk _ o e) (by rw[lp];simp;lia) (by rw[lp];exact Y3) (fun j q' e=>?_) fun h'' tk Ua k=>?_
   ·obtain⟨e1,e2⟩:=List.getElem?_zip_eq_some.mp e
    obtain⟨u,hu,ru⟩:=rv.get (i:=j) (x:=kV q'.1) (by rw[getElem?_map,e1];rfl)
    exact⟨u,by simpa using hu,by simpa using e2,Ae (P:=X.prog) (w:=X.w) ru⟩
   ·have hmn:(h'.objs.size==sysModules)=false:=beq_eq_false_iff_ne.mpr (ne_of_gt I2.big)
    have rel:KV (ks.zip ys) (ks.zip rE):=Wu ks rv2
    have RD:(kS [] (ks.zip ys)).length≤sizeLine:=by
     refine le_trans (pQ (ks.zip ys) []) ?_
     rw[length_nil,zero_add,rel.length,lp]
     exact Y3
    refine⟨.ref h'.objs.size,upd H1 h'.objs.size (.dK (kS [] (ks.zip ys))),I2.JO (t':=tk) (ch:=[s1.heap.objs.size+4,s1.heap.objs.size+2,s1.heap.objs.size+3,s1.heap.objs.size,s1.heap.objs.size+1]) (fun c o hb e=>k c o (fun q'=>hb (by simp[q'])) (fun q'=>hb (by simp[q'])) (fun q'=>hb (by simp[q'])) (fun q'=>hb (by simp[q'])) e) (fun c hcm=>?_) (le_refl _) (show eZ X.prog X.w _ _ _ (.dK (kS [] (ks.zip ys))) from ⟨RD,hmn,merged [] (ks.zip rE),KV.merge rel .nil,Ua⟩),rfl,q _ (I2.cG.fresh (le_refl _))⟩
    have e':c=s1.heap.objs.size+4∨c=s1.heap.objs.size+2∨c=s1.heap.objs.size+3∨c=s1.heap.objs.size∨c=s1.heap.objs.size+1:=by simpa using hcm
    have hle:s1.heap.objs.size≤c:=by
     rcases e' with z|z|z|z|z
     ·rw[z];exact le_add_right _ _
     ·rw[z];exact le_add_right _ _
     ·rw[z];exact le_add_right _ _
     ·rw[z];exact le_refl _
     ·rw[z];exact le_add_right _ _
    exact I1.MC hle (I1.cG.fresh hle)
end
end L2
namespace MI
open PySem L2 Rc31
structure acx (a:Ad0) (H:Hp) (N:Addr→Prop) (x:Addr) (i:Rc31.Image) (base:Nat) (mem:List UInt8) (dx gr dg hl md wl gd kH:Addr) (OC OD:V) (lv:List V) (aZ:List (Key×V)) (wa:List Addr) (ws:List Wn) (G:List (List UInt8×Nat)) (m:List UInt8):Prop where
 ob:H x=some (.ins a.bS dx (cM (.ref gr) (.int (base:Int)) (.int ((i.told.entry.getD 0:Nat):Int)) (.ref hl) (.ref md) (.ref wl) (.ref gd)))
 Y6:H gr=some (.ins a.c9 dg (gQ OC (.ref kH) (.int (i.told.base:Int)) (.int (i.told.size:Int)) OD))
 OE:H kH=some (.lst lv)
 lvl:lv.length=i.told.laid.length
 Y7:H hl=some (.lst (bv m))
 Y8:H md=some (.dK aZ)
 mdk:∀z:Int,(jt aZ (Sum.inl z)).isSome=decide (∃p∈i.mends,(p:Int)=z)
 mdl:aZ.length=i.mends.length
 oWl:H wl=some (.lst (wa.map V.ref))
 pr:Paired (rm a i.told.libraries N hl x H) wa ws
 wn:i.wants=ws.flatMap eY
 wok:∀u∈ws,Tu i.told u
 aiT:ws.length≤1048576
 Y9:H gd=some (.dT (gk G))
 gp:i.gives.Perm G
 gn:(G.map fun x=>x.1).Nodup
 g0:∀y∈i.gives,y.1≠[]
 tok:MX.wJ i.told
 libs:∀l∈i.told.libraries,l.length≤255
 dist:distant (i.mends++i.wants.map fun w=>w.word)=true
 Mt:m.length=i.told.size
 Za:∀p∈i.mends++i.wants.map fun w=>w.word,p+8≤i.told.size
 aac:i.told.size≤4194304
 kG:i.told.base<2^48
 Ww:base<2^48
 T1:mem=mended m ((W64+base-i.told.base)%W64) i.mends
 ns:N x∧N gr∧N kH∧N hl∧N md∧N wl∧N gd
 ne:gr≠x∧kH≠hl∧wl≠hl
inductive tU (a:Ad0) (H:Hp) (N:Addr→Prop) (x:Addr) (i:Rc31.Image) (base:Nat) (mem:List UInt8):Prop
 |mk (dx:_) (gr:_) (dg:_) (hl:_) (md:_) (wl:_) (gd:_) (kH:_) (OC:_) (OD:_) (lv:_) (aZ:_) (wa:_) (ws:_) (G:_) (m:_) (q0:acx a H N x i base mem dx gr dg hl md wl gd kH OC OD lv aZ wa ws G m):tU a H N x i base mem
theorem nA {a b:List Nat} (h:distant (a++b)=true):distant a=true:=by
 cases e:distant a with
 |true=>rfl
 |false =>
  rw[(MX.kx (b:=b) e).1]at h
  cases h
theorem Jw {l:List Nat} (h:distant l=true):l.Nodup:=by
 refine((MX.dv l).mp h).imp ?_
 intro x y q e
 subst e
 lia
def kp (ps:List Nat):List (Key×V):=ps.map fun(p:Nat)=>((Sum.inl (p:Int):Key),V.int (p:Int))
theorem QN (z:Int):∀ps:List Nat,(jt (kp ps) (Sum.inl z)).isSome=decide (∃p∈ps,(p:Int)=z)
 | []=>by
  rw[decide_eq_false (fun⟨p,hp,_⟩=>nomatch hp)]
  rfl
 |p::ps=>by
  have ih:=QN z ps
  show(jt (((Sum.inl (p:Int):Key),V.int (p:Int))::kp ps) (Sum.inl z)).isSome=_
  by_cases h:(p:Int)=z
  ·rw[lP (by show(Sum.inl (p:Int):Key)=Sum.inl z;rw[h])]
   rw[decide_eq_true ⟨p,mem_cons_self ..,h⟩]
   rfl
  ·rw[lQ (fun q=>h (by injection q)),ih]
   congr 1
   refine propext ⟨fun⟨q,hq,e⟩=>⟨q,mem_cons_of_mem _ hq,e⟩,fun⟨q,hq,e⟩=>?_⟩
   rcases mem_cons.mp hq with r|r
   ·rw[r]at e
    exact absurd e h
   ·exact⟨q,r,e⟩
theorem acy {ps:List Nat} {p:Nat} (h:p∉ps):putK (kp ps) (Sum.inl (p:Int)) (V.int (p:Int))=kp (ps++[p]):=by
 unfold putK
 rw[um,QN,decide_eq_false (fun⟨q,hq,e⟩=>h (by rw[show p=q by lia];exact hq))]
 show(if false=true then _ else _)=_
 rw[IN (by decide)]
 unfold kp
 rw[map_append]
 rfl
theorem OF:∀(qs ps:List Nat),(ps++qs).Nodup→kS (kp ps) (kp qs)=kp (ps++qs)
 | [],ps,_=>by rw[append_nil];rfl
 |q::qs,ps,nd=>by
  show kS (putK (kp ps) (Sum.inl (q:Int)) (V.int (q:Int))) (kp qs)=_
  have h:q∉ps:=fun hm=>by
   have:=(nodup_append.mp nd).2.2 q hm q (mem_cons_self ..)
   exact this rfl
  rw[acy h,OF qs (ps++[q]) (by rw[append_assoc];exact nd),append_assoc]
  rfl
theorem acz (ps:List Nat):(ps.map fun(p:Nat)=>(Sum.inl (p:Int):Key)).zip (nv ps)=kp ps:=by
 unfold nv kp
 induction ps with
 |nil=>rfl
 |cons p ps ih =>
  rw[map_cons,map_cons,zip_cons_cons,ih]
  rfl
theorem HK {α β γ:Type} {F:α→γ→Prop} {f:β→γ}:∀{l:List α} {m:List β},Paired (fun x u=>F x (f u)) l m→Paired F l (m.map f)
 |_,_,.nil=>.nil
 |_,_,.cons r t=>.cons r (HK t)
theorem R1 {b:List UInt8} {t:Told} (T:TG b t):t.base<2^48:=by
 have hr:=T.row
 cases hl:t.laid with
 |nil=>rw[hl]at hr;exact hr.elim
 |cons s r =>
  rw[hl]at hr
  have h1:=hr.2.2.1
  rw[Hc]at h1
  have HP:s::r≠[]:=by simp
  have hm:(s::r).getLast HP∈t.laid:=by rw[hl];exact List.getLast_mem HP
  have h2:=T.tok.lo _ hm
  rw[List.getLast?_eq_getLast HP,Option.getD_some]at h1
  lia
theorem CZ {t:Told} (T:MX.wJ t) {rs:List Rn} (h:∀r∈rs,xA t r):∀q∈outs rs,q+8≤t.size:=by
 intro q hq
 unfold outs at hq
 obtain⟨r,hr,hq⟩:=List.mem_flatMap.mp hq
 unfold wm at hq
 obtain⟨j,hj,rfl⟩:=mem_map.mp hq
 exact TF T ((h r hr).row j (mem_range.mp hj))
section
variable {g:Gm} {a:Ad}
inductive Kw (a:Ad) (vs:List V) (H:Hp) (Q:VK) (E:XK):Prop
 |mk (p ls ll:Addr) (b:List UInt8) (n:Nat) (t:Told) (q0:vs=[.ref p]) (q1:kQ a H p ls ll b n t) (q2:∀pl q1 q2 q3 H',H' pl=some (.lst [.ref q1,.ref q2,.ref q3])→H' q1=some (.lst (bv (Rc31.part b (dF t).1)))→H' q2=some (.lst (bv (Rc31.part b (dF t).2.1)))→H' q3=some (.lst (bv (Rc31.part b (dF t).2.2)))→ax H H'→Q (.ref pl) H'):Kw a vs H Q E
theorem C7 (b:List UInt8):Rc31.part b (0,0)=[]:=by
 unfold Rc31.part
 exact take_zero
theorem OG (T:Tx g.K g.mg a):Pr g 1 a.FY ["contents"] (Kw a):=by
 refine Pr.on T.F5 MU fun b6 A outer s H vs Q E hr h=>?_
 obtain⟨p,ls,ll,b,n,t,rfl,⟨dx,bg,pt,sa,la,as,D⟩,k⟩:=h
 refine⟨_,ae (dt (BS (BR (ar (pv 0) rfl))) (ag (aS (cy (aa (cy ai) (aa (cy ai) (aa (cy ai) ai)))))) gz)
  (ag (aS (ar (pv 0) rfl))),?_⟩
 have hp:=D.pt
 refine⟨_,rfl,p,_,dx,_,_,rfl,D.ob,T.aM,T.cC,lg,_,rfl,?_⟩
 cases hi:t.info with
 |none =>
  rw[hi]at hp
  obtain⟨rfl,_⟩:=hp
  have ed:dF t=((0,0),(0,0),(0,0)):=by unfold dF;rw[hi];rfl
  rw[ed]at k
  refine iE ⟨zero_le _,fun q1 n1=>⟨zero_le _,fun q2 n2=>⟨zero_le _,fun q3 n3=>⟨(by show 3≤sizeLine;decide),fun pl np=>?_⟩⟩⟩⟩
  have s1:ax H (upd H q1 (.lst [])):=ax.upd n1
  have h1:upd H q1 (.lst []) q1=some (.lst []):=af
  generalize upd H q1 (.lst [])=H1 at *
  have s2:ax H1 (upd H1 q2 (.lst [])):=ax.upd n2
  have h2:upd H1 q2 (.lst []) q2=some (.lst []):=af
  generalize upd H1 q2 (.lst [])=H2 at *
  have s3:ax H2 (upd H2 q3 (.lst [])):=ax.upd n3
  have h3:upd H2 q3 (.lst []) q3=some (.lst []):=af
  generalize upd H2 q3 (.lst [])=H3 at *
  have s4:ax H3 (upd H3 pl (.lst [.ref q1,.ref q2,.ref q3])):=ax.upd np
  refine k pl q1 q2 q3 _ af ?_ ?_ ?_ (((s1.trans s2).trans s3).trans s4)
  ·rw[C7]
   exact s4 _ _ (s3 _ _ (s2 _ _ h1))
  ·rw[C7]
   exact s4 _ _ (s3 _ _ h2)
  ·rw[C7]
   exact s4 _ _ h3
 |some d =>
  rw[hi]at hp
  obtain⟨d1,d2,d3⟩:=d
  obtain⟨pl,q1,q2,q3,rfl,_,h0,h1,h2,h3⟩:=hp
  have ed:dF t=(d1,d2,d3):=by unfold dF;rw[hi];rfl
  rw[ed]at k
  exact eA ⟨_,rfl,p,_,dx,_,_,rfl,D.ob,T.aM,T.cC,lg,k pl q1 q2 q3 H h0 h1 h2 h3 (ax.refl _)⟩
inductive yy (a:Ad) (vs:List V) (H:Hp) (Q:VK) (E:XK):Prop
 |mk (p ls ll:Addr) (b:List UInt8) (n:Nat) (t:Told) (q0:vs=[.ref p]) (q1:kQ a H p ls ll b n t) (q2:Q (.int ((t.entry.getD 0:Nat):Int)) H):yy a vs H Q E
theorem EZ (T:Tx g.K g.mg a):Pr g 1 a.r9 ["contents"] (yy a):=by
 refine Pr.on T.vh Er fun b6 A outer s H vs Q E hr h=>?_
 obtain⟨p,ls,ll,b,n,t,rfl,⟨dx,bg,pt,sa,la,as,D⟩,k⟩:=h
 refine⟨_,ae (dt (BS (BR (ar (pv 0) rfl))) (ag (aS ak)) gz)
  (ag (aS (ar (pv 0) rfl))),?_⟩
 have hp:=D.bg
 refine⟨_,rfl,p,_,dx,_,_,rfl,D.ob,T.aM,T.bc,dI,_,rfl,?_⟩
 cases hi:t.entry with
 |none =>
  rw[hi]at hp k
  obtain rfl:bg = .dh:=hp
  exact iE k
 |some e =>
  rw[hi]at hp k
  obtain rfl:bg = .int (e:Int):=hp
  exact eA ⟨_,rfl,p,_,dx,_,_,rfl,D.ob,T.aM,T.bc,dI,k⟩
inductive Dc (a:Ad) (vs:List V) (H:Hp) (Q:VK) (E:XK):Prop
 |mk (f:Addr) (b:List UInt8) (q0:vs=[.ref f]) (q1:H f=some (.lst (bv b))) (q2:b.length≤1048576) (q3:(∀z,H z=none→a.new z)) (q4:(b.length<1∨Rc31.image b=none→∀H',ax H H'→E (.ref a.aE) none H')) (q5:∀i,1≤b.length→Rc31.image b=some i→∀x H',tU a.toAd0 H' a.new x i i.told.base i.memory→H x=none→ax H H'→Q (.ref x) H'):Dc a vs H Q E
theorem Wx {b:List UInt8} (h:toldOf b=none):Rc31.image b=none:=by
 unfold Rc31.image
 rw[h]
 rfl
theorem OH (T:Tx g.K g.mg a):Pr g 12 a.Ao ["file"] (Dc a):=by
 refine Pr.on T.F7 dG fun b6 A outer s H vs Q E hr h=>?_
 obtain⟨f,b,rfl,hf,hb,Eh,k0,k1⟩:=h
 refine⟨_,ae (az (aB T) au hr (by decide) T.aA (zW iO iO ak (aV aJ (by rfl) T.eO boot_len (aa (pv 0) ai)) (pk T.DQ)))
  (ae (aI (i:=1) dG.nd rfl (Or.inl rfl) (aU (G8 T) au hr (by decide) T.xM (aa (pv 0) ai)))
  (ae (aI (i:=2) dG.nd rfl (Or.inl rfl) (aU (L1 T) au hr (by decide) T.DB (aa (pv 1) ai)))
  (ae (aI (i:=3) dG.nd rfl (Or.inl rfl) (aU (OG T) au hr (by decide) T.F6 (aa (pv 1) ai)))
  (ae (aI (i:=4) dG.nd rfl (Or.inl rfl) (aU (Mb T) au hr (by decide) T.DE (aa (fN cJ (pv 3) ak (fun _ _=>rfl)) (aa (pv 2) ai))))
  (ae (aI (i:=5) dG.nd rfl (Or.inl rfl) (aU (Md T) au hr (by decide) T.Dx (aa (fN cJ (pv 3) ak (fun _ _=>rfl)) (aa (pv 2) (aa (ar (pv 1) rfl) ai)))))
  (ae (aR (aU (HB T) au hr (by decide) T.xJ (aa (aO BY (pv 4) (CK (te:=KJ g.K (zS 9) "run_wanted") J9 rfl dG.nd (lA (pv 5)) (nJ (N:=["file","contents","ground","parts","runs_mended","wanted","names","places","mended","want"]) (sc:=ao rQ) (own:=[("want",9)]) (by decide +kernel)) (fun _ _ _ _ _ _=>dJ (i:=9) dG.nd rfl (Or.inl rfl)) (fun _ _ _ _ _ _ _=>Aa) (fun _ _ _ _ _ _ pass=>ar (pv 9) rfl))) (aa (ar (pv 2) rfl) ai))))
  (ae (aI (i:=6) dG.nd rfl (Or.inl rfl) (aU (Hy T) au hr (by decide) T.xU (aa (fN cJ (pv 3) ak (fun _ _=>rfl)) (aa (ar (pv 2) rfl) ai))))
  (ae (aI (i:=7) dG.nd rfl (Or.inl rfl) (aU (BK T) au hr (by decide) T.u3 (aa (pv 4) ai)))
  (ae (aI (i:=8) dG.nd rfl (Or.inl rfl) (QM rfl rfl T.U8 rfl T.Va (aa (pv 7) (aa (pv 7) ai))))
  (ag (aS (kT (Jt T) T.AL au hr (by decide) T.Rj (aa (pv 2) (aa (aU (EZ T) au hr (by decide) T.vi (aa (pv 1) ai)) (aa (cN (pv 2) (HC T) T.bI T.lT au hr (by decide) (aa (pv 0) ai)) (aa (pv 8) (aa (pv 5) (aa (pv 6) ai)))))))))))))))))),?_⟩
 have hz:sizeLine=16777216:=sizeLine_eq
 refine⟨_,rfl,f,_,rfl,.inl (bP.of hf),_,_,rfl,rfl,_,rfl,?_⟩
 rw[bt]
 refine aw (fun c1=>?_) fun c1=>⟨false,rfl,eA (k0 (.inl (by lia)) _ (ax.refl _))⟩
 refine⟨_,_,rfl,rfl,_,rfl,?_⟩
 generalize Ym:decide ((b.length:Int)≤1048576)=b1
 refine dm (fun _=>?_) fun c2=>absurd (by lia) (of_decide_eq_false (Ym.trans c2))
 refine⟨_,rfl,f,b,rfl,hf,Eh,fun hn H1 s1=>k0 (.inr (Wx (by rw[MI.CO,hn];rfl))) _ s1,fun t ht p ls ll H1 C1 np nls WO s1=>?_⟩
 obtain⟨cG,Qe⟩:=VI ht
 refine⟨_,rfl,p,ls,ll,b,num b 20 4,t,rfl,C1,cG,Qe,fun hg H2 s2=>k0 (.inr (Wx (by rw[MI.CO,ht];show(if _ then _ else _)=_;rw[IN hg]))) _ (s1.trans s2),fun hg gr H2 G2 ngr s2=>?_⟩
 have hto:toldOf b=some t:=by rw[MI.CO,ht];show(if _ then _ else _)=_;rw[iPp hg]
 have tg:TG b t:=ZP cG Qe hg
 have R:=Y0 hto tg
 have s02:=s1.trans s2
 refine⟨_,rfl,p,ls,ll,b,_,t,rfl,C1.same s2,fun pl q1 q2 q3 H3 oM hq1 hq2 hq3 s3=>?_⟩
 have s03:=s02.trans s3
 obtain⟨do1,do2,do3⟩:=RY tg
 have acA:∀{d:Rc31.Dir},MX.rh b d→(Rc31.part b d).length≤1048576:=fun{d} h=>by
  rw[HG h]
  unfold MX.rh at h
  lia
 have l1:=acA do1
 have l2:=acA do2
 have l3:=acA do3
 refine⟨_,rfl,pl,_,_,_,rfl,rfl,bP.of oM,at_of (j:=0) rfl rfl,_,rfl,q1,gr,b,_,t,rfl,hq1,by lia,G2.same s3,tg,fun hn H4 s4=>k0 (.inr (R.noM hn)) _ (s03.trans s4),fun rs hrs ml ra H4 Mw hra hrl Yy s4=>?_⟩
 have s04:=s03.trans s4
 have WS:=s3.trans s4
 obtain⟨dxc,bg,pt,sa,la,as,D1⟩:=id C1
 have D4:=(D1.same s2).same WS
 refine⟨_,rfl,pl,_,_,_,rfl,rfl,bP.of (s4 _ _ oM),at_of (j:=1) rfl rfl,_,rfl,_,rfl,p,_,dxc,_,_,rfl,D4.ob,T.aM,T.bW,iu,q2,gr,ll,la,b,_,t,rfl,s4 _ _ hq2,by lia,D4.hl,bf D4.libs (fun x hx y q=>⟨q,D4.FG x hx⟩),(fun z e=>Eh z (s04.free e)),G2.same WS,tg,fun hn H5 s5=>k0 (.inr (R.noB hn)) _ (s04.trans s5),fun ws hws wl wa bad H5 zQ hwa akG nwl s5=>?_⟩
 have s05:=s04.trans s5
 have okM:=R.okM rs hrs
 have okB:=R.okB ws hws
 refine⟨_,rfl,_,rfl,wl,rfl,⟨_,bP.of zQ⟩,fun D hD=>?_⟩
 refine Ac (K:=g.K) (a:=wl) (xs:=wa.map V.ref) (fun i H6=>∃xa:List Addr,H6 D=some (.lst (xa.map V.ref))∧Paired (fun x (u:Wn)=>pM a H5 x (u.r.p:Int) u.r.n (MX.aD u.r.n u.r.skip)) xa (ws.take i)∧ax H5 H6) ⟨[],af,.nil,ax.upd hD⟩ (fun i H6 _ ⟨_,_,_,s6⟩=>bP.of (s6 _ _ zQ)) ?_ ?_
 ·rintro i y H6 hi ⟨xa,hd6,T6,s6⟩
  obtain⟨y,hy,rfl⟩:=pJ hi
  obtain⟨u,hu,⟨HU,xr,nl,ln,h1,h2,h3,h4,afo⟩⟩:=iB hwa hy
  obtain⟨oU,_⟩:=List.getElem?_eq_some_iff.mp hu
  refine⟨rfl,RG ?_⟩
  refine⟨_,rfl,y,_,HU,_,_,rfl,s6 _ _ h1,T.eU,T.bC,dP,_,hd6,?_,xa++[xr],?_,?_,?_⟩
  ·rw[length_map,bw T6,length_take]
   lia
  ·rw[af,map_append]
   rfl
  ·rw[gN hu]
   exact gy T6 h2
  ·intro z o e
   rw[aj (aq e hD)]
   exact s6 _ _ e
 rintro H6 ⟨xa,hd6,T6,s6⟩
 rw[length_map,bw hwa,take_length]at T6
 have s46:=s5.trans s6
 have lra:=bw hra
 have lxa:=bw T6
 refine⟨ml,D,_,_,rfl,rfl,s46 _ _ Mw,hd6,by rw[length_map,length_map,lra,lxa];lia,fun cl ncl=>?_⟩
 rw[←map_append]
 have s7:ax H6 (upd H6 cl (.lst ((ra++xa).map V.ref))):=ax.upd ncl
 have oN:upd H6 cl (.lst ((ra++xa).map V.ref)) cl=_:=af
 generalize upd H6 cl (.lst ((ra++xa).map V.ref))=H7 at *
 have s57:=s6.trans s7
 have s47:=s46.trans s7
 have s07:=s05.trans s57
 have G7:Bz a H7 gr t:=G2.same (WS.trans s47)
 obtain⟨dg,lsg,kH,sp,sga,lga,pga,GD7⟩:=G7
 have MR:∀r∈rs++ws.map (fun u=>u.r),xA t r:=fun r hr'=>(mem_append.mp hr').elim (okM r) fun q=>by
  obtain⟨u,hu,rfl⟩:=mem_map.mp q
  exact(okB u hu).r
 have UP:=CZ tg.tok MR
 have Zz:=size_le tg.tok
 refine⟨_,rfl,gr,_,dg,_,_,rfl,GD7.ob,T.bI,T.cU,jo,cl,ra++xa,t,rs++ws.map (fun u=>u.r),t.size,rfl,oN,sZ (Paired.ud hra fun _ _ q=>q.same s47) (HK (Paired.ud T6 fun _ _ q=>q.same s57)),tg.tok,MR,UP,by rw[length_append,length_map];lia,Zz,fun hd H8 s8=>k0 (.inr (R.noD rs ws hrs hws hd)) _ (s07.trans s8),fun hd H8 s8=>?_⟩
 have s08:=s07.trans s8
 have s58:=s57.trans s8
 have s48:=s47.trans s8
 have s38:=s4.trans s48
 have afp:=s8 _ _ GD7.ob
 refine⟨_,rfl,pl,_,_,_,rfl,rfl,bP.of (s38 _ _ oM),at_of (j:=2) rfl rfl,_,rfl,gr,_,dg,_,_,rfl,afp,T.bI,T.cU,jo,q3,t.size,_,rfl,s38 _ _ hq3,by lia,fun hn H9 s9=>k0 (.inr (R.noG hn)) _ (s08.trans s9),fun G gd H9 hG hGn Z2 ngd s9=>?_⟩
 obtain⟨gg,hgg,afq⟩:=hG
 have s09:=s08.trans s9
 have s49:=s48.trans s9
 have hdm:distant (outs rs)=true:=by
  rw[BN]at hd
  exact nA hd
 have akN:=MX.BB hdm fun q hq=>CZ tg.tok okM q hq
 refine⟨_,rfl,ml,ra,t,rs,rfl,s49 _ _ Mw,Paired.ud hra (fun _ _ q=>q.same s49),tg.tok,okM,by lia,fun ps H10 hps nps s10=>?_⟩
 have afr:=s09.trans s10
 refine⟨_,rfl,_,rfl,ps,ps,(outs rs).map fun(p:Nat)=>(Sum.inl (p:Int):Key),nv (outs rs),rfl,bP.of (by rw[hps];unfold nv;rw[map_map];rfl),bP.of hps,by rw[length_map,ly],fun md nmd=>?_⟩
 rw[acz,show kS [] (kp (outs rs))=kp (outs rs) from OF (outs rs) [] (Jw hdm)]
 have s11:ax H10 (upd H10 md (.dK (kp (outs rs)))):=ax.upd nmd
 have hmd:upd H10 md (.dK (kp (outs rs))) md=some (.dK (kp (outs rs))):=af
 generalize upd H10 md (.dK (kp (outs rs)))=H11 at *
 have acB:=afr.trans s11
 have acC:=s10.trans s11
 have ai1:=s9.trans acC
 have acD:=s58.trans ai1
 have afs:=s49.trans acC
 have D11:=D4.same afs
 have G11:Bz a H11 gr t:=G2.same (WS.trans afs)
 obtain⟨dg',aft,afu,Zp,aoG,ai3,aoH,T2⟩:=id G11
 refine⟨_,rfl,_,rfl,p,ls,ll,b,_,t,rfl,⟨dxc,bg,pt,sa,la,as,D11⟩,_,rfl,gr,dg',_,rfl,T2.ob,qL,_,rfl,gr,f,b,t,rfl,G11,tg,acB _ _ hf,fun hl H12 hhl nhl xy=>?_⟩
 have afv:=acB.trans xy
 have afw:=acD.trans xy
 have Dd:=xy _ _ T2.ob
 refine⟨_,rfl,_,rfl,_,rfl,fun x d nx nd nex=>⟨x,d,gr,dg',hl,md,wl,gd,gQ (.ref aft) (.ref afu) (.int (t.base:Int)) (.int (t.size:Int)) (.ref Zp),(t.base:Int),_,rfl,af,?_,lH,aq Dd nx,fun H13 ai4 k13=>⟨rfl,?_⟩⟩⟩
 ·rw[aj (aq Dd nx),aj (aq Dd nd)]
  exact Dd
 have Mf:ax H12 H13:=ax.tS nx nd k13
 have ai5:=afv.trans Mf
 have Wy:=afw.trans Mf
 have nx0:H x=none:=afv.free nx
 have ai6:H hl=none:=acB.free nhl
 have nx5:H5 x=none:=afw.free nx
 have afx:H5 hl=none:=acD.free nhl
 have acE:=R.yes rs ws gg hrs hws hgg hd
 have acF:((ws.flatMap eY).map fun w=>w.word)=outs (ws.map fun u=>u.r):=zL ws
 refine k1 _ (by lia) acE x H13 ⟨d,gr,dg',hl,md,wl,gd,afu,.ref aft,.ref Zp,ai3.map V.ref,kp (outs rs),wa,ws,G,Rc31.laid b t,?_⟩ nx0 ai5
 have aad:(Rc31.laid b t).length=t.size:=V7 tg
 have aae:outs rs++((ws.flatMap eY).map fun w=>w.word)=outs (rs++ws.map fun u=>u.r):=by rw[acF,BN]
 have ab0:∀i∈outs rs,i+8≤(Rc31.laid b t).length:=fun i hi=>by rw[aad];exact CZ tg.tok okM i hi
 refine⟨ai4,Mf _ _ Dd,Mf _ _ (xy _ _ T2.hl),by rw[length_map];exact bw T2.laid,Mf _ _ hhl,Mf _ _ (xy _ _ hmd),fun z=>QN z _,by unfold kp;rw[length_map],Wy _ _ zQ,?_,rfl,okB,by lia,Mf _ _ (xy _ _ (acC _ _ Z2)),afq,hGn,MX.Wq hgg,tg.tok,tg.ok.libs,?_,aad,?_,Zz,R1 tg,R1 tg,?_,?_,?_⟩
 ·refine Paired.ud hwa fun y u q=>?_
  obtain⟨HU,xr,nl,ln,h1,⟨dr,h2⟩,h3,h4,_,_,_,_,w1,w2,w3,w4⟩:=q
  exact⟨HU,xr,dr,nl,ln,Wy _ _ h1,Wy _ _ h2,Wy _ _ h3,Wy _ _ h4,⟨w1,w2,w3,w4⟩,aq h1 nx5,aq h2 nx5,aq h3 afx,aq h4 afx⟩
 ·show distant (outs rs++((ws.flatMap eY).map fun w=>w.word))=true
  rw[aae]
  exact hd
 ·show ∀p∈outs rs++((ws.flatMap eY).map fun w=>w.word),p+8≤t.size
  rw[aae]
  exact UP
 ·show Rc31.laid b t=mended (Rc31.laid b t) ((W64+t.base-t.base)%W64) (outs rs)
  rw[MX.Ol hdm ab0 (by rw[Nat.add_sub_cancel,Nat.mod_self];rfl)]
 ·exact⟨Eh x nx0,Eh gr (s1.free ngr),T2.FG,Eh hl ai6,Eh md (afr.free nmd),Eh wl (s04.free nwl),Eh gd (s08.free ngd)⟩
 ·exact⟨aq Dd nx,aq T2.hl nhl,aq (acD _ _ zQ) nhl⟩
end
theorem rm.agree {a:Ad0} {libs:List (List UInt8)} {N:Addr→Prop} {hl x:Addr} {H H':Hp} {y:Addr} {u:Wn} (h:rm a libs N hl x H y u) (k:∀b,N b→H' b=H b):rm a libs N hl x H' y u:=by
 obtain⟨dx,xr,dr,nl,ln,h1,h2,h3,h4,⟨n1,n2,n3,n4⟩,r⟩:=h
 exact⟨dx,xr,dr,nl,ln,(k _ n1).trans h1,(k _ n2).trans h2,(k _ n3).trans h3,(k _ n4).trans h4,⟨n1,n2,n3,n4⟩,r⟩
theorem rm.set {a:Ad0} {libs:List (List UInt8)} {N N':Addr→Prop} {hl x:Addr} {H:Hp} {y:Addr} {u:Wn} (h:rm a libs N hl x H y u) (k:∀b o,N b→H b=some o→N' b):rm a libs N' hl x H y u:=by
 obtain⟨dx,xr,dr,nl,ln,h1,h2,h3,h4,⟨n1,n2,n3,n4⟩,r⟩:=h
 exact⟨dx,xr,dr,nl,ln,h1,h2,h3,h4,⟨k _ _ n1 h1,k _ _ n2 h2,k _ _ n3 h3,k _ _ n4 h4⟩,r⟩
section
variable {a:Ad0} {H H':Hp} {N:Addr→Prop} {x:Addr} {i:Rc31.Image} {base:Nat} {mem:List UInt8}
theorem tU.agree (h:tU a H N x i base mem) (k:∀b,N b→H' b=H b):tU a H' N x i base mem:=by
 obtain⟨dx,gr,dg,hl,md,wl,gd,kH,OC,OD,lv,aZ,wa,ws,G,m,D⟩:=h
 obtain⟨n1,n2,n3,n4,n5,n6,n7⟩:=D.ns
 exact⟨dx,gr,dg,hl,md,wl,gd,kH,OC,OD,lv,aZ,wa,ws,G,m,{D with ob:=(k _ n1).trans D.ob,Y6:=(k _ n2).trans D.Y6,OE:=(k _ n3).trans D.OE,Y7:=(k _ n4).trans D.Y7,Y8:=(k _ n5).trans D.Y8,oWl:=(k _ n6).trans D.oWl,Y9:=(k _ n7).trans D.Y9,pr:=Paired.ud D.pr fun _ _ q=>q.agree k}⟩
theorem tU.set {N':Addr→Prop} (h:tU a H N x i base mem) (k:∀b o,N b→H b=some o→N' b):tU a H N' x i base mem:=by
 obtain⟨dx,gr,dg,hl,md,wl,gd,kH,OC,OD,lv,aZ,wa,ws,G,m,D⟩:=h
 obtain⟨n1,n2,n3,n4,n5,n6,n7⟩:=D.ns
 exact⟨dx,gr,dg,hl,md,wl,gd,kH,OC,OD,lv,aZ,wa,ws,G,m,{D with pr:=Paired.ud D.pr fun _ _ q=>q.set k,ns:=⟨k _ _ n1 D.ob,k _ _ n2 D.Y6,k _ _ n3 D.OE,k _ _ n4 D.Y7,k _ _ n5 D.Y8,k _ _ n6 D.oWl,k _ _ n7 D.Y9⟩}⟩
end
def qu (a:Ad) (H:Hp) (d:Addr) (S:Addr→Prop) (st:Abs):Prop:=(∀b,S b→H b≠none)∧S d∧∃dd v,H d=some (.ins a.fC dd (fJ v))∧((st.image=none∧v = .dh)∨∃i base mem x,st.image=some (i,base,mem)∧v = .ref x∧x≠d∧tU a.toAd0 H S x i base mem)
theorem qu.keep {a:Ad} {H H':Hp} {d:Addr} {S:Addr→Prop} {st:Abs} (h:qu a H d S st) (k:∀b,S b→H' b=H b):qu a H' d S st:=by
 obtain⟨h1,h2,dd,v,h3,h4⟩:=h
 refine⟨fun b hb=>by rw[k b hb];exact h1 b hb,h2,dd,v,(k _ h2).trans h3,h4.imp id ?_⟩
 rintro⟨i,base,mem,x,e1,e2,e3,h5⟩
 exact⟨i,base,mem,x,e1,e2,e3,h5.agree k⟩
def di (a:Ad):DI a where
 DS:=qu a
 keep:=fun h k=>qu.keep h k
 there:=fun h=>h.1
 start:=fun{H d dx} h=>⟨(fun b hb=>by rw[show b=d from hb,h];intro z;cases z),rfl,dx,.dh,h,.inl ⟨rfl,rfl⟩⟩
theorem qu.same {a:Ad} {H H':Hp} {d:Addr} {S:Addr→Prop} {st:Abs} (h:qu a H d S st) (s:ax H H'):qu a H' d S st:=h.keep fun b hb=>by
 cases e:H b with
 |none=>exact absurd e (h.1 b hb)
 |some o=>exact s b o e
theorem tw {H H':Hp} (s:ax H H'):∀b,H b≠none→H' b≠none:=fun b hb=>by
 cases e:H b with
 |none=>exact absurd e hb
 |some o=>rw[s b o e];intro z;cases z
theorem dX {st:Abs} {c:List (List Int)} {x:Rc31.Call} {y:Abs×Rc31.Ans} (e:Rc31Neutral.callOf c=some x) (h:does st x=y):Rc31Neutral.step st c=(y.1,y.2.value::y.2.numbers.map fun(b:Nat)=>(b:Int)):=by
 unfold Rc31Neutral.step
 rw[e,←h]
theorem rn {l:List Int} {cc:List (List Int)} {t:List Int} {i:Int} {n:Int} (h:MX.l8 l cc t) (hi:(MX.ic cc)[0]?=some i) (hn:MX.Oq i=some n):∃xs:List Int,cc=[i::xs]∧(xs.length:Int)+1=n:=by
 cases h with
 |plain p xs t h =>
  obtain rfl:p=i:=Option.some.inj hi
  rw[h]at hn
  exact⟨xs,rfl,Option.some.inj hn⟩
 |row p r t h =>
  obtain rfl:p=i:=Option.some.inj hi
  rcases h with rfl|rfl<;>cases hn
theorem Wz {l:List Int} {cc:List (List Int)} {t:List Int} {i:Int} (h:MX.l8 l cc t) (hi:(MX.ic cc)[0]?=some i) (hn:MX.Oq i=none):∃r:List Int,cc=[[i],r]:=by
 cases h with
 |plain p xs t h =>
  obtain rfl:p=i:=Option.some.inj hi
  rw[h]at hn
  cases hn
 |row p r t h =>
  obtain rfl:p=i:=Option.some.inj hi
  exact⟨r,rfl⟩
theorem afy {xs:List Int} (h:(xs.length:Int)+1=2):∃x,xs=[x]:=by
 match xs,h with
 | [x],_=>exact⟨x,rfl⟩
 | [],h=>simp at h
 |_::_::_,h=>simp at h;lia
theorem afz {xs:List Int} (h:(xs.length:Int)+1=3):∃x y,xs=[x,y]:=by
 match xs,h with
 | [x,y],_=>exact⟨x,y,rfl⟩
 | [],h=>simp at h
 | [_],h=>simp at h
 |_::_::_::_,h=>simp at h;lia
theorem len0 {xs:List Int} (h:(xs.length:Int)+1=1):xs=[]:=by
 cases xs with
 |nil=>rfl
 |cons _ _=>simp at h;lia
theorem OI {r:List Int} (h:r.all (fun(z:Int)=>Rc31Neutral.natural z 8)=true):r.map V.int=bv (Rc31Neutral.bytesOf r):=by
 unfold bv Rc31Neutral.bytesOf
 rw[map_map]
 refine map_congr_left fun z hz=>?_
 have:=all_eq_true.mp h z hz
 unfold Rc31Neutral.natural at this
 simp only[and_eq_true,decide_eq_true_eq]at this
 show V.int z=V.int ((ofNat z.toNat).toNat:Int)
 have e:(ofNat z.toNat).toNat=z.toNat:=by
  rw[←mod_eq_of_lt (show z.toNat<256 by lia),MX.QC]
 rw[e]
 congr 1
 lia
theorem R3 (x y:V) (r:List V):zY (x::y::r) (some (2:Int)) none=r:=by
 unfold zY
 have e:HT.HY (x::y::r).length 0 (some (2:Int))=min 2 (x::y::r).length:=HT.zX _ 0 2
 rw[e,HT.FD,length_cons,length_cons,min_eq_left (by lia)]
 show r.take (r.length+1+1-2)=r
 rw[show r.length+1+1-2=r.length by lia,take_length]
section
variable {g:Gm} {a:Ad}
inductive R4 (a:Ad) (vs:List V) (H:Hp) (Q:VK) (E:XK):Prop
 |mk (d dd:Addr) (v:V) (q0:vs=[.ref d]) (q1:H d=some (.ins a.fC dd (fJ v))) (q2:((v = .dh∧E (.ref a.cv) none H)∨∃x,v = .ref x∧Q (.ref x) H)):R4 a vs H Q E
theorem gw (T:Tx g.K g.mg a):Pr g 1 a.kZ ["self"] (R4 a):=by
 refine Pr.on T.oa wR fun b6 A outer s H vs Q E hr h=>?_
 obtain⟨d,dd,v,rfl,hd,k⟩:=h
 refine⟨_,ae (dt (BS (BR (ar (pv 0) rfl))) (ag (nK T.Cp rfl rF rfl)) gz)
  (ag (aS (ar (pv 0) rfl))),?_⟩
 refine⟨_,rfl,d,_,dd,_,_,rfl,hd,T.jn,T.dZ,A0,_,rfl,?_⟩
 rcases k with⟨rfl,k⟩|⟨x,rfl,k⟩
 ·exact iE k
 ·exact eA ⟨_,rfl,d,_,dd,_,_,rfl,hd,T.jn,T.dZ,A0,k⟩
theorem WA (T:Tx g.K g.mg a):Pr g 1 a.begin ["desk","call"] (Wc a (di a) 0):=by
 refine Pr.on T.Rh UY fun b6 A outer s H vs Q E hr h=>?_
 obtain⟨d,cl,S,st,cc,l,t,rfl,hD,oN,nS,ah,xB,hi,k,kE⟩:=h
 refine⟨_,ae (aT (pv 0) KA rfl)
  (ag (aS (cy (aa ak ai)))),?_⟩
 obtain⟨xs,rfl,hx⟩:=rn ah hi (n:=1) rfl
 obtain rfl:=len0 hx
 have jj:Rc31Neutral.step st (PyRc31.whole [[((0:Nat):Int)]])=({},[0]):=dX (x:=.init) rfl rfl
 rw[jj]at k
 obtain⟨h1,h2,dd,v,h3,h4⟩:=hD
 refine⟨_,rfl,d,_,dd,_,rfl,h3,T.jn,T.dZ,(by rw[Gh];decide),?_⟩
 rw[qM]
 refine⟨(by show 1≤sizeLine;decide),fun tl wq=>?_⟩
 have hd1:upd H d (.ins a.fC dd (fJ .dh)) d=some (.ins a.fC dd (fJ .dh)):=af
 have xw:Kp S H (upd H d (.ins a.fC dd (fJ .dh))):=Kp.upd (.inl h2)
 have HL:H tl=none:=fA wq
 have nd:d≠tl:=aq hd1 wq
 refine k tl _ (At d) af HL (by have:=MX.kF (PyRc31.whole [[((0:Nat):Int)]]);show(1:Int)≤_;lia) (fun b o e n=>?_) ((di a).start (by rw[aj nd];exact hd1)) (fun z=>nd z.symm) (fun b z=>.inl (by rw[show b=d from z];exact h2))
 have h:=xw b o e n
 rw[aj (aq h wq)]
 exact h
theorem Mu (T:Tx g.K g.mg a):Pr g 13 a.qB ["desk","call"] (Wc a (di a) 1):=by
 have GI:Pr g 12 a.Ao ["file"] (fun vs H Q E=>∃N:Addr→Prop,Dc {a with new:=N} vs H Q E):=Pr.ex (ι:=Addr→Prop) (fun _=>True) fun N=>OH (a:={a with new:=N}) T
 refine Pr.on T.DH K2 fun b6 A outer s H vs Q E hr h=>?_
 obtain⟨d,cl,S,st,cc,l,t,rfl,hD,oN,nS,ah,xB,hi,k,kE⟩:=h
 refine⟨_,ae (aT (pv 0) (aU GI au hr (by decide) T.F8 (aa (jL m4 (pv 1) (gY ak) E0) ai)) rfl)
  (ag (aS (cy (aa ak ai)))),?_⟩
 obtain⟨r,rfl⟩:=Wz ah hi rfl
 have pP:((r.all (fun(z:Int)=>Rc31Neutral.natural z 8)&&Rc31Neutral.long r (r.length:Int) 1 1048576)&&Rc31Neutral.whole32 (r.length:Int))=true:=xB
 simp only[and_eq_true]at pP
 obtain⟨⟨hby,V9⟩,_⟩:=pP
 have hlen:r.length≤1048576:=by
  unfold Rc31Neutral.long at V9
  have V9:=of_decide_eq_true V9
  split at V9<;>lia
 have ebv:=OI hby
 have ai9:(Rc31Neutral.bytesOf r).length=r.length:=by unfold Rc31Neutral.bytesOf;rw[length_map]
 have ie:Rc31Neutral.callOf (PyRc31.whole [[((1:Nat):Int)],r])=some (.open_ (Rc31Neutral.bytesOf r) (r.length:Int)):=rfl
 have acG:H cl=some (.lst (V.int 1::V.int (r.length:Int)::r.map V.int)):=oN
 refine⟨_,rfl,_,rfl,cl,_,rfl,bP.of acG,fun f nf=>?_⟩
 rw[R3,ebv]
 have s1:ax H (upd H f (.lst (bv (Rc31Neutral.bytesOf r)))):=ax.upd nf
 have OJ:upd H f (.lst (bv (Rc31Neutral.bytesOf r))) f=_:=af
 generalize upd H f (.lst (bv (Rc31Neutral.bytesOf r)))=H1 at *
 generalize hb:Rc31Neutral.bytesOf r=b at *
 refine⟨fun z=>H1 z=none,f,b,rfl,OJ,by lia,fun z e=>e,fun zR H2 s2=>?_,fun i h1 acE x H2 hI nx s2=>?_⟩
 ·have WB:does st (.open_ b (r.length:Int))=(st,refused):=by
   rcases zR with z|z
   ·simp only[does]
    rw[iPp (.inl (by lia))]
   ·simp only[does]
    split
    ·rfl
    ·rw[z]
  have jj:=dX ie WB
  have xy:=s1.trans s2
  refine kE a.aE (-1) (.inr ⟨.inl rfl,rfl⟩) (by rw[jj];rfl) H2 S (Kp.same xy) (tw xy) ?_ fun b z=>.inl z
  rw[jj]
  exact qu.same hD xy
 ·have WB:does st (.open_ b (r.length:Int))=({image:=some (i,i.told.base,i.memory)},{value:=0}):=by
   simp only[does]
   rw[IN (by lia),acE]
  have jj:=dX ie WB
  rw[jj]at k
  have xy:=s1.trans s2
  obtain⟨g1,g2,dd,v,g3,g4⟩:=hD
  have WW:x≠d:=fun z=>by rw[z,s1 _ _ g3]at nx;cases nx
  refine⟨_,rfl,d,_,dd,_,rfl,xy _ _ g3,T.jn,T.dZ,(by rw[Gh];decide),?_⟩
  rw[qM]
  refine⟨(by show 1≤sizeLine;decide),fun tl wq=>?_⟩
  have hd3:upd H2 d (.ins a.fC dd (fJ (.ref x))) d=some (.ins a.fC dd (fJ (.ref x))):=af
  have Zb:H2 tl=none:=fA wq
  have HL:H tl=none:=xy.free Zb
  have nd:d≠tl:=aq hd3 wq
  have ajb:∀z,H1 z=none→H z=none:=fun z e=>s1.free e
  refine k tl _ (fun z=>z=d∨(H z=none∧H2 z≠none)) af HL (by have:=MX.kF (PyRc31.whole [[((1:Nat):Int)],r]);show(1:Int)≤_;lia) (fun y o e n=>?_) ?_ (fun z=>z.elim (fun q=>nd q.symm) fun q=>q.2 Zb) (fun z q=>q.elim (fun e=>.inl (by rw[e];exact g2)) fun q=>.inr q.1)
  ·have hy:=xy _ _ e
   have n1:y≠d:=fun z=>n (by rw[z];exact g2)
   have hy3:upd H2 d (.ins a.fC dd (fJ (.ref x))) y=some o:=by rw[aj n1];exact hy
   rw[aj (aq hy3 wq)]
   exact hy3
  ·refine⟨fun y hy=>?_,.inl rfl,dd,.ref x,by rw[aj nd];exact hd3,.inr ⟨i,i.told.base,i.memory,x,rfl,rfl,WW,?_⟩⟩
   ·rcases hy with e|e
    ·rw[e,aj nd,hd3]
     intro z;cases z
    ·have n1:y≠tl:=fun z=>by rw[z]at e;exact e.2 Zb
     have n2:y≠d:=fun z=>by rw[z,g3]at e;cases e.1
     rw[aj n1,aj n2]
     exact e.2
   ·have hI':tU a.toAd0 H2 (fun z=>H1 z=none) x i i.told.base i.memory:=hI
    have hI2:tU a.toAd0 H2 (fun z=>H z=none∧H2 z≠none) x i i.told.base i.memory:=hI'.set fun y o hn e=>⟨ajb y hn,by rw[e];intro z;cases z⟩
    refine(hI2.agree fun y hy=>?_).set fun y o hn e=>.inr hn
    have n1:y≠tl:=fun z=>by rw[z]at hy;exact hy.2 Zb
    have n2:y≠d:=fun z=>by rw[z,g3]at hy;cases hy.1
    rw[aj n1,aj n2]
end
theorem zO {z:Int} {n:Nat} (h:Rc31Neutral.natural z n=true):0≤z∧z<2^n:=by
 unfold Rc31Neutral.natural at h
 simpa only[and_eq_true,decide_eq_true_eq] using h
section
variable {g:Gm} {a:Ad} {H:Hp} {d:Addr} {S:Addr→Prop} {st:Abs}
theorem rp (h:qu a H d S st):∃dd v,H d=some (.ins a.fC dd (fJ v))∧S d∧(∀b,S b→H b≠none)∧((st.image=none∧v = .dh)∨∃i base mem x,st.image=some (i,base,mem)∧v = .ref x∧x≠d∧tU a.toAd0 H S x i base mem):=by
 obtain⟨h1,h2,dd,v,h3,h4⟩:=h
 exact⟨dd,v,h3,h2,h1,h4⟩
theorem Zc {m:List UInt8} {l:List Nat} {old new kG:Nat} (hd:distant l=true) (hl:∀i∈l,i+8≤m.length) (h1:old<2^48) (h2:new<2^48) (h3:kG<2^48) :
 mended (mended m ((W64+old-kG)%W64) l) ((W64+new-old)%W64) l=mended m ((W64+new-kG)%W64) l:=by
 refine MX.Ml hd hl ?_
 rw[MX.gX]
 lia
theorem acH (T:Tx g.K g.mg a):Pr g 3 a.lay ["desk","call"] (Wc a (di a) 2):=by
 refine Pr.on T.ZF abd fun b6 A outer s H vs Q E hr h=>?_
 obtain⟨d,cl,S,st,cc,l,t,rfl,hD,oN,nS,ah,xB,hi,k,kE⟩:=h
 refine⟨_,ae (aR (cN (a7 (pv 0) (gw T) T.jn T.cP au hr (by decide)) (Mr T) T.ba T.DL au hr (by decide) (aa (fN cJ (pv 1) ak (fun _ _=>rfl)) ai)))
  (ag (aS (cy (aa ak ai)))),?_⟩
 obtain⟨xs,rfl,hx⟩:=rn ah hi (n:=2) rfl
 obtain⟨x0,rfl⟩:=afy hx
 have hn:=zO (show Rc31Neutral.natural x0 64=true from xB)
 obtain⟨b,rfl⟩:∃b:Nat,x0=(b:Int):=⟨x0.toNat,by lia⟩
 have ie:Rc31Neutral.callOf (PyRc31.whole [[((2:Nat):Int),(b:Int)]])=some (.lay b):=rfl
 obtain⟨dd,v,h3,h2,h1,h4⟩:=rp hD
 refine⟨_,rfl,d,dd,_,rfl,h3,cE,d,dd,v,rfl,h3,?_⟩
 rcases h4 with⟨zR,rfl⟩|⟨i,base,mem,x,Oa,rfl,WW,hI⟩
 ·refine .inl ⟨rfl,?_⟩
  have jj:=dX ie (show does st (.lay b)=(st,noImage) by simp only[does,zR])
  refine kE a.cv (-4) (.inl ⟨rfl,rfl⟩) (by rw[jj];rfl) H S Kp.refl (fun _ h=>h) ?_ fun b z=>.inl z
  rw[jj]
  exact hD
 ·refine .inr ⟨x,rfl,?_⟩
  obtain⟨dx,gr,dg,hl,md,wl,gd,kH,OC,OD,lv,aZ,wa,ws,G,m,D⟩:=hI
  refine⟨x,dx,_,rfl,D.ob,Gg,_,rfl,cl,_,_,V.int (b:Int),rfl,rfl,bP.of oN,at_of (j:=1) rfl rfl,x,dx,_,b,rfl,D.ob,(by rw[M7];decide),fun afo=>?_,fun aaf=>?_⟩
  ·have jj:=dX ie (show does st (.lay b)=(st,refused) by simp only[does,Oa];rw[iPp afo])
   refine kE a.dM (-1) (.inr ⟨.inr (.inl rfl),rfl⟩) (by rw[jj];rfl) H S Kp.refl (fun _ h=>h) ?_ fun b z=>.inl z
   rw[jj]
   exact hD
  ·have jj:=dX ie (show does st (.lay b)=({image:=some (i,b,mended mem ((W64+b-base)%W64) i.mends)},{value:=0}) by simp only[does,Oa];rw[IN aaf])
   rw[jj]at k
   rw[Ct]
   have afA:b<2^48:=by
    have:¬2^47≤b+MOST:=fun z=>aaf (.inr z)
    rw[show MOST=4194304 from rfl]at this
    lia
   obtain⟨n1,n2,n3,n4,n5,n6,n7⟩:=D.ns
   obtain⟨e1,e2,e3⟩:=D.ne
   refine⟨(by show 1≤sizeLine;decide),fun tl wq=>?_⟩
   have Yq:upd H x (.ins a.bS dx (cM (.ref gr) (.int (b:Int)) (.int ((i.told.entry.getD 0:Nat):Int)) (.ref hl) (.ref md) (.ref wl) (.ref gd))) x=_:=af
   have up:∀y,y≠x→upd H x (.ins a.bS dx (cM (.ref gr) (.int (b:Int)) (.int ((i.told.entry.getD 0:Nat):Int)) (.ref hl) (.ref md) (.ref wl) (.ref gd))) y=H y:=fun y n=>aj n
   generalize upd H x (.ins a.bS dx (cM (.ref gr) (.int (b:Int)) (.int ((i.told.entry.getD 0:Nat):Int)) (.ref hl) (.ref md) (.ref wl) (.ref gd)))=H1 at *
   have ntx:tl≠x:=(aq Yq wq).symm
   have HL:H tl=none:=by rw[←up tl ntx];exact wq
   have QO:∀y,S y→H1 y≠none:=fun y hy=>by
    by_cases q:y=x
    ·rw[q,Yq];intro z;cases z
    ·rw[up y q];exact h1 y hy
   have D1:qu a H1 d S {image:=some (i,b,mended mem ((W64+b-base)%W64) i.mends)}:=by
    refine⟨QO,h2,dd,.ref x,by rw[up d WW.symm];exact h3,.inr ⟨i,b,_,x,rfl,rfl,WW,dx,gr,dg,hl,md,wl,gd,kH,OC,OD,lv,aZ,wa,ws,G,m,?_⟩⟩
    have QP:∀{y:Addr} {o:HO},H y=some o→(∀C q fs,o≠.ins C q fs)→H1 y=some o:=fun{y o} e n=>by
     rw[up y (fun z=>by rw[z,D.ob]at e;cases e;exact n _ _ _ rfl)]
     exact e
    refine{D with ob:=Yq,Y6:=?_,OE:=QP D.OE (fun _ _ _ z=>by cases z),Y7:=QP D.Y7 (fun _ _ _ z=>by cases z),Y8:=QP D.Y8 (fun _ _ _ z=>by cases z),oWl:=QP D.oWl (fun _ _ _ z=>by cases z),Y9:=QP D.Y9 (fun _ _ _ z=>by cases z),pr:=?_,Ww:=afA,T1:=?_}
    ·rw[up gr e1]
     exact D.Y6
    ·refine Paired.ud D.pr fun y u q=>?_
     obtain⟨HU,xr,dr,nl,ln,w1,w2,w3,w4,wN,z1,z2,z3,z4⟩:=q
     exact⟨HU,xr,dr,nl,ln,by rw[up y z1];exact w1,by rw[up xr z2];exact w2,QP w3 (fun _ _ _ z=>by cases z),QP w4 (fun _ _ _ z=>by cases z),wN,z1,z2,z3,z4⟩
    ·rw[D.T1]
     exact Zc (nA D.dist) (fun p hp=>by rw[D.Mt];exact D.Za p (mem_append_left _ hp)) D.Ww afA D.kG
   have WD:¬S tl:=fun z=>h1 tl z HL
   refine k tl _ S (by rw[af];rfl) HL (by have:=MX.kF (PyRc31.whole [[((2:Nat):Int),(b:Int)]]);show(1:Int)≤_;lia) (fun y o e n=>?_) (qu.keep D1 fun y hy=>?_) WD (fun y z=>.inl z)
   ·have ny:y≠x:=fun z=>n (by rw[z];exact n1)
    rw[aj (aq e HL),up y ny]
    exact e
   ·rw[aj (fun z=>WD (by rw[←z];exact hy))]
theorem Zd {m:List UInt8} {p base kG:Nat} (h1:base<2^48) (h2:kG<2^48):Ou m p base kG=(num m p 8+(W64+base-kG)%W64)%W64:=by
 unfold Ou
 rw[MX.gX]
 lia
theorem Ze (T:Tx g.K g.mg a):Pr g 4 a.read ["desk","call"] (Wc a (di a) 3):=by
 refine Pr.on T.U0 Rg fun b6 A outer s H vs Q E hr h=>?_
 obtain⟨d,cl,S,st,cc,l,t,rfl,hD,oN,nS,ah,xB,hi,k,kE⟩:=h
 refine⟨_,ae (aI (i:=2) Rg.nd rfl (Or.inl rfl) (cN (a7 (pv 0) (gw T) T.jn T.cP au hr (by decide)) (Jr T) T.ba T.AM au hr (by decide) (aa (fN cJ (pv 1) ak (fun _ _=>rfl)) (aa (fN cJ (pv 1) ak (fun _ _=>rfl)) ai))))
  (ag (aS (aO BY (cy (aa (aV aJ (by rfl) T.eO boot_len (aa (pv 2) ai)) ai)) (pv 2)))),?_⟩
 obtain⟨xs,rfl,hx⟩:=rn ah hi (n:=3) rfl
 obtain⟨x0,most,rfl⟩:=afz hx
 have pP:(Rc31Neutral.natural x0 32&&Rc31Neutral.whole32 most)=true:=xB
 simp only[and_eq_true]at pP
 have hn:=zO pP.1
 obtain⟨at_,rfl⟩:∃b:Nat,x0=(b:Int):=⟨x0.toNat,by lia⟩
 have ie:Rc31Neutral.callOf (PyRc31.whole [[((3:Nat):Int),(at_:Int),most]])=some (.read at_ most):=rfl
 have afB:Rc31Neutral.tells (PyRc31.whole [[((3:Nat):Int),(at_:Int),most]])=if 1≤most∧most≤4194304 then most else 0:=rfl
 have hsz:sizeLine=16777216:=sizeLine_eq
 obtain⟨dd,v,h3,h2,h1,h4⟩:=rp hD
 refine⟨_,rfl,d,dd,_,rfl,h3,cE,d,dd,v,rfl,h3,?_⟩
 rcases h4 with⟨zR,rfl⟩|⟨i,base,mem,x,Oa,rfl,WW,hI⟩
 ·refine .inl ⟨rfl,?_⟩
  have jj:=dX ie (show does st (.read at_ most)=(st,noImage) by simp only[does,zR])
  refine kE a.cv (-4) (.inl ⟨rfl,rfl⟩) (by rw[jj];rfl) H S Kp.refl (fun _ h=>h) ?_ fun b z=>.inl z
  rw[jj]
  exact hD
 ·refine .inr ⟨x,rfl,?_⟩
  obtain⟨dx,gr,dg,hl,md,wl,gd,kH,OC,OD,lv,aZ,wa,ws,G,m,D⟩:=hI
  have jj:=dX ie (show does st (.read at_ most)=(st,{value:=(((mem.drop at_).take (room_ most)).length:Nat),numbers:=codes ((mem.drop at_).take (room_ most))}) by simp only[does,Oa])
  rw[jj]at k
  have hdm:=nA D.dist
  have hlm:∀p∈i.mends,p+8≤m.length:=fun p hp=>by rw[D.Mt];exact D.Za p (mem_append_left _ hp)
  have WE:=D.aac
  refine⟨x,dx,_,rfl,D.ob,Ez,_,rfl,cl,_,_,V.int (at_:Int),rfl,rfl,bP.of oN,at_of (j:=1) rfl rfl,_,rfl,cl,_,_,V.int most,rfl,rfl,bP.of oN,at_of (j:=2) rfl rfl,x,dx,hl,md,gr,dg,_,_,aZ,m,i.mends,at_,base,i.told.base,(W64+base-i.told.base)%W64,most,rfl,D.ob,AZ,AX,vv,D.Y6,lH,vw,sr,D.Y7,D.Y8,D.mdk,hdm,hlm,by rw[D.Mt];exact WE,fun q=>Zd D.Ww D.kG,by lia,fun fl H1 Tb nfl s1=>?_⟩
  rw[←D.T1]at Tb
  generalize hL:(mem.drop at_).take (room_ most)=L at *
  have QQ:L.length≤room_ most:=by rw[←hL,length_take];exact Nat.min_le_left _ _
  have ajc:L.length≤4194304:=by
   have:mem.length=m.length:=by rw[D.T1];exact(MX.fM i.mends m _ hdm hlm).1
   have h5:L.length≤mem.length:=by rw[←hL,length_take,length_drop];lia
   rw[this,D.Mt]at h5
   lia
  refine⟨_,rfl,fl,_,rfl,.inl (bP.of Tb),(by show 1≤sizeLine;decide),fun z1 nz1=>?_⟩
  rw[bt]
  have s2:ax H1 (upd H1 z1 (.lst [.int (L.length:Int)])):=ax.upd nz1
  have Y3:upd H1 z1 (.lst [.int (L.length:Int)]) z1=_:=af
  generalize upd H1 z1 (.lst [.int (L.length:Int)])=H2 at *
  have xy:=s1.trans s2
  refine⟨_,rfl,z1,fl,_,_,rfl,rfl,Y3,s2 _ _ Tb,by rw[bt];show 1+L.length≤sizeLine;lia,fun tl wq=>?_⟩
  have Mf:=xy.trans (ax.upd (o:=.lst ([V.int (L.length:Int)]++bv L)) wq)
  refine k tl _ S ?_ (xy.free wq) ?_ (Kp.same Mf) (qu.same hD Mf) (fun z=>h1 tl z (xy.free wq)) (fun y z=>.inl z)
  ·rw[af,←Ox]
   unfold nv
   rw[map_cons,map_map]
   rfl
  ·rw[afB,length_cons,length_map]
   unfold codes
   rw[length_map]
   unfold room_ at QQ
   rw[show((MOST:Nat):Int)=4194304 from rfl]at QQ
   split at QQ
   ·rename_i q
    rw[iPp q]
    lia
   ·rename_i q
    rw[IN q]
    lia
theorem Zf (T:Tx g.K g.mg a):Pr g 2 a.find ["desk","call"] (Wc a (di a) 4):=by
 refine Pr.on T.U1 XF fun b6 A outer s H vs Q E hr h=>?_
 obtain⟨d,cl,S,st,cc,l,t,rfl,hD,oN,nS,ah,xB,hi,k,kE⟩:=h
 refine⟨_,ag (aS (cy (aa ak (aa (cN (a7 (pv 0) (gw T) T.jn T.cP au hr (by decide)) (wy T) T.ba T.mO au hr (by decide) (aa (wA xC (by rfl) T.Lb PyProof.Rows.boot_tuple (aa (jL m4 (pv 1) (gY ak) E0) ai)) ai)) ai)))),?_⟩
 obtain⟨r,rfl⟩:=Wz ah hi rfl
 have pP:((r.all (fun(z:Int)=>Rc31Neutral.natural z 8)&&Rc31Neutral.long r (r.length:Int) 1 255)&&Rc31Neutral.whole32 (r.length:Int))=true:=xB
 simp only[and_eq_true]at pP
 obtain⟨⟨hby,V9⟩,_⟩:=pP
 have hlen:r.length≤255:=by
  unfold Rc31Neutral.long at V9
  have V9:=of_decide_eq_true V9
  split at V9<;>lia
 have ebv:=OI hby
 have ai9:(Rc31Neutral.bytesOf r).length=r.length:=by unfold Rc31Neutral.bytesOf;rw[length_map]
 have ie:Rc31Neutral.callOf (PyRc31.whole [[((4:Nat):Int)],r])=some (.find (Rc31Neutral.bytesOf r) (r.length:Int)):=rfl
 have acG:H cl=some (.lst (V.int 4::V.int (r.length:Int)::r.map V.int)):=oN
 generalize hb:Rc31Neutral.bytesOf r=b at *
 obtain⟨dd,v,h3,h2,h1,h4⟩:=rp hD
 refine⟨_,rfl,d,dd,_,rfl,h3,cE,d,dd,v,rfl,h3,?_⟩
 rcases h4 with⟨zR,rfl⟩|⟨i,base,mem,x,Oa,rfl,WW,hI⟩
 ·refine .inl ⟨rfl,?_⟩
  have jj:=dX ie (show does st (.find b (r.length:Int))=(st,noImage) by simp only[does,zR])
  refine kE a.cv (-4) (.inl ⟨rfl,rfl⟩) (by rw[jj];rfl) H S Kp.refl (fun _ h=>h) ?_ fun b z=>.inl z
  rw[jj]
  exact hD
 ·refine .inr ⟨x,rfl,?_⟩
  obtain⟨dx,gr,dg,hl,md,wl,gd,kH,OC,OD,lv,aZ,wa,ws,G,m,D⟩:=hI
  refine⟨x,dx,_,rfl,D.ob,sv,_,rfl,_,rfl,cl,_,rfl,bP.of acG,fun f nf=>?_⟩
  rw[R3,ebv]
  have s1:ax H (upd H f (.lst (bv b))):=ax.upd nf
  have OJ:upd H f (.lst (bv b)) f=_:=af
  generalize upd H f (.lst (bv b))=H1 at *
  refine⟨f,_,rfl,.inl ⟨bP.of OJ,fun nb nnb=>?_⟩⟩
  have s2:ax H1 (upd H1 nb (.tup (bv b))):=ax.upd nnb
  have hnb:upd H1 nb (.tup (bv b)) nb=_:=af
  generalize upd H1 nb (.tup (bv b))=H2 at *
  have xy:=s1.trans s2
  have Xr:=MX.find_perm (b:=b) D.gp D.gn
  refine⟨x,dx,gd,nb,_,b,G,rfl,xy _ _ D.ob,ya,xy _ _ D.Y9,hnb,fun zR=>?_,fun z hz=>?_⟩
  ·have jj:=dX ie (show does st (.find b (r.length:Int))=(st,refused) by
    simp only[does,Oa]
    split
    ·rfl
    ·rw[Xr,zR])
   refine kE a.bK (-1) (.inr ⟨.inr (.inr (.inl rfl)),rfl⟩) (by rw[jj];rfl) H2 S (Kp.same xy) (tw xy) ?_ fun b z=>.inl z
   rw[jj]
   exact qu.same hD xy
  ·have hzG:i.gives.find? (fun x=>x.1==b)=some z:=by rw[Xr];exact hz
   have hzm:z∈i.gives:=mem_of_find?_eq_some hzG
   have hz0:z.1=b:=by simpa using find?_some hzG
   have HP:b≠[]:=by rw[←hz0];exact D.g0 z hzm
   have aoR:0<b.length:=List.length_pos_iff.mpr HP
   have jj:=dX ie (show does st (.find b (r.length:Int))=(st,{value:=0,numbers:=[z.2]}) by
    simp only[does,Oa]
    rw[IN (by lia),hzG])
   rw[jj]at k
   refine⟨(by show 2≤sizeLine;decide),fun tl wq=>?_⟩
   have Mf:=xy.trans (ax.upd (o:=.lst [.int 0,.int (z.2:Int)]) wq)
   exact k tl _ S (by rw[af];rfl) (xy.free wq) (by have:=MX.kF (PyRc31.whole [[((4:Nat):Int)],r]);show(2:Int)≤_;lia) (Kp.same Mf) (qu.same hD Mf) (fun z=>h1 tl z (xy.free wq)) (fun y z=>.inl z)
end
section
variable {g:Gm} {a:Ad}
theorem acx.wt {H:Hp} {S:Addr→Prop} {x:Addr} {i:Rc31.Image} {base:Nat} {mem:List UInt8} {dx gr dg hl md wl gd kH:Addr} {OC OD:V} {lv:List V} {aZ:List (Key×V)} {wa:List Addr} {ws:List Wn} {G:List (List UInt8×Nat)} {m:List UInt8} (D:acx a.toAd0 H S x i base mem dx gr dg hl md wl gd kH OC OD lv aZ wa ws G m) :
 Ee a H x dx wl (cM (.ref gr) (.int (base:Int)) (.int ((i.told.entry.getD 0:Nat):Int)) (.ref hl) (.ref md) (.ref wl) (.ref gd)) wa ws i.told S hl:=⟨D.ob,Gf,D.oWl,D.pr,D.tok,D.wok⟩
theorem Kx {i:Rc31.Image} {ws:List Wn} (e:i.wants=ws.flatMap eY) {k:Int} (h:¬(0≤k∧k<((ws.flatMap eY).length:Int))):wantAt i k=none:=by
 unfold wantAt
 split
 ·rfl
 ·rw[e]
  exact getElem?_eq_none (by lia)
theorem HM {i:Rc31.Image} {ws:List Wn} (e:i.wants=ws.flatMap eY) {k:Int} {w:Want} (h0:0≤k) (h:(ws.flatMap eY)[k.toNat]?=some w):wantAt i k=some w:=by
 unfold wantAt
 rw[IN (by lia),e]
 exact h
theorem acI (n:Nat) (l:List Nat):nv (n::l)=((n:Int)::l.map fun(b:Nat)=>(b:Int)).map V.int:=by
 unfold nv
 rw[map_cons,map_cons,map_map]
 rfl
theorem Zg (T:Tx g.K g.mg a):Pr g 5 a.want ["desk","call"] (Wc a (di a) 5):=by
 refine Pr.on T.U2 XG fun b6 A outer s H vs Q E hr h=>?_
 obtain⟨d,cl,S,st,cc,l,t,rfl,hD,oN,nS,ah,xB,hi,k,kE⟩:=h
 refine⟨_,ag (aS (cN (a7 (pv 0) (gw T) T.jn T.cP au hr (by decide)) (wx T) T.ba T.mP au hr (by decide) (aa (fN cJ (pv 1) ak (fun _ _=>rfl)) ai))),?_⟩
 obtain⟨xs,rfl,hx⟩:=rn ah hi (n:=2) rfl
 obtain⟨kk,rfl⟩:=afy hx
 have ie:Rc31Neutral.callOf (PyRc31.whole [[((5:Nat):Int),kk]])=some (.want kk):=rfl
 obtain⟨dd,v,h3,h2,h1,h4⟩:=rp hD
 refine⟨_,rfl,d,dd,_,rfl,h3,cE,d,dd,v,rfl,h3,?_⟩
 rcases h4 with⟨zR,rfl⟩|⟨i,base,mem,x,Oa,rfl,WW,hI⟩
 ·refine .inl ⟨rfl,?_⟩
  have jj:=dX ie (show does st (.want kk)=(st,noImage) by simp only[does,zR])
  refine kE a.cv (-4) (.inl ⟨rfl,rfl⟩) (by rw[jj];rfl) H S Kp.refl (fun _ h=>h) ?_ fun b z=>.inl z
  rw[jj]
  exact hD
 ·refine .inr ⟨x,rfl,?_⟩
  obtain⟨dx,gr,dg,hl,md,wl,gd,kH,OC,OD,lv,aZ,wa,ws,G,m,D⟩:=hI
  refine⟨x,dx,_,rfl,D.ob,sx,_,rfl,cl,_,_,V.int kk,rfl,rfl,bP.of oN,at_of (j:=1) rfl rfl,x,dx,wl,_,wa,ws,i.told,S,hl,kk,rfl,D.wt,kj,D.libs,fun zR H1 s1=>?_,fun w tl H1 h0 hw hwn ZZ wq s1=>?_⟩
  ·have jj:=dX ie (show does st (.want kk)=(st,refused) by simp only[does,Oa];rw[Kx D.wn zR])
   refine kE a.bM (-1) (.inr ⟨.inr (.inr (.inr rfl)),rfl⟩) (by rw[jj];rfl) H1 S (Kp.same s1) (tw s1) ?_ fun b z=>.inl z
   rw[jj]
   exact qu.same hD s1
  ·have jj:=dX ie (show does st (.want kk)=(st,{value:=(w.name.length:Nat),numbers:=w.word::w.library::w.plus::(padded 255 (i.told.libraries.getD (w.library-1) [])++padded 255 w.name)}) by simp only[does,Oa];rw[HM D.wn h0 hw])
   rw[jj]at k
   have Oz:(i.told.libraries.getD (w.library-1) []).length≤255:=by
    rw[List.getD_eq_getElem?_getD]
    cases hg:i.told.libraries[w.library-1]? with
    |none=>exact zero_le _
    |some l=>exact D.libs l (mem_of_getElem? hg)
   refine k tl H1 S ?_ wq ?_ (Kp.same s1) (qu.same hD s1) (fun z=>h1 tl z wq) (fun y z=>.inl z)
   ·exact ZZ.trans (congrArg (fun q=>some (HO.lst q)) (acI _ _))
   ·have:=MX.kF (PyRc31.whole [[((5:Nat):Int),kk]])
    simp only[length_cons,length_map,length_append,oK Oz,oK hwn]
    lia
theorem WG {a b:List Nat} (h:distant (a++b)=true) {p:Nat} (hp:p∈b):∀i∈a,p+8≤i∨i+8≤p:=by
 intro i hi
 have:=(List.pairwise_append.mp ((MX.dv _).mp h)).2.2 i hi p hp
 lia
theorem Zh (T:Tx g.K g.mg a):Pr g 5 a.fill ["desk","call"] (Wc a (di a) 6):=by
 refine Pr.on T.U3 XH fun b6 A outer s H vs Q E hr h=>?_
 obtain⟨d,cl,S,st,cc,l,t,rfl,hD,oN,nS,ah,xB,hi,k,kE⟩:=h
 refine⟨_,ae (aR (cN (a7 (pv 0) (gw T) T.jn T.cP au hr (by decide)) (Js T) T.ba T.AN au hr (by decide) (aa (fN cJ (pv 1) ak (fun _ _=>rfl)) (aa (fN cJ (pv 1) ak (fun _ _=>rfl)) ai))))
  (ag (aS (cy (aa ak ai)))),?_⟩
 obtain⟨xs,rfl,hx⟩:=rn ah hi (n:=3) rfl
 obtain⟨kk,x1,rfl⟩:=afz hx
 have pP:(Rc31Neutral.whole32 kk&&Rc31Neutral.natural x1 64)=true:=xB
 simp only[and_eq_true]at pP
 have hn:=zO pP.2
 obtain⟨v1,rfl⟩:∃b:Nat,x1=(b:Int):=⟨x1.toNat,by lia⟩
 have ie:Rc31Neutral.callOf (PyRc31.whole [[((6:Nat):Int),kk,(v1:Int)]])=some (.fill kk v1):=rfl
 obtain⟨dd,v,h3,h2,h1,h4⟩:=rp hD
 refine⟨_,rfl,d,dd,_,rfl,h3,cE,d,dd,v,rfl,h3,?_⟩
 rcases h4 with⟨zR,rfl⟩|⟨i,base,mem,x,Oa,rfl,WW,hI⟩
 ·refine .inl ⟨rfl,?_⟩
  have jj:=dX ie (show does st (.fill kk v1)=(st,noImage) by simp only[does,zR])
  refine kE a.cv (-4) (.inl ⟨rfl,rfl⟩) (by rw[jj];rfl) H S Kp.refl (fun _ h=>h) ?_ fun b z=>.inl z
  rw[jj]
  exact hD
 ·refine .inr ⟨x,rfl,?_⟩
  obtain⟨dx,gr,dg,hl,md,wl,gd,kH,OC,OD,lv,aZ,wa,ws,G,m,D⟩:=hI
  have WE:=D.aac
  have Q7:∀w∈ws.flatMap eY,w.word+8≤m.length:=fun w hw=>by
   rw[D.Mt]
   exact D.Za _ (mem_append_right _ (by rw[D.wn];exact mem_map.mpr ⟨w,hw,rfl⟩))
  refine⟨x,dx,_,rfl,D.ob,Ey,_,rfl,cl,_,_,V.int kk,rfl,rfl,bP.of oN,at_of (j:=1) rfl rfl,_,rfl,cl,_,_,V.int (v1:Int),rfl,rfl,bP.of oN,at_of (j:=2) rfl rfl,x,dx,wl,_,wa,ws,i.told,S,hl,kk,v1,m,rfl,D.wt,kj,AZ,D.Y7,by rw[D.Mt];exact WE,Q7,fun zR H1 s1=>?_,fun w H1 h0 hw hH1 k1=>?_⟩
  ·have jj:=dX ie (show does st (.fill kk v1)=(st,refused) by simp only[does,Oa];rw[Kx D.wn zR])
   refine kE a.bM (-1) (.inr ⟨.inr (.inr (.inr rfl)),rfl⟩) (by rw[jj];rfl) H1 S (Kp.same s1) (tw s1) ?_ fun b z=>.inl z
   rw[jj]
   exact qu.same hD s1
  ·have jj:=dX ie (show does st (.fill kk v1)=({image:=some (i,base,Rc31.put mem w.word (Rc31.le 8 ((v1+w.plus)%W64)))},{value:=0}) by simp only[does,Oa];rw[HM D.wn h0 hw])
   rw[jj]at k
   obtain⟨n1,n2,n3,n4,n5,n6,n7⟩:=D.ns
   obtain⟨e1,e2,e3⟩:=D.ne
   have hwm:w∈ws.flatMap eY:=mem_of_getElem? hw
   have hp8:=Q7 w hwm
   have hwi:w.word∈i.wants.map fun w=>w.word:=by rw[D.wn];exact mem_map.mpr ⟨w,hwm,rfl⟩
   refine⟨(by show 1≤sizeLine;decide),fun tl wq=>?_⟩
   have QO:∀y,S y→H1 y≠none:=fun y hy=>by
    by_cases q:y=hl
    ·rw[q,hH1];intro z;cases z
    ·cases e:H y with
     |none=>exact absurd e (h1 y hy)
     |some o=>rw[k1 y o e q];intro z;cases z
   have HL:H tl=none:=by
    cases e:H tl with
    |none=>rfl
    |some o =>
     by_cases q:tl=hl
     ·rw[q,hH1]at wq;cases wq
     ·rw[k1 tl o e q]at wq;cases wq
   have QP:∀{y:Addr} {o:HO},H y=some o→(∀xs,o≠.lst xs)→H1 y=some o:=fun{y o} e n=>k1 y o e fun z=>by
    rw[show y=hl from z,D.Y7]at e
    cases e
    exact n _ rfl
   have D1:qu a H1 d S {image:=some (i,base,Rc31.put mem w.word (Rc31.le 8 ((v1+w.plus)%W64)))}:=by
    refine⟨QO,h2,dd,.ref x,QP h3 (fun _ z=>by cases z),.inr ⟨i,base,_,x,rfl,rfl,WW,dx,gr,dg,hl,md,wl,gd,kH,OC,OD,lv,aZ,wa,ws,G,Rc31.put m w.word (Rc31.le 8 ((v1+w.plus)%W64)),?_⟩⟩
    have afC:(Rc31.put m w.word (Rc31.le 8 ((v1+w.plus)%W64))).length=m.length:=MX.tm (by rw[MX.kD];exact hp8)
    refine{D with ob:=QP D.ob (fun _ z=>by cases z),Y6:=QP D.Y6 (fun _ z=>by cases z),OE:=k1 _ _ D.OE e2,Y7:=hH1,Y8:=QP D.Y8 (fun _ z=>by cases z),oWl:=k1 _ _ D.oWl e3,Y9:=QP D.Y9 (fun _ z=>by cases z),pr:=?_,Mt:=by rw[afC];exact D.Mt,T1:=?_}
    ·refine Paired.ud D.pr fun y u q=>?_
     obtain⟨HU,xr,dr,nl,ln,w1,w2,w3,w4,wN,z1,z2,z3,z4⟩:=q
     exact⟨HU,xr,dr,nl,ln,QP w1 (fun _ z=>by cases z),QP w2 (fun _ z=>by cases z),k1 _ _ w3 z3,k1 _ _ w4 z4,wN,z1,z2,z3,z4⟩
    ·rw[D.T1]
     exact(MX.QE (nA D.dist) (fun p hp=>by rw[D.Mt];exact D.Za p (mem_append_left _ hp)) hp8 (WG D.dist hwi)).symm
   have WD:¬S tl:=fun z=>h1 tl z HL
   refine k tl _ S (by rw[af];rfl) HL (by have:=MX.kF (PyRc31.whole [[((6:Nat):Int),kk,(v1:Int)]]);show(1:Int)≤_;lia) (fun y o e n=>?_) (qu.keep D1 fun y hy=>?_) WD (fun y z=>.inl z)
   ·rw[aj (aq e HL)]
    exact k1 y o e fun z=>n (by rw[show y=hl from z];exact n4)
   ·rw[aj (fun z=>WD (by rw[←z];exact hy))]
theorem WH (T:Tx g.K g.mg a):Pr g 2 a.about ["desk","call"] (Wc a (di a) 7):=by
 refine Pr.on T.Ri UZ fun b6 A outer s H vs Q E hr h=>?_
 obtain⟨d,cl,S,st,cc,l,t,rfl,hD,oN,nS,ah,xB,hi,k,kE⟩:=h
 refine⟨_,ag (aS (a7 (a7 (pv 0) (gw T) T.jn T.cP au hr (by decide)) (HI T) T.ba T.xV au hr (by decide))),?_⟩
 obtain⟨xs,rfl,hx⟩:=rn ah hi (n:=1) rfl
 obtain rfl:=len0 hx
 have ie:Rc31Neutral.callOf (PyRc31.whole [[((7:Nat):Int)]])=some .about:=rfl
 obtain⟨dd,v,h3,h2,h1,h4⟩:=rp hD
 refine⟨_,rfl,d,dd,_,rfl,h3,cE,d,dd,v,rfl,h3,?_⟩
 rcases h4 with⟨zR,rfl⟩|⟨i,base,mem,x,Oa,rfl,WW,hI⟩
 ·refine .inl ⟨rfl,?_⟩
  have jj:=dX ie (show does st .about=(st,noImage) by simp only[does,zR])
  refine kE a.cv (-4) (.inl ⟨rfl,rfl⟩) (by rw[jj];rfl) H S Kp.refl (fun _ h=>h) ?_ fun b z=>.inl z
  rw[jj]
  exact hD
 ·refine .inr ⟨x,rfl,?_⟩
  obtain⟨dx,gr,dg,hl,md,wl,gd,kH,OC,OD,lv,aZ,wa,ws,G,m,D⟩:=hI
  have jj:=dX ie (show does st .about=(st,{value:=(i.told.laid.length:Nat),numbers:=[base,i.told.size,i.told.entry.getD 0,i.mends.length,i.wants.length,i.gives.length]}) by simp only[does,Oa])
  rw[jj]at k
  have zQ:=D.aiT
  refine⟨x,dx,_,rfl,D.ob,Cu,x,dx,wl,gr,dg,kH,md,gd,_,_,wa,ws,i.told,S,hl,lv,aZ,G,_,_,_,rfl,D.wt,by lia,vv,AX,AY,vw,ya,D.Y6,xZ,jo,D.OE,D.Y8,D.Y9,fun tl H1 ZZ wq s1=>?_⟩
  refine k tl H1 S ?_ wq (by have:=MX.kF (PyRc31.whole [[((7:Nat):Int)]]);show(7:Int)≤_;lia) (Kp.same s1) (qu.same hD s1) (fun z=>h1 tl z wq) (fun y z=>.inl z)
  rw[ZZ,D.lvl,D.mdl,←D.wn,←D.gp.length_eq]
  rfl
theorem ok_all (T:Tx g.K g.mg a):Pr g 14 a.answer ["desk","call"] (wo a (di a)):=by
 refine TM (n:=13) T (di a) [a.begin,a.qB,a.lay,a.read,a.find,a.want,a.fill,a.about] rfl T.Rm ?_
 intro i
 match i with
 |⟨0,_⟩=>exact(WA T).mono (by decide)
 |⟨1,_⟩=>exact Mu T
 |⟨2,_⟩=>exact(acH T).mono (by decide)
 |⟨3,_⟩=>exact(Ze T).mono (by decide)
 |⟨4,_⟩=>exact(Zf T).mono (by decide)
 |⟨5,_⟩=>exact(Zg T).mono (by decide)
 |⟨6,_⟩=>exact(Zh T).mono (by decide)
 |⟨7,_⟩=>exact(WH T).mono (by decide)
end
end MI
namespace PySem.W.Fast
def tw14503933184405848335:=0
def tw18337839500399664258:=0
def tw6556725297179625758:=0
def tw9486351064211382421:=0
def tw17423998298828210676:=0
def tw2490292115799960512:=0
def tw36422667963838670:=0
def tw10260051604460462262:=0
def tw6625784087356264494:=0
def tw5340093595568770345:=0
def tw5592069866632005017:=0
def tw118797426933879334:=0
def tw4570021641249193408:=0
def tw749350310340247066:=0
def tw16027118012157616386:=0
def tw734127458752926090:=0
def tw14408237117278363876:=0
def tw16896088313205773882:=0
def tw11599653783157326807:=0
def tw18006444353703397101:=0
def tw4952034856917006518:=0
def tw14653105727431536786:=0
def tw10951629706270903138:=0
def tw1578793539741935533:=0
def tw3479971123033964889:=0
def tw8822396390548380179:=0
def tw6878819096204056493:=0
def tw3458615031357867498:=0
def tw4535555463747007141:=0
def tw14064311460875391789:=0
def tw15830583995560282616:=0
def tw4950135043257326472:=0
def tw9544363059571933936:=0
def tw512223295470343768:=0
def tw12119036438141429162:=0
def tw8168413174650358434:=0
def tw4204512193372523050:=0
def tw6589849684130361058:=0
def tw863281858696557667:=0
def tw10887183458294417725:=0
def tw3651626466327762405:=0
def tw12095127892805234296:=0
def tw11329000913324277504:=0
def tw7459083845125711356:=0
def tw588499963006764903:=0
def tw4983351638810566983:=0
def tw1650008709325261168:=0
def tw17177867175040246087:=0
def tw4691062992948094943:=0
def tw14097346940461966674:=0
def tw16927561919558395782:=0
def tw16521972420398721046:=0
def tw11798989554234361395:=0
def tw11569185833105240140:=0
def tw6811155695504863504:=0
def tw944818251203339937:=0
def tw13218213252781615491:=0
def tw3657006122797799938:=0
def tw6117371359958715912:=0
def tw17315548080249439303:=0
def tw15534795488784730078:=0
def tw10834108373216557921:=0
def tw16918027600882609638:=0
def tw15637065149086426250:=0
def tw15273735848660791464:=0
def tw13138685140988736286:=0
def tw9336200993476268774:=0
def tw3783030539001494040:=0
def tw15960845238836999470:=0
def tw17742982770758533474:=0
def tw9339004917480615581:=0
def tw14350355492348984293:=0
def tw11386126085788652510:=0
def tw4130539027113824069:=0
def tw3300940180237887935:=0
def tw11036270180514946502:=0
def tw7422013079245500681:=0
def tw9401561578936450373:=0
def tw3423204184311919077:=0
def tw1596387172163121928:=0
def tw13183299870760048642:=0
def tw1263277471294008339:=0
def tw13531045627853658488:=0
def tw2158519542274615629:=0
def tw7221926152129286175:=0
def tw16366162026623280310:=0
def tw15163089075251250828:=0
def tw4540088119860727800:=0
def tw13824264235730109084:=0
def tw814909550973673613:=0
def tw17589604067962610032:=0
def tw1161555941289827220:=0
def tw15402331062118698128:=0
def tw18370309360010728431:=0
def tw12133284588380941270:=0
def tw2798034920524098332:=0
def tw7711625226260260317:=0
def tw11029306283232817922:=0
def tw17558167948445292491:=0
def tw16461132505343562564:=0
def tw7425510662027889184:=0
def tw1398800803212522260:=0
def tw1090141781243935874:=0
def tw15047860151274069505:=0
def tw1144492459830097682:=0
def tw16878563878371123129:=0
def tw11086603647733864609:=0
def tw13916209276107935398:=0
def tw8896114049992095335:=0
def tw4337985937748963911:=0
def tw17878034317787803080:=0
def tw12773534914926776809:=0
def tw13850648463729239127:=0
def tw13370946745457457514:=0
def tw13886626541233269024:=0
def tw1046899723418165915:=0
def tw8569147374485199527:=0
def tw15307965641398765504:=0
def tw10920161299409351114:=0
def tw384135070990763582:=0
def tw15253102146231053851:=0
def tw3320622901365896111:=0
def tw7283194519577031613:=0
def tw7163187072332418400:=0
def tw15379644776035592581:=0
def tw257238497125172007:=0
def tw3750110768878954776:=0
def tw14692614549736327176:=0
def tw13325343425211520433:=0
def tw6576521996913864665:=0
def tw12209926978744358151:=0
def tw7163450189784197275:=0
def tw9273163701982481666:=0
def tw7416066487521063063:=0
def tw17617524922714868241:=0
def tw10045617822078551309:=0
def tw14294294965482746726:=0
def tw13732798296288878360:=0
def tw10155486210600573240:=0
def tw1604979475007944060:=0
def tw13325134195677988759:=0
def tw16002875023827645157:=0
def tw6587647081050935521:=0
def tw17882441764360676251:=0
def tw11235105791132937080:=0
def tw1963326984679552970:=0
def tw9088697027018673085:=0
def tw11103668028283870894:=0
def tw1890039828247243788:=0
def tw8779959580361052513:=0
def tw9328034395560545678:=0
def tw8464575516645798577:=0
def tw16262302905549045581:=0
def tw14660584724035895800:=0
def tw9417353228330595195:=0
def tw16147874793775259867:=0
def tw4642453044365703145:=0
def tw2797509146216596879:=0
def tw17032499182986001464:=0
def tw5105523912419242152:=0
def tw15673293263428673799:=0
def tw7116011515947721599:=0
def tw14315468380972544302:=0
def tw13292690258197783628:=0
def tw2715699209718503446:=0
def tw10537208716358430776:=0
def tw14960889280056202545:=0
def tw11049341369820987674:=0
def tw7458334904370528513:=0
def tw12028272563811257121:=0
def tw4905862545420743051:=0
def tw5997519565473674468:=0
def tw10496070171781906541:=0
def tw1155202504651713523:=0
def tw316249993413819136:=0
def tw6173459219568868331:=0
def tw15953643056604633067:=0
def tw9332572550005027689:=0
def tw8276903747988154974:=0
def tw6237272189846452370:=0
def tw15634563742596601400:=0
def tw5367295913701210613:=0
def tw2657092362825449101:=0
def tw14384299996347344441:=0
def tw13158987665386891346:=0
def tw11254199562538767695:=0
def tw8804999342841850144:=0
def tw1871054119099646465:=0
def tw13882603139408131047:=0
def tw3850164438796644183:=0
def tw13820282078093871920:=0
def tw3998131257148744812:=0
def tw6719202318361053853:=0
def tw196335055999596145:=0
def tw16736612550144219968:=0
def tw16036303798990584681:=0
def tw5794489541316357276:=0
def tw9395405241452769641:=0
def tw18003950873644916088:=0
def tw6429832209145999805:=0
def tw4195645120722076733:=0
def tw4870148410261674201:=0
def tw10909990244958116678:=0
def tw8259365641988170033:=0
def tw14755432778218742028:=0
def tw951548179645576327:=0
def tw314492722660726541:=0
def tw16363656333025000632:=0
def tw13550518108105883566:=0
def tw10655202549767015068:=0
def tw13840899951851535169:=0
def tw724444575224514340:=0
def tw9582255342856101046:=0
def tw8645992458502446815:=0
def tw5469324031432304387:=0
def tw13685719300287979304:=0
def tw14030880189605212675:=0
def tw1605399035660512499:=0
def tw5621720970294388962:=0
def tw15169594373404842769:=0
def tw1643157473553548055:=0
def tw15604481317465748831:=0
def tw8545885362746694743:=0
def tw6388166063472480421:=0
def tw9722726784615885368:=0
def tw10694329520921317546:=0
def tw7377844259091458825:=0
def tw3861323516600937799:=0
def tw14472649781762669144:=0
def tw18278121076706056219:=0
def tw15976846710092659751:=0
def tw4958579769208879028:=0
def tw17310559082243024787:=0
def tw12321289091234128920:=0
def tw9379449852483424940:=0
def tw7537126597366056049:=0
def tw6925239315499492123:=0
def tw5728329061722887469:=0
def tw8709385747267714023:=0
def tw12644273995123175948:=0
def tw13990689302271899893:=0
def tw5398191305372438511:=0
def tw13437040310368944909:=0
def tw16596158353956139100:=0
def tw5656348407550996923:=0
def tw18374853373051807055:=0
def tw12359496733626802508:=0
def tw6308370749010102094:=0
def tw2444354897585782482:=0
def tw234047627729585690:=0
def tw16439803438034010469:=0
def tw6683537661171388318:=0
def tw16025294202689710837:=0
def tw4713698404586731744:=0
def tw4913611195544088312:=0
def tw11625852335523863211:=0
def tw7899438874480325270:=0
def tw12115387992544208189:=0
def tw1559549250016728098:=0
def tw12141255925250192430:=0
def tw8363416263093053919:=0
def tw14575734406865964065:=0
def tw5546256840532593645:=0
def tw5056360836774048673:=0
def tw7050616183137164261:=0
def tw10830864037344836648:=0
def tw13182630878864981913:=0
def tw9848817535409880582:=0
def tw895181041185196446:=0
def tw12131655905291832128:=0
def tw6195689690760311333:=0
def tw1442293230330634812:=0
def tw13254654778581164477:=0
def tw13296250429456704682:=0
def tw14333035530107334455:=0
def tw8516423039008893363:=0
def tw14910900303496424652:=0
def tw13357390270121523549:=0
def tw17104272814366361897:=0
def tw7725256510865099029:=0
def tw6798638762355611811:=0
def tw11422890243071763827:=0
def tw11646425922635948030:=0
def tw11985382907797474885:=0
def tw807512492919025641:=0
def tw3532633217649195642:=0
def tw16668279458164563130:=0
def tw13925254899106725567:=0
def tw14387300795091172505:=0
def tw7208821882314160801:=0
def tw12858253207917940867:=0
def tw4828743885565293108:=0
def tw4927531605774270985:=0
def tw5805698179215116356:=0
def tw585115587897336300:=0
def tw9709130724161628656:=0
def tw10066683816423014150:=0
def tw17013883103116410598:=0
def tw12477892331174043667:=0
def tw1496597115326077809:=0
def tw1895608441306684616:=0
def tw11469719481620572861:=0
def tw17777226782961732000:=0
def tw14252827135314249630:=0
def tw12197996630087412097:=0
def tw12864811487543952486:=0
def tw8336285070487985250:=0
def tw14106484148517088953:=0
def tw11684845153766580936:=0
def tw17366696796287982101:=0
def tw15029580432370668017:=0
def tw10896482668272457225:=0
def tw17225728615068429742:=0
def tw6986090378858059819:=0
def tw12430307561675509735:=0
def tw12597505342639847885:=0
def tw10146569119428154119:=0
def tw13310186874873356783:=0
def tw8132019352686793514:=0
def tw15279316905588444053:=0
end PySem.W.Fast
open PySem PySem.W PyProof.Rows
set_option maxRecDepth 100000 in
set_option maxHeartbeats 0 in
theorem PySem.Challenge.cw_mendedimage_s01_answers_holds : PySem.Challenge.rw_mendedimage_s01_answers.Holds := by
 w_on;k_headS;(case hw=>exact⟨[.list []],by decide +kernel,by decide +kernel⟩)
 k_fillS
 refine MI.Wh (n:=14) (by decide) rfl rfl ⟨rfl,by decide,by decide⟩ (fun w h Y=>kIn_of Y) ?TX ?D ?OA
 case TX =>
  intro w mg h KX G
  refine' MI.ad9 KX G ..
  all_goals try first|k_is|(refine' MI.fnAt ?l ?c ?k;(case l=>k_is);(case c=>k_is);(case k=>k_is))|k_exc|kts_exm|decide
 case D=>exact MI.di
 case OA=>exact fun w mg base a T=>MI.ok_all (g:=⟨_,w,_,mg,base⟩) T
