import PyProof.Rows.All
import Wide.All
import OpenK.AllK
import Wide.FinOn
import Lean
import PyProof.EqAt
import PyProof.EqKinds
import PyProof.TupleCall
import PySem.Challenge.RW_plainpath_k13_chosen_of_what_was_heard
set_option Elab.async false
set_option linter.all false
set_option maxRecDepth 100000
namespace L2
open PySem PySem.Spec PyProof.Rows
abbrev Key:=Sum Int Str
def keyIs:Key→Value→Bool
 | .inl k,v=>Value.isInt k v
 | .inr x,v=>Value.isStrOf x v
def keyH (w:World):Key→Int
 | .inl k=>hashInt k
 | .inr x=>hashStr w x
theorem keyIs_shape:∀ {k:Key}{v:Value},keyIs k v=true→(∃ i t,k=Sum.inl i∧v=Value.int i t)∨(∃ x t,k=Sum.inr x∧v=Value.str x t)
 | .inl i,v,h=>by
  obtain⟨t,e⟩:=Value.isInt_shape (k:=i) (v:=v) h
  exact .inl ⟨i,t,rfl,e⟩
 | .inr x,v,h=>by
  obtain⟨t,e⟩:=Value.isStrOf_shape (x:=x) (v:=v) h
  exact .inr ⟨x,t,rfl,e⟩
theorem keyIs_int (i:Int) (t:Tok):keyIs (.inl i) (.int i t)=true:=by simp[keyIs,Value.isInt]
theorem keyIs_str (x:Str) (t:Tok):keyIs (.inr x) (.str x t)=true:=by simp[keyIs,Value.isStrOf]
theorem key_ll (a b:Int):decide ((Sum.inl a:Key)=Sum.inl b)=(a==b):=by
 by_cases e:a=b
 ·subst e;simp
 ·have h:¬ (Sum.inl a:Key)=Sum.inl b:=fun q=>e (Sum.inl.inj q)
  rw[decide_eq_false h]
  exact (beq_eq_false_iff_ne.mpr e).symm
theorem key_rr (a b:Str):decide ((Sum.inr a:Key)=Sum.inr b)=decide (a=b):=by
 by_cases e:a=b
 ·subst e;simp
 ·have h:¬ (Sum.inr a:Key)=Sum.inr b:=fun q=>e (Sum.inr.inj q)
  rw[decide_eq_false h,decide_eq_false e]
theorem key_lr (a:Int) (b:Str):decide ((Sum.inl a:Key)=Sum.inr b)=false:=decide_eq_false (fun q=>nomatch q)
theorem key_rl (a:Str) (b:Int):decide ((Sum.inr a:Key)=Sum.inl b)=false:=decide_eq_false (fun q=>nomatch q)
def mixKind (prog:Program) (w:World):PySem.KeyKind prog w Key where
 is:=keyIs
 hash:=keyH w
 inj:=fun v a b ha hb=>by
  rcases keyIs_shape ha with ⟨i,t,rfl,rfl⟩ | ⟨x,t,rfl,rfl⟩
  ·rcases keyIs_shape hb with ⟨j,u,rfl,e⟩ | ⟨y,u,rfl,e⟩
   ·injection e with e1 _;rw[e1]
   ·exact nomatch e
  ·rcases keyIs_shape hb with ⟨j,u,rfl,e⟩ | ⟨y,u,rfl,e⟩
   ·exact nomatch e
   ·injection e with e1 _;rw[e1]
 byValue:=fun k v h=>by
  rcases keyIs_shape h with ⟨i,t,rfl,rfl⟩ | ⟨x,t,rfl,rfl⟩<;>rfl
 pyHash:=fun hv h=>by
  rcases keyIs_shape hv with ⟨i,t,rfl,rfl⟩ | ⟨x,t,rfl,rfl⟩
  ·exact wpAny_pyHash_int h
  ·exact wpAny_pyHash_str h
 eqBool:=fun hu hv h=>by
  rcases keyIs_shape hu with ⟨i,t,rfl,rfl⟩ | ⟨x,t,rfl,rfl⟩
  ·rcases keyIs_shape hv with ⟨j,u,rfl,rfl⟩ | ⟨y,u,rfl,rfl⟩
   ·rw[key_ll] at h;exact wpAny_eqBool_int h
   ·rw[key_lr] at h;exact SeqAt.EqAt.int_str i t y u _ _ _ _ h
  ·rcases keyIs_shape hv with ⟨j,u,rfl,rfl⟩ | ⟨y,u,rfl,rfl⟩
   ·rw[key_rl] at h;exact SeqAt.EqAt.str_int x t j u _ _ _ _ h
   ·rw[key_rr] at h;exact wpAny_eqBool_str h
 «strs»:=fun k x t v h=>by
  rcases keyIs_shape h with ⟨i,u,rfl,e⟩ | ⟨y,u,rfl,e⟩
  ·exact nomatch e
  ·injection e with e1 _
   subst e1
   cases v<;>rfl
theorem mixKind_int (prog:Program) (w:World) (i:Int) (t:Tok):(mixKind prog w).is (.inl i) (.int i t)=true:=keyIs_int i t
theorem mixKind_str (prog:Program) (w:World) (x:Str) (t:Tok):(mixKind prog w).is (.inr x) (.str x t)=true:=keyIs_str x t
end L2
namespace L2
open PySem PySem.Spec PyProof.Rows
inductive V where
 | non | bl (b:Bool) | int (i:Int) | str (x:Str) | byt (b:Array UInt8) | flt (b:UInt64) | ref (a:Addr) | ty (n:String)
 deriving DecidableEq
def RelV:V→Value→Prop
 | .non,u=>u=Value.none
 | .bl b,u=>u=Value.bool b
 | .int i,u=>∃ t,u=Value.int i t
 | .str x,u=>∃ t,u=Value.str x t
 | .byt b,u=>∃ t,u=Value.bytes b t
 | .flt b,u=>∃ t,u=Value.float b t
 | .ref a,u=>u=Value.ref a
 | .ty n,u=>u=Value.type n
abbrev Vals:List V→List Value→Prop:=Paired RelV
theorem Vals.length {xs:List V}{us:List Value} (r:Vals xs us):xs.length=us.length:=Paired.length r
theorem Vals.get:∀ {xs:List V}{us:List Value}{i:Nat}{x:V},Vals xs us→xs[i]?=some x→∃ u,us[i]?=some u∧RelV x u
 | _,_,_,_,.nil,e=>by simp at e
 | _,_,0,_,.cons r _,e=>by simp at e;subst e;exact⟨_,rfl,r⟩
 | _,_,i+1,x,.cons _ t,e=>by
  obtain⟨u,h1,h2⟩:=Vals.get (i:=i) (x:=x) t (by simpa using e)
  exact⟨u,by simpa using h1,h2⟩
theorem Vals.append:∀ {xs ys:List V}{us ws:List Value},Vals xs us→Vals ys ws→Vals (xs++ys) (us++ws)
 | _,_,_,_,.nil,s=>s
 | _,_,_,_,.cons r t,s=>.cons r (Vals.append t s)
theorem Vals.take:∀ {xs:List V}{us:List Value} (n:Nat),Vals xs us→Vals (xs.take n) (us.take n)
 | _,_,0,_=>.nil
 | _,_,_+1,.nil=>.nil
 | _,_,n+1,.cons r t=>.cons r (Vals.take n t)
theorem Vals.drop:∀ {xs:List V}{us:List Value} (n:Nat),Vals xs us→Vals (xs.drop n) (us.drop n)
 | _,_,0,r=>r
 | _,_,_+1,.nil=>.nil
 | _,_,n+1,.cons _ t=>Vals.drop n t
def RelO:Option V→Option Value→Prop
 | some v,some u=>RelV v u
 | none,none=>True
 | _,_=>False
def KV {κ:Type}:List (κ×V)→List (κ×Value)→Prop:=Paired fun (p:κ×V) (q:κ×Value)=>p.1=q.1∧RelV p.2 q.2
def kV:Key→V
 | .inl i=>.int i
 | .inr x=>.str x
inductive HO where
 | lst (xs:List V)
 | tup (xs:List V)
 | dK (kvs:List (Key×V)) | dT (kvs:List (List Key×V))
 | set (S:Int→Bool) (n:Nat)
 | ins (C dx:Addr) (fs:List (Str×V))
 | own (x:Addr)
 | xd (fs:List (Str×V))
 | met (f x:Addr)
 | rng (lo hi:Int)
 | frz (o:Obj) (u:HO)
 | tbl (ps:Array Value)
 | ext (φ:Heap→Prop)
abbrev Hp:=Addr→Option HO
def upd (H:Hp) (a:Addr) (o:HO):Hp:=fun b=>if b=a then some o else H b
theorem upd_same {H:Hp}{a:Addr}{o:HO}:upd H a o a=some o:=by unfold upd;rw[if_pos rfl]
theorem upd_ne {H:Hp}{a b:Addr}{o:HO} (h:b≠a):upd H a o b=H b:=by unfold upd;rw[if_neg h]
theorem ne_of {H:Hp}{a b:Addr}{o u:HO} (h:H a=some o) (h':H b=some u) (d:o≠u):a≠b:=by
 intro e;subst e;rw[h] at h';exact d (Option.some.inj h')
theorem ne_of_none {H:Hp}{a b:Addr}{o:HO} (h:H a=some o) (h':H b=none):a≠b:=by
 intro e;subst e;rw[h] at h';cases h'
section
variable (P:Program) (w:World)
def ObjOk (H:Hp) (h:Heap) (a:Addr):HO→Prop
 | .lst xs=>xs.length≤sizeLine∧∃ (its:List Value) (n:Nat),Vals xs its∧h.get? a=some { cls:=.type "list",data:=.seq its.toArray n }
 | .tup xs=>xs.length≤sizeLine∧∃ its:List Value,Vals xs its∧IsTup h a its.toArray
 | .dK kvs=>kvs.length≤sizeLine∧(a==sysModules)=false∧∃ vs,KV kvs vs∧h.DictOf (mixKind P w) a vs
 | .dT kvs=>kvs.length≤sizeLine∧(a==sysModules)=false∧∃ xs:List (List Key×Addr×Value),
   Paired (fun (p:List Key×V) (q:List Key×Addr×Value)=>p.1=q.1∧H q.2.1=some (.tup (p.1.map kV))∧RelV p.2 q.2.2) kvs xs ∧
   ∃ o es ep,h.get? a=some o∧o.ExactDict∧o.data=.dict es ep∧es.toList=xs.map (entryOfKey (tupleKind (mixKind P w)))∧(xs.map (·.1)).Nodup
 | .set S n=>h.SetOf (intKind P w) a S n
 | .ins C dx fs=>H dx=some (.own a)∧fs.length≤1000∧dx≠a∧h.get? a=some (PySem.W.instObj C dx) ∧
   ∃ mA,h.Ns1 dx mA∧(∀ f,RelO (fs.lookup f) (mA f))∧PySem.Within mA (fs.map (·.1))
 | .own _=>∃ o,h.get? a=some o
 | .xd fs=>∃ mA,h.Ns1 a mA∧∀ f,RelO (fs.lookup f) (mA f)
 | .rng lo hi=>∃ t u v,h.get? a=some { cls:=.type "range",data:=.fields #[.int lo t,.int hi u,.int 1 v] }
 | .frz o u=>h.get? a=some o∧ObjOk H h a u
 | .tbl ps=>h.get? a=some { cls:=.none,data:=.fields ps }
 | .met f x=>h.get? a=some (PySem.W.methodObj (.ref f) (.ref x))
 | .ext φ=>φ h∧(∃ o,h.get? a=some o)∧∀ h1 h2:Heap,φ h1→(∀ o,h1.get? a=some o→h2.get? a=some o)→φ h2
def HOk (H:Hp) (h:Heap):Prop:=∀ a o,H a=some o→ObjOk P w H h a o
end
section
variable {P:Program}{w:World}{H H':Hp}{h h':Heap}{a:Addr}{o:HO}
theorem ObjOk.lt (x:ObjOk P w H h a o):a<h.objs.size:=by
 cases o with
 | lst xs=>obtain⟨_,_,_,_,e⟩:=x;exact Heap.lt_size e
 | tup xs=>obtain⟨_,_,_,p⟩:=x;exact p.lt
 | dK kvs=>obtain⟨_,_,_,_,o,_,_,e,_⟩:=x;exact Heap.lt_size e
 | dT kvs=>obtain⟨_,_,_,_,o,_,_,e,_⟩:=x;exact Heap.lt_size e
 | set S n=>obtain⟨o,_,_,_,e,_⟩:=x;exact Heap.lt_size e
 | ins C dx fs=>obtain⟨_,_,_,e,_⟩:=x;exact Heap.lt_size e
 | own y=>obtain⟨_,e⟩:=x;exact Heap.lt_size e
 | xd fs=>obtain⟨_,⟨_,_,_,e,_⟩,_⟩:=x;exact Heap.lt_size e
 | rng lo hi=>obtain⟨_,_,_,e⟩:=x;exact Heap.lt_size e
 | frz ob u=>obtain⟨e,_⟩:=x;exact Heap.lt_size e
 | tbl ps=>exact Heap.lt_size (show h.get? a=some _ from x)
 | met f y=>exact Heap.lt_size (show h.get? a=some _ from x)
 | ext φ=>obtain⟨_,⟨_,e⟩,_⟩:=x;exact Heap.lt_size e
theorem Paired.mapP {α β:Type}{F G:α→β→Prop}:∀ {l₁:List α}{l₂:List β},Paired F l₁ l₂→(∀ a b,F a b→G a b)→Paired G l₁ l₂
 | _,_,.nil,_=>.nil
 | _,_,.cons r t,f=>.cons (f _ _ r) (Paired.mapP t f)
theorem ObjOk.stay (x:ObjOk P w H h a o) (k:∀ b u,(b=a∨H b=some (.own a))→h.get? b=some u→h'.get? b=some u)
  (ho:∀ b,H b=some (.own a)→H' b=some (.own a)) (ht:∀ b xs,H b=some (.tup xs)→H' b=some (.tup xs)):ObjOk P w H' h' a o:=by
 induction o with
 | lst xs=>obtain⟨z,its,n,r,e⟩:=x;exact⟨z,its,n,r,k _ _ (.inl rfl) e⟩
 | tup xs=>obtain⟨z,its,r,ob,e,c⟩:=x;exact⟨z,its,r,ob,k _ _ (.inl rfl) e,c⟩
 | dK kvs=>obtain⟨z,y,vs,r,ob,es,ep,e,c⟩:=x;exact⟨z,y,vs,r,ob,es,ep,k _ _ (.inl rfl) e,c⟩
 | dT kvs =>
  obtain⟨z,y,xs,r,ob,es,ep,e,c⟩:=x
  exact⟨z,y,xs,Paired.mapP r fun p q z=>⟨z.1,ht _ _ z.2.1,z.2.2⟩,ob,es,ep,k _ _ (.inl rfl) e,c⟩
 | set S n=>obtain⟨ob,es,ep,t,e,c⟩:=x;exact⟨ob,es,ep,t,k _ _ (.inl rfl) e,c⟩
 | ins C dx fs =>
  obtain⟨d,z,ne,e,mA,⟨od,es,ep,e2,c⟩,r⟩:=x
  exact⟨ho _ d,z,ne,k _ _ (.inl rfl) e,mA,⟨od,es,ep,k _ _ (.inr d) e2,c⟩,r⟩
 | own y=>obtain⟨ob,e⟩:=x;exact⟨ob,k _ _ (.inl rfl) e⟩
 | xd fs=>obtain⟨mA,⟨od,es,ep,e,c⟩,r⟩:=x;exact⟨mA,⟨od,es,ep,k _ _ (.inl rfl) e,c⟩,r⟩
 | rng lo hi=>obtain⟨t,u,v,e⟩:=x;exact⟨t,u,v,k _ _ (.inl rfl) e⟩
 | frz ob u ih=>obtain⟨e,q⟩:=x;exact⟨k _ _ (.inl rfl) e,ih q⟩
 | tbl ps =>
  have e:h.get? a=some { cls:=.none,data:=.fields ps }:=x
  show h'.get? a=some { cls:=.none,data:=.fields ps }
  exact k a _ (.inl rfl) e
 | met f y =>
  have e:h.get? a=some (PySem.W.methodObj (.ref f) (.ref y)):=x
  show h'.get? a=some (PySem.W.methodObj (.ref f) (.ref y))
  exact k a _ (.inl rfl) e
 | ext φ=>obtain⟨p,⟨o,e⟩,st⟩:=x;exact⟨st _ _ p fun o q=>k _ _ (.inl rfl) q,⟨o,k _ _ (.inl rfl) e⟩,st⟩
theorem HOk.lt (x:HOk P w H h) (e:H a=some o):a<h.objs.size:=(x a o e).lt
theorem HOk.fresh (x:HOk P w H h) (e:h.objs.size≤a):H a=none:=by
 cases q:H a with
 | none=>rfl
 | some u=>exact absurd (Nat.lt_of_lt_of_le (x.lt q) e) (Nat.lt_irrefl _)
theorem HOk.kept (x:HOk P w H h) (k:∀ b u,h.get? b=some u→h'.get? b=some u):HOk P w H h':=fun a o e =>
 (x a o e).stay (fun b u _ q=>k b u q) (fun _ q=>q) fun _ _ q=>q
theorem HOk.laid (x:HOk P w H h) (k:∀ b u,h.get? b=some u→h'.get? b=some u) (hp:h.objs.size≤a) (new:ObjOk P w (upd H a o) h' a o):HOk P w (upd H a o) h':=fun b u e=>by
 have hn:=x.fresh hp
 by_cases hb:b=a
 ·subst hb;rw[upd_same] at e;cases e;exact new
 ·rw[upd_ne hb] at e
  exact (x b u e).stay (fun c v _ q=>k c v q) (fun c q=>by rw[upd_ne (ne_of_none q hn)];exact q) fun c xs q=>by rw[upd_ne (ne_of_none q hn)];exact q
end
def Rd (H:Hp) (a:Addr) (u:HO):Prop:=H a=some u∨∃ o,H a=some (.frz o u)
theorem Rd.ok {P:Program}{w:World}{H:Hp}{h:Heap}{a:Addr}{u:HO} (r:Rd H a u) (x:HOk P w H h):ObjOk P w H h a u:=by
 rcases r with r | ⟨o,r⟩
 ·exact x a u r
 ·obtain⟨_,q⟩:=x a _ r
  exact q
def Mut:Option HO→Prop
 | some (.lst _)=>True
 | some (.dK _)=>True
 | some (.dT _)=>True
 | some (.set _ _)=>True
 | some (.ins _ _ _)=>True
 | some (.ext _)=>True
 | _=>False
section
variable {P:Program}{w:World}{H:Hp}{h h':Heap}{x e:Addr}{o':HO}
theorem HOk.write (ok:HOk P w H h) (mu:Mut (H x)) (he:e=x∨H e=some (.own x)) (k:∀ b u,b≠e→h.get? b=some u→h'.get? b=some u) (heo:∃ u,h'.get? e=some u)
  (new:ObjOk P w (upd H x o') h' x o'):HOk P w (upd H x o') h':=fun b u q=>by
 have nown:∀ c y,H c=some (.own y)→c≠x:=fun c y r z=>by subst z;rw[r] at mu;exact mu
 have ntup:∀ c xs,H c=some (.tup xs)→c≠x:=fun c xs r z=>by subst z;rw[r] at mu;exact mu
 by_cases hb:b=x
 ·subst hb;rw[upd_same] at q;cases q;exact new
 ·rw[upd_ne hb] at q
  by_cases hbe:b=e
  ·have q':H b=some (.own x):=by
    rcases he with z | z
    ·exact absurd (hbe.trans z) hb
    ·rw[hbe];exact z
   rw[q] at q';cases q'
   obtain⟨v,hv⟩:=heo
   exact⟨v,by rw[hbe];exact hv⟩
  ·refine (ok b u q).stay (fun c v hc r=>k c v ?_ r) (fun c r=>by rw[upd_ne (nown c b r)];exact r) fun c xs r=>by rw[upd_ne (ntup c xs r)];exact r
   rcases hc with rfl | hc
   ·exact hbe
   ·rintro rfl
    rcases he with z | z
    ·exact nown c b hc z
    ·rw[hc] at z;cases z;exact hb rfl
end
structure Un (fs ex:List Addr) (H H':Hp) (h h':Heap):Prop where
 keep:∀ b o,h.get? b=some o→H b=none→b ∉ fs→b ∉ ex→h'.get? b=some o
 slot:∀ b o,h.get? b=some o→H b=none→b∈fs→b ∉ ex→∃ sl,h'.get? b=some { o with slots:=sl }
 free:∀ b o,h.get? b=some o→H b=none→b ∉ ex→H' b=none
 there:∀ b o,h.get? b=some o→b ∉ ex→∃ o',h'.get? b=some o'
 tups:∀ b xs,H b=some (.tup xs)→H' b=some (.tup xs)
 frzs:∀ b o u,H b=some (.frz o u)→H' b=some (.frz o u)
 tbls:∀ b ps,H b=some (.tbl ps)→∃ more,H' b=some (.tbl (ps++more))
section
variable {fs fs' ex ex':List Addr}{H H1 H2:Hp}{h h1 h2 h':Heap}{a x e:Addr}{o:HO}
theorem Un.any (u:Un fs ex H H1 h h1) {b:Addr}{ob:Obj} (q:h.get? b=some ob) (n:H b=none) (hx:b ∉ ex):∃ sl,h1.get? b=some { ob with slots:=sl }:=by
 by_cases hb:b∈fs
 ·exact u.slot b ob q n hb hx
 ·exact⟨ob.slots,u.keep b ob q n hb hx⟩
theorem Un.kept (k:∀ b u,h.get? b=some u→h'.get? b=some u):Un fs ex H H h h' :=
 ⟨fun b ob q _ _ _=>k b ob q,fun b ob q _ _ _=>⟨ob.slots,k b ob q⟩,fun _ _ _ n _=>n,fun b ob q _=>⟨ob,k b ob q⟩,fun _ _ q=>q,fun _ _ _ q=>q,fun _ ps q=>⟨#[],by rw[q];simp⟩⟩
theorem Un.refl:Un fs ex H H h h:=Un.kept fun _ _ q=>q
theorem Un.laid (k:∀ b u,h.get? b=some u→h'.get? b=some u) (hp:h.objs.size≤a) (hn:H a=none):Un fs ex H (upd H a o) h h' where
 keep:=fun b u q _ _ _=>k b u q
 slot:=fun b u q _ _ _=>⟨u.slots,k b u q⟩
 free:=fun b u q n _=>by rw[upd_ne (Nat.ne_of_lt (Nat.lt_of_lt_of_le (Heap.lt_size q) hp))];exact n
 there:=fun b u q _=>⟨u,k b u q⟩
 tups:=fun b xs q=>by rw[upd_ne (ne_of_none q hn)];exact q
 frzs:=fun b u xs q=>by rw[upd_ne (ne_of_none q hn)];exact q
 tbls:=fun b ps q=>⟨#[],by rw[upd_ne (ne_of_none q hn),q];simp⟩
theorem Un.write (mu:Mut (H x)) (he:e=x∨H e=some (.own x)) (k:∀ b u,b≠e→h.get? b=some u→h'.get? b=some u) (heo:∃ u,h'.get? e=some u):Un fs ex H (upd H x o) h h':=by
 have hx:∀ b,H b=none→b≠x:=fun b n z=>by subst z;rw[n] at mu;exact mu
 have hb:∀ b,H b=none→b≠e:=fun b n z=>by
  subst z
  rcases he with r | r
  ·exact hx b n r
  ·rw[n] at r;cases r
 have hm:∀ b u,H b=some u→¬ Mut (some u)→b≠x:=fun b u q nm z=>by subst z;rw[q] at mu;exact nm mu
 refine⟨fun b u q n _ _=>k b u (hb b n) q,fun b u q n _ _=>⟨u.slots,k b u (hb b n) q⟩,fun b u q n _=>by rw[upd_ne (hx b n)];exact n,fun b u q _=>?_,
  fun b xs q=>by rw[upd_ne (hm b _ q fun z=>z)];exact q,fun b u xs q=>by rw[upd_ne (hm b _ q fun z=>z)];exact q,fun b ps q=>⟨#[],by rw[upd_ne (hm b _ q fun z=>z),q];simp⟩⟩
 by_cases hbe:b=e
 ·subst hbe;exact heo
 ·exact⟨u,k b u hbe q⟩
end
def trk (h:Heap) (H:Hp):List Addr:=(List.range h.objs.size).filter fun a=>(H a).isSome
def hidT (h:Heap) (H:Hp):Heap:=PySem.W.hideAll h (trk h H)
theorem hidT_size (h:Heap) (H:Hp):(hidT h H).objs.size=h.objs.size:=PySem.W.hideAll_size _ _
theorem hidT_get {h:Heap}{H:Hp}{b:Addr}{o:Obj} (e:h.get? b=some o) (n:H b=none):(hidT h H).get? b=some o :=
 PySem.W.hideAll_get _ e fun hm=>by
  have q:(H b).isSome=true:=(List.mem_filter.mp hm).2
  rw[n] at q;simp at q
theorem of_hidT {h:Heap}{H:Hp}{b:Addr}{o:Obj} (e:(hidT h H).get? b=some o):h.get? b=some o∧H b=none:=by
 have e':h.get? b=some o:=PySem.W.of_hideAll (trk h H) e
 refine⟨e',?_⟩
 cases q:H b with
 | none=>rfl
 | some x =>
  have hm:b∈trk h H:=List.mem_filter.mpr ⟨List.mem_range.mpr (Heap.lt_size e'),by simp[q]⟩
  have z:(hidT h H).get? b=none:=PySem.W.hideAll_none (trk h H) hm
  rw[z] at e;cases e
end L2
namespace L2
open PySem PySem.Spec PyProof.Rows
structure Mod (K:PySem.W.Frag) (mg:Str→Option Value) (base:Heap):Prop where
 kin:K.In base
 glob:base.Ns mainGlobals mg
 blt:∃ mb,base.Ns builtinsNs mb∧∀ x:Str,x≠"__name__"→mb x=bootBuiltins x
 nolimit:base.NoLimit
structure Cx where
 prog:Program
 w:World
 K:PySem.W.Frag
 mg:Str→Option Value
 base:Heap
 A:Around
 N:List Str
 s₀:Shared
 H₀:Hp
 env:Env
 outer:List Env
 stack:List Env
 ex:List Addr
 fn:Str→Bool
 calm:Bool
 pn:List (Addr×Obj)
 xe:Value→Shared→Prop
def frs (l:List Env):List Addr:=l.filterMap (·.frame)
abbrev Cx.fs (X:Cx):List Addr:=frs X.outer
def Vis (sc:Scope) (x:Str):Prop:=sc.names.lookup x=some .local∨sc.names.lookup x=some .cell∨sc.names.lookup x=some .free
def Loc (sc:Scope) (x:Str):Prop:=sc.names.lookup x=some .local∨sc.names.lookup x=some .cell
def Look (env:Env) (h:Heap) (m:Str→Option Value) (x:Str) (u:Value):Prop :=
 (env.kindOf x=some .local∧m x=some u)∨((env.kindOf x=some .cell∨env.kindOf x=some .free)∧∃ c,env.cells.lookup x=some c∧h.IsCell c (some u))
structure Cx.Ok (X:Cx):Prop where
 mod:Mod X.K X.mg X.base
 kind:X.env.scope.kind=.function
 glob:X.env.globals=mainGlobals
 blt:X.env.builtins=builtinsNs
 above:X.s₀.heap.objs.size≤X.env.locals
 inj:∀ x y c,X.env.cells.lookup x=some c→X.env.cells.lookup y=some c→x=y
 has:∀ x,(X.env.kindOf x=some .cell∨X.env.kindOf x=some .free)→∃ c,X.env.cells.lookup x=some c
 cab:∀ x c,X.fn x=true→X.env.cells.lookup x=some c→X.s₀.heap.objs.size≤c
 hd:X.calm=true→X.A.handled=none
 frames:X.A.frames=some X.stack
 stk:X.stack=X.outer∨(X.stack=X.env::X.outer∧X.env.frame=some X.env.locals)
 exf:∀ b∈X.ex,b≠X.env.locals∧∀ x c,X.env.cells.lookup x=some c→c≠b
 bs:∀ b o,X.base.get? b=some o→X.s₀.heap.get? b=some o∧X.H₀ b=none
 bsz:X.base.objs.size≤X.s₀.heap.objs.size
 noex:∀ b o,X.base.get? b=some o→b ∉ X.ex
 exfs:∀ b∈X.ex,b ∉ X.fs
 funs:X.s₀.heap.FunFrames X.base X.outer
 frf:∀ b∈X.fs,X.H₀ b=none
structure Inv (X:Cx) (pins:List (Addr×Obj)) (σ:List (Option V)) (H:Hp) (s:Shared):Prop where
 ok:X.Ok
 os:s.os=X.s₀.os
 bare:AllBare s.gens
 base:Un X.fs X.ex X.H₀ H X.s₀.heap s.heap
 loc:∃ m,s.heap.Ns X.env.locals m∧∀ (i:Nat) (x:Str) (v:V),X.N[i]?=some x→σ[i]?=some (some v)→Vis X.env.scope x→∃ u,RelV v u∧Look X.env s.heap m x u
 cell:∀ x c,X.env.cells.lookup x=some c→∃ v,s.heap.IsCell c v
 free:H X.env.locals=none
 freeC:∀ x c,X.env.cells.lookup x=some c→H c=none
 pin:∀ p∈X.pn++pins,s.heap.get? p.1=some p.2∧H p.1=none∧p.1≠X.env.locals∧p.1 ∉ X.fs∧∀ v,p.2.data≠.cell v
 hok:HOk X.prog X.w H s.heap
 len:σ.length=X.N.length
section
variable {X:Cx}{pins:List (Addr×Obj)}{σ:List (Option V)}{H H':Hp}{s:Shared}{h':Heap}
theorem Cx.Ok.nofr (ok:X.Ok) {b:Addr}{o:Obj} (e:X.base.get? b=some o):b ∉ X.fs:=fun hb=>by
 have:=(ok.funs.mem hb).1
 rw[e] at this;cases this
theorem Inv.bs (I:Inv X pins σ H s):∀ b o,X.base.get? b=some o→s.heap.get? b=some o∧H b=none:=fun b o e =>
 ⟨I.base.keep b o (I.ok.bs b o e).1 (I.ok.bs b o e).2 (I.ok.nofr e) (I.ok.noex b o e),I.base.free b o (I.ok.bs b o e).1 (I.ok.bs b o e).2 (I.ok.noex b o e)⟩
theorem Inv.bk (I:Inv X pins σ H s):∀ b o,X.base.get? b=some o→s.heap.get? b=some o:=fun b o e=>(I.bs b o e).1
theorem Inv.mod (I:Inv X pins σ H s):Mod X.K X.mg X.base:=I.ok.mod
theorem Inv.kIn (I:Inv X pins σ H s):X.K.In s.heap:=I.ok.mod.kin.keeps I.bk
theorem Inv.lt (I:Inv X pins σ H s):X.env.locals<s.heap.objs.size:=let ⟨_,hn,_⟩:=I.loc;hn.lt
theorem Inv.sz (I:Inv X pins σ H s):X.s₀.heap.objs.size≤s.heap.objs.size:=Nat.le_trans I.ok.above (Nat.le_of_lt I.lt)
theorem Inv.nofs (I:Inv X pins σ H s) {a:Addr} (h:s.heap.objs.size≤a):a ∉ X.fs:=fun hb=>by
 obtain⟨_,o,ho,_⟩:=I.ok.funs.mem hb
 exact absurd (Nat.lt_of_lt_of_le (Heap.lt_size ho) (Nat.le_trans I.sz h)) (Nat.lt_irrefl _)
theorem Inv.cne (I:Inv X pins σ H s):∀ x c,X.env.cells.lookup x=some c→c≠X.env.locals:=fun x c e z=>by
 obtain⟨v,o,ho,hd⟩:=I.cell x c e
 obtain⟨m,⟨o',es,ep,ho',hd',_⟩,_⟩:=I.loc
 rw[z,ho'] at ho;cases ho;rw[hd'] at hd;cases hd
theorem Inv.funs (I:Inv X pins σ H s):s.heap.FunFrames X.base X.outer:=by
 have all:∀ (l:List Env),(∀ b∈frs l,b∈X.fs)→X.s₀.heap.FunFrames X.base l→s.heap.FunFrames X.base l:=by
  intro l
  induction l with
  | nil=>intro _ _;trivial
  | cons env r ih =>
   intro hs hl
   obtain⟨hk,⟨L,o,hf,hn,ho,hd⟩,hr⟩:=hl
   have hL:L∈X.fs:=hs L (by unfold frs;rw[List.filterMap_cons,hf];exact List.mem_cons_self)
   obtain⟨sl,e⟩:=I.base.slot L o ho (I.ok.frf L hL) hL fun z=>I.ok.exfs L z hL
   exact⟨hk,⟨L,_,hf,hn,e,hd⟩,ih (fun b hb=>hs b (by unfold frs;rw[List.filterMap_cons,hf];exact List.mem_cons_of_mem _ hb)) hr⟩
 exact all X.outer (fun _ hb=>hb) I.ok.funs
theorem Inv.stack (I:Inv X pins σ H s):s.heap.FunFrames X.base X.stack:=by
 rcases I.ok.stk with e | ⟨e,hf⟩
 ·rw[e];exact I.funs
 ·rw[e]
  obtain⟨m,hn,_⟩:=I.loc
  refine .cons (by rw[I.ok.kind];decide) hf hn ?_ I.funs
  exact Heap.get?_none_of_le (Nat.le_trans I.ok.bsz I.ok.above)
theorem Inv.stkSub (I:Inv X pins σ H s):∀ b∈frs X.stack,b∈X.env.locals::X.fs:=fun b hb=>by
 rcases I.ok.stk with e | ⟨e,hf⟩
 ·rw[e] at hb;exact List.mem_cons_of_mem _ hb
 ·rw[e] at hb
  unfold frs at hb
  rw[List.filterMap_cons,hf] at hb
  exact hb
theorem Inv.stkFree (I:Inv X pins σ H s):∀ b∈frs X.stack,H b=none:=fun b hb=>by
 rcases List.mem_cons.mp (I.stkSub b hb) with e | hb
 ·rw[e];exact I.free
 ·obtain⟨_,o,ho,_⟩:=I.ok.funs.mem hb
  exact I.base.free b o ho (I.ok.frf b hb) fun z=>I.ok.exfs b z hb
theorem Inv.step {g':Array GenState}{t':Nat}{d':Drawn}{ch:List Addr} (I:Inv X pins σ H s)
  (hch:∀ b∈ch,(b∈X.ex∨X.s₀.heap.objs.size≤b)∧b≠X.env.locals∧(∀ x c,X.env.cells.lookup x=some c→c≠b)∧∀ p∈X.pn++pins,p.1≠b)
  (keep:∀ b o,b≠X.env.locals→b ∉ X.fs→b ∉ ch→s.heap.get? b=some o→H b=none→h'.get? b=some o)
  (slot:∀ b o,b≠X.env.locals→b∈X.fs→b ∉ ch→s.heap.get? b=some o→H b=none→∃ sl,h'.get? b=some { o with slots:=sl }) (free:∀ b o,b ∉ ch→s.heap.get? b=some o→H b=none→H' b=none)
  (there:∀ b o,b ∉ ch→s.heap.get? b=some o→∃ o',h'.get? b=some o')
  (tups:∀ b xs,H b=some (.tup xs)→H' b=some (.tup xs)) (frzs:∀ b o u,H b=some (.frz o u)→H' b=some (.frz o u)) (tbls:∀ b ps,H b=some (.tbl ps)→∃ more,H' b=some (.tbl (ps++more)))
  (ns:∀ m,s.heap.Ns X.env.locals m→h'.Ns X.env.locals m) (hok:HOk X.prog X.w H' h') (hg:AllBare g') :
  Inv X pins σ H' { s with heap:=h',gens:=g',drawn:=d',toks:=t' }:=by
 have neL:∀ b o,X.s₀.heap.get? b=some o→b≠X.env.locals:=fun b o e=>Nat.ne_of_lt (Nat.lt_of_lt_of_le (Heap.lt_size e) I.ok.above)
 have neC:∀ b o,X.s₀.heap.get? b=some o→b ∉ X.ex→b ∉ ch:=fun b o e hx hb=>by
  rcases (hch b hb).1 with z | z
  ·exact hx z
  ·exact absurd (Nat.lt_of_lt_of_le (Heap.lt_size e) z) (Nat.lt_irrefl _)
 have cellK:∀ x c,X.env.cells.lookup x=some c→∀ v,s.heap.IsCell c v→h'.IsCell c v:=fun x c e v ⟨o,ho,hd⟩=>by
  have nch:c ∉ ch:=fun z=>(hch c z).2.2.1 x c e rfl
  by_cases hc:c∈X.fs
  ·obtain⟨sl,q⟩:=slot c o (I.cne x c e) hc nch ho (I.freeC x c e)
   exact⟨_,q,hd⟩
  ·exact⟨o,keep c o (I.cne x c e) hc nch ho (I.freeC x c e),hd⟩
 refine⟨I.ok,I.os,hg,⟨fun b o e n hb hx=>?_,fun b o e n hb hx=>?_,fun b o e n hx=>?_,fun b o e hx=>?_,fun b xs e=>tups b xs (I.base.tups b xs e),fun b o xs e=>frzs b o xs (I.base.frzs b o xs e),fun b ps e=>?_⟩,?_,fun x c e=>?_,?_,fun x c e=>?_,fun p hp=>?_,hok,I.len⟩
 ·exact keep b o (neL b o e) hb (neC b o e hx) (I.base.keep b o e n hb hx) (I.base.free b o e n hx)
 ·obtain⟨sl,e1⟩:=I.base.slot b o e n hb hx
  obtain⟨sl',e2⟩:=slot b _ (neL b o e) hb (neC b o e hx) e1 (I.base.free b o e n hx)
  exact⟨sl',e2⟩
 ·obtain⟨o',e1⟩:=I.base.there b o e hx
  exact free b o' (neC b o e hx) e1 (I.base.free b o e n hx)
 ·obtain⟨o',e1⟩:=I.base.there b o e hx
  exact there b o' (neC b o e hx) e1
 ·obtain⟨m1,e1⟩:=I.base.tbls b ps e
  obtain⟨m2,e2⟩:=tbls b _ e1
  exact⟨m1++m2,by rw[e2,Array.append_assoc]⟩
 ·obtain⟨m,hn,hl⟩:=I.loc
  refine⟨m,ns m hn,fun i x v e1 e2 e3=>?_⟩
  obtain⟨u,r,l⟩:=hl i x v e1 e2 e3
  refine⟨u,r,?_⟩
  rcases l with l | ⟨k,c,e,z⟩
  ·exact .inl l
  ·exact .inr ⟨k,c,e,cellK x c e _ z⟩
 ·obtain⟨v,z⟩:=I.cell x c e
  exact⟨v,cellK x c e v z⟩
 ·obtain⟨m,⟨o,_,_,ho,_⟩,_⟩:=I.loc
  exact free _ o (fun z=>(hch _ z).2.1 rfl) ho I.free
 ·obtain⟨v,o,ho,hd⟩:=I.cell x c e
  exact free c o (fun z=>(hch c z).2.2.1 x c e rfl) ho (I.freeC x c e)
 ·obtain⟨e,n,ne,nf,d⟩:=I.pin p hp
  have nch:p.1 ∉ ch:=fun z=>(hch p.1 z).2.2.2 p hp rfl
  exact⟨keep p.1 p.2 ne nf nch e n,free p.1 p.2 nch e n,ne,nf,d⟩
theorem Inv.un {t':Nat} (I:Inv X pins σ H s) (u:Un X.fs [] H H' s.heap h') (hok:HOk X.prog X.w H' h'):Inv X pins σ H' { s with heap:=h',toks:=t' }:=by
 obtain⟨m,⟨o,es,ep,ho,r⟩,_⟩:=id I.loc
 obtain⟨sl,hL⟩:=u.any ho I.free (by simp)
 exact I.step (g':=s.gens) (d':=s.drawn) (ch:=[]) (fun _ z=>nomatch z) (fun b o _ hb _ e n=>u.keep b o e n hb (by simp)) (fun b o _ hb _ e n=>u.slot b o e n hb (by simp)) (fun b o _ e n=>u.free b o e n (by simp)) (fun b o _ e=>u.there b o e (by simp)) u.tups u.frzs u.tbls (fun m' hm=>by
  obtain⟨o',es',ep',ho',r'⟩:=hm
  rw[ho] at ho';cases ho'
  exact⟨_,es',ep',hL,r'⟩) hok I.bare
theorem Inv.call {g':Array GenState}{t':Nat}{d':Drawn}{ch:List Addr} (I:Inv X pins σ H s) (u:Un (frs X.stack) ch H H' s.heap h') (hok:HOk X.prog X.w H' h') (hg:AllBare g')
  (hch:∀ b∈ch,(b∈X.ex∨X.s₀.heap.objs.size≤b)∧b≠X.env.locals∧(∀ x c,X.env.cells.lookup x=some c→c≠b)∧∀ p∈X.pn++pins,p.1≠b) :
  Inv X pins σ H' { s with heap:=h',gens:=g',drawn:=d',toks:=t' }:=by
 obtain⟨m,⟨o,es,ep,ho,r⟩,_⟩:=id I.loc
 obtain⟨sl,hL⟩:=u.any ho I.free fun z=>(hch _ z).2.1 rfl
 exact I.step (ch:=ch) hch (fun b o hL hb hc e n=>u.keep b o e n (fun z=>(List.mem_cons.mp (I.stkSub b z)).elim hL hb) hc) (fun b o _ _ hc e n=>u.any e n hc) (fun b o hc e n=>u.free b o e n hc) (fun b o hc e=>u.there b o e hc) u.tups u.frzs u.tbls (fun m' hm=>by
  obtain⟨o',es',ep',ho',r'⟩:=hm
  rw[ho] at ho';cases ho'
  exact⟨_,es',ep',hL,r'⟩) hok hg
theorem Inv.turned {t':Nat}{it:Addr} (I:Inv X pins σ H s) (k:∀ b o,b≠it→s.heap.get? b=some o→h'.get? b=some o) (hn:H it=none) (hL:it≠X.env.locals)
  (h1:it∈X.ex∨X.s₀.heap.objs.size≤it) (h2:∀ x c,X.env.cells.lookup x=some c→c≠it) (h3:∀ p∈X.pn++pins,p.1≠it):Inv X pins σ H { s with heap:=h',toks:=t' }:=by
 have nit:∀ b u,H b=some u→b≠it:=fun b u e z=>by rw[z,hn] at e;cases e
 refine I.step (g':=s.gens) (d':=s.drawn) (ch:=[it]) (fun b hb=>?_) (fun b o _ _ hc e _=>k b o (fun z=>hc (by simp[z])) e) (fun b o _ _ hc e _=>⟨o.slots,k b o (fun z=>hc (by simp[z])) e⟩) (fun _ _ _ _ n=>n)
  (fun b o hc e=>⟨o,k b o (fun z=>hc (by simp[z])) e⟩) (fun _ _ e=>e) (fun _ _ _ e=>e) (fun b ps e=>⟨#[],by rw[e];simp⟩) (fun m hm=>?_) (fun b u e=>?_) I.bare
 ·have e:b=it:=by simpa using hb
  subst e
  exact⟨h1,hL,h2,h3⟩
 ·obtain⟨o,es,ep,ho,r⟩:=hm
  exact⟨o,es,ep,k _ o (Ne.symm hL) ho,r⟩
 ·refine (I.hok b u e).stay (fun c v hc q=>k c v ?_ q) (fun _ q=>q) fun _ _ q=>q
  rcases hc with z | z
  ·rw[z];exact nit b u e
  ·exact nit c _ z
theorem Inv.tok (I:Inv X pins σ H s) (t:Nat):Inv X pins σ H { s with toks:=t }:=I.un (h':=s.heap) (t':=t) Un.refl I.hok
theorem Inv.kept {t':Nat} (I:Inv X pins σ H s) (k:∀ b u,s.heap.get? b=some u→h'.get? b=some u):Inv X pins σ H { s with heap:=h',toks:=t' }:=I.un (Un.kept k) (I.hok.kept k)
theorem Inv.laid {a:Addr}{o:HO}{t':Nat} (I:Inv X pins σ H s) (k:∀ b u,s.heap.get? b=some u→h'.get? b=some u) (hp:s.heap.objs.size≤a) (new:ObjOk X.prog X.w (upd H a o) h' a o) :
  Inv X pins σ (upd H a o) { s with heap:=h',toks:=t' }:=I.un (Un.laid k hp (I.hok.fresh hp)) (I.hok.laid k hp new)
theorem Inv.write {x e:Addr}{o:HO}{t':Nat} (I:Inv X pins σ H s) (mu:Mut (H x)) (he:e=x∨H e=some (.own x)) (k:∀ b u,b≠e→s.heap.get? b=some u→h'.get? b=some u) (heo:∃ u,h'.get? e=some u)
  (new:ObjOk X.prog X.w (upd H x o) h' x o):Inv X pins σ (upd H x o) { s with heap:=h',toks:=t' }:=I.un (Un.write mu he k heo) (I.hok.write mu he k heo new)
theorem Inv.pins_of {pins':List (Addr×Obj)} (I:Inv X pins σ H s) (h:∀ p∈pins',s.heap.get? p.1=some p.2∧H p.1=none∧p.1≠X.env.locals∧p.1 ∉ X.fs∧∀ v,p.2.data≠.cell v):Inv X pins' σ H s :=
 ⟨I.ok,I.os,I.bare,I.base,I.loc,I.cell,I.free,I.freeC,fun p hp=>(List.mem_append.mp hp).elim (fun z=>I.pin p (List.mem_append_left _ z)) (h p),I.hok,I.len⟩
theorem nodup_ix {N:List Str} (hN:N.Nodup) {i j:Nat}{x:Str} (a:N[i]?=some x) (b:N[j]?=some x):i=j:=by
 obtain⟨h1,e1⟩:=List.getElem?_eq_some_iff.mp a
 obtain⟨h2,e2⟩:=List.getElem?_eq_some_iff.mp b
 exact (List.getElem_inj hN).mp (e1.trans e2.symm)
theorem store_ok2 {M:Model}{A:Around}{E:Value→Shared→Prop}{i:Nat}{x:Str}{v:V}{u:Value}{Q:Unit→Shared→Prop} (I:Inv X pins σ H s) (hN:X.N.Nodup) (hi:X.N[i]?=some x) (hx:Loc X.env.scope x) (r:RelV v u)
  (h:∀ s',Inv X pins (σ.set i (some v)) H s'→(∃ a,Heap.SameBut a s.heap s'.heap∧(a=X.env.locals∨X.env.cells.lookup x=some a))→Q () s') (hf:X.fn x=true∨X.env.scope.names.lookup x=some .local:=by first | exact .inl rfl | exact .inr rfl | assumption):wpAny M A (storeName X.env x u) Q E s:=by
 obtain⟨m,hn,hl⟩:=id I.loc
 have hcls:(X.env.scope.kind==.class||(X.env.scope.kind==.module&&X.env.locals != X.env.globals))=false:=by rw[I.ok.kind];rfl
 have hiσ:i<σ.length:=by rw[I.len];exact (List.getElem?_eq_some_iff.mp hi).1
 have cne:=I.cne
 have tracked:∀ {a:Addr}{h':Heap},(∃ o,s.heap.get? a=some o∧H a=none)→Heap.SameBut a s.heap h'→HOk X.prog X.w H h':=fun {a h'} ha hs b ob e=>by
  obtain⟨_,_,hfree⟩:=ha
  refine (I.hok b ob e).stay (fun c w' hc q=>(hs.2 c ?_).trans q) (fun _ q=>q) fun _ _ q=>q
  rintro rfl
  rcases hc with rfl | hc
  ·rw[hfree] at e;cases e
  ·rw[hfree] at hc;cases hc
 rcases hx with hk | hk
 ·refine wpAny_storeName_local hk hn (fun h' hn' hs=>?_) hcls
  obtain⟨oL,_,_,hoL,_⟩:=id hn
  refine h _ ⟨I.ok,I.os,I.bare,⟨fun b o e n hb hx=>?_,fun b o e n hb hx=>?_,I.base.free,fun b o e hx=>?_,I.base.tups,I.base.frzs,I.base.tbls⟩,⟨_,hn',fun j y v' e1 e2 e3=>?_⟩,fun y c e=>?_,I.free,I.freeC,fun p hp=>?_,tracked ⟨oL,hoL,I.free⟩ hs,by simpa using I.len⟩ ⟨_,hs,.inl rfl⟩
  ·exact (hs.2 b (Nat.ne_of_lt (Nat.lt_of_lt_of_le (Heap.lt_size e) I.ok.above))).trans (I.base.keep b o e n hb hx)
  ·obtain⟨sl,e1⟩:=I.base.slot b o e n hb hx
   exact⟨sl,(hs.2 b (Nat.ne_of_lt (Nat.lt_of_lt_of_le (Heap.lt_size e) I.ok.above))).trans e1⟩
  ·obtain⟨o',e1⟩:=I.base.there b o e hx
   exact⟨o',(hs.2 b (Nat.ne_of_lt (Nat.lt_of_lt_of_le (Heap.lt_size e) I.ok.above))).trans e1⟩
  ·by_cases hj:j=i
   ·subst hj
    rw[hi] at e1;cases e1
    rw[List.getElem?_set_self hiσ] at e2
    cases e2
    exact⟨u,r,.inl ⟨hk,by simp⟩⟩
   ·rw[List.getElem?_set_ne (Ne.symm hj)] at e2
    obtain⟨u',r',q⟩:=hl j y v' e1 e2 e3
    refine⟨u',r',?_⟩
    rcases q with ⟨k,e⟩ | ⟨k,c,e,z⟩
    ·refine .inl ⟨k,?_⟩
     have:y≠x:=fun e=>hj (nodup_ix hN e1 (e▸hi))
     simp[this,e]
    ·exact .inr ⟨k,c,e,z.sameBut hs (cne y c e)⟩
  ·obtain⟨w',z⟩:=I.cell y c e
   exact⟨w',z.sameBut hs (cne y c e)⟩
  ·obtain⟨e,n,ne,nf,d⟩:=I.pin p hp
   exact⟨(hs.2 p.1 ne).trans e,n,ne,nf,d⟩
 ·have hfn:X.fn x=true:=by
   rcases hf with z | z
   ·exact z
   ·rw[z] at hk;cases hk
  obtain⟨c,hc⟩:=I.ok.has x (.inl hk)
  obtain⟨w',z⟩:=I.cell x c hc
  refine wpAny_storeName_cell I.ok.kind hk hc z (fun h' hc' hs=>?_)
  obtain⟨oc,hoc,hocd⟩:=id z
  refine h { s with heap:=h' } ⟨I.ok,I.os,I.bare,⟨fun b o e n hb hx=>?_,fun b o e n hb hx=>?_,I.base.free,fun b o e hx=>?_,I.base.tups,I.base.frzs,I.base.tbls⟩,⟨m,hn.sameBut hs (Ne.symm (cne x c hc)),fun j y v' e1 e2 e3=>?_⟩,fun y c' e=>?_,I.free,I.freeC,fun p hp=>?_,tracked ⟨oc,hoc,I.freeC x c hc⟩ hs,by simpa using I.len⟩ ⟨c,hs,.inr hc⟩
  ·exact (hs.2 b (Nat.ne_of_lt (Nat.lt_of_lt_of_le (Heap.lt_size e) (I.ok.cab x c hfn hc)))).trans (I.base.keep b o e n hb hx)
  ·obtain⟨sl,e1⟩:=I.base.slot b o e n hb hx
   exact⟨sl,(hs.2 b (Nat.ne_of_lt (Nat.lt_of_lt_of_le (Heap.lt_size e) (I.ok.cab x c hfn hc)))).trans e1⟩
  ·obtain⟨o',e1⟩:=I.base.there b o e hx
   exact⟨o',(hs.2 b (Nat.ne_of_lt (Nat.lt_of_lt_of_le (Heap.lt_size e) (I.ok.cab x c hfn hc)))).trans e1⟩
  ·by_cases hj:j=i
   ·subst hj
    rw[hi] at e1;cases e1
    rw[List.getElem?_set_self hiσ] at e2
    cases e2
    exact⟨u,r,.inr ⟨.inl hk,c,hc,hc'⟩⟩
   ·rw[List.getElem?_set_ne (Ne.symm hj)] at e2
    obtain⟨u',r',q⟩:=hl j y v' e1 e2 e3
    refine⟨u',r',?_⟩
    rcases q with q | ⟨k,c',e,z'⟩
    ·exact .inl q
    ·refine .inr ⟨k,c',e,z'.sameBut hs ?_⟩
     rintro rfl
     exact hj (nodup_ix hN e1 (I.ok.inj _ _ _ e hc▸hi))
  ·by_cases hcc:c'=c
   ·subst hcc;exact⟨_,hc'⟩
   ·obtain⟨w2,z2⟩:=I.cell y c' e
    exact⟨w2,z2.sameBut hs hcc⟩
  ·obtain⟨e,n,ne,nf,d⟩:=I.pin p hp
   refine⟨(hs.2 p.1 ?_).trans e,n,ne,nf,d⟩
   intro q
   rw[q,hoc] at e
   have q':oc=p.2:=Option.some.inj e
   exact d w' (by rw[← q'];exact hocd)
theorem store_ok {M:Model}{A:Around}{E:Value→Shared→Prop}{i:Nat}{x:Str}{v:V}{u:Value}{Q:Unit→Shared→Prop} (I:Inv X pins σ H s) (hN:X.N.Nodup) (hi:X.N[i]?=some x) (hx:Loc X.env.scope x) (r:RelV v u)
  (h:∀ s',Inv X pins (σ.set i (some v)) H s'→Q () s') (hf:X.fn x=true∨X.env.scope.names.lookup x=some .local:=by first | exact .inl rfl | exact .inr rfl | assumption):wpAny M A (storeName X.env x u) Q E s :=
 store_ok2 I hN hi hx r (fun s' I' _=>h s' I') hf
theorem Inv.call' {s':Shared}{ch:List Addr} (I:Inv X pins σ H s) (ho:s'.os=s.os) (u:Un (frs X.stack) ch H H' s.heap s'.heap) (hok:HOk X.prog X.w H' s'.heap) (hg:AllBare s'.gens)
  (hch:∀ b∈ch,(b∈X.ex∨X.s₀.heap.objs.size≤b)∧b≠X.env.locals∧(∀ x c,X.env.cells.lookup x=some c→c≠b)∧∀ p∈X.pn++pins,p.1≠b):Inv X pins σ H' s':=by
 obtain⟨h',g',d',t',o'⟩:=s'
 have e:o'=s.os:=ho
 subst e
 exact I.call (g':=g') (t':=t') (d':=d') u hok hg hch
end
abbrev XK:=Value→Option Addr→Hp→Prop
abbrev St:=List (Option V)
abbrev VK:=V→Hp→Prop
abbrev TE:=St→Hp→VK→Prop
abbrev TT:=St→Hp→(Bool→Hp→Prop)→Prop
abbrev TA:=St→Hp→(List V→Hp→Prop)→Prop
structure Ends where
 nx:St→Hp→Prop
 rt:VK
 bk:St→Hp→Prop:=fun _ _=>False
 ct:St→Hp→Prop:=fun _ _=>False
abbrev TS:=Ends→St→Hp→Prop
def EP (X:Cx) (pins:List (Addr×Obj)) (σ:St) (Q:VK) (u:Value) (s':Shared):Prop:=∃ v H',Inv X pins σ H' s'∧RelV v u∧Q v H'
def TP (X:Cx) (pins:List (Addr×Obj)) (σ:St) (Q:Bool→Hp→Prop) (b:Bool) (s':Shared):Prop:=∃ H',Inv X pins σ H' s'∧Q b H'
def AP (X:Cx) (pins:List (Addr×Obj)) (σ:St) (Q:List V→Hp→Prop) (us:List Value) (s':Shared):Prop:=∃ vs H',Inv X pins σ H' s'∧Vals vs us∧Q vs H'
def SP (X:Cx) (pins:List (Addr×Obj)) (D:Ends) (f:Flow) (s':Shared):Prop :=
 match f with
 | .next=>∃ σ' H',Inv X pins σ' H' s'∧D.nx σ' H'
 | .brk=>∃ σ' H',Inv X pins σ' H' s'∧D.bk σ' H'
 | .cont=>∃ σ' H',Inv X pins σ' H' s'∧D.ct σ' H'
 | .ret u=>∃ v σ' H',Inv X pins σ' H' s'∧RelV v u∧D.rt v H'
def PE (X:Cx) (e:Expr) (t:TE):Prop :=
 ∀ (pins:List (Addr×Obj)) (s:Shared) (σ:St) (H:Hp) (Q:VK),Inv X pins σ H s→t σ H Q→wpAny (model X.prog X.w) X.A (eval e X.env) (EP X pins σ Q) X.xe s
def PT (X:Cx) (e:Expr) (t:TT):Prop :=
 ∀ (pins:List (Addr×Obj)) (s:Shared) (σ:St) (H:Hp) (Q:Bool→Hp→Prop),Inv X pins σ H s→t σ H Q→wpAny (model X.prog X.w) X.A (isTrue e X.env (eval e X.env)) (TP X pins σ Q) X.xe s
def PW (X:Cx) (e:Expr) (t:TT):Prop :=
 ∀ (whole:Sem Value) (pins:List (Addr×Obj)) (s:Shared) (σ:St) (H:Hp) (Q:Bool→Hp→Prop),Inv X pins σ H s→t σ H Q→wpAny (model X.prog X.w) X.A (isTrue e X.env whole) (TP X pins σ Q) X.xe s
theorem PW.pt {X:Cx}{e:Expr}{t:TT} (h:PW X e t):PT X e t:=h _
def PA (X:Cx) (es:List Expr) (t:TA):Prop :=
 ∀ (pos:Pos) (pins:List (Addr×Obj)) (s:Shared) (σ:St) (H:Hp) (Q:List V→Hp→Prop),Inv X pins σ H s→t σ H Q→wpAny (model X.prog X.w) X.A (spliced (backTo pos (starEach es X.env))) (AP X pins σ Q) X.xe s
def PS (X:Cx) (st:Stmt) (t:TS):Prop :=
 ∀ (pins:List (Addr×Obj)) (s:Shared) (σ:St) (H:Hp) (D:Ends),Inv X pins σ H s→t D σ H→wpAny (model X.prog X.w) X.A (exec st X.env) (SP X pins D) X.xe s
def PSs (X:Cx) (st:List Stmt) (t:TS):Prop :=
 ∀ (pins:List (Addr×Obj)) (s:Shared) (σ:St) (H:Hp) (D:Ends),Inv X pins σ H s→t D σ H→wpAny (model X.prog X.w) X.A (execs st X.env) (SP X pins D) X.xe s
theorem thn {α:Type}{t:Sem α}{Q Q':α→Shared→Prop}{M:Model}{A:Around}{E:Value→Shared→Prop}{s:Shared} (h:wpAny M A t Q E s) (hQ:∀ a s,Q a s→Q' a s):wpAny M A t Q' E s:=wpAny_mono h hQ fun _ _ x=>x
end L2
namespace L2
open PySem PySem.Spec PyProof.Rows
section
variable {X:Cx}
def tVar (i:Nat):TE:=fun σ H Q=>∃ v,σ[i]?=some (some v)∧Q v H
def tC (v:V):TE:=fun _ H Q=>Q v H
theorem pe_var {i:Nat}{x:Str}{pos:Pos} (hN:X.N[i]?=some x) (hv:Vis X.env.scope x) (hd:(x==("__debug__":Str))=false:=by decide) (hcd:(x==("__classdict__":Str))=false:=by decide):PE X (.Name x pos) (tVar i):=by
 intro pins s σ H Q I h
 obtain⟨v,e,h⟩:=h
 obtain⟨m,hn,hl⟩:=I.loc
 obtain⟨u,r,l⟩:=hl i x v hN e hv
 have fin:EP X pins σ Q u s:=⟨v,H,I,r,h⟩
 rcases l with ⟨hk,hm⟩ | ⟨hk,c,hc,hcell⟩
 ·exact wpAny_Name (wpAny_loadName_local I.ok.kind hk hn hm fin) hd
 ·rcases hk with hk | hk
  ·exact wpAny_Name (wpAny_loadName_cell I.ok.kind hk hc hcell fin) hd
  ·exact wpAny_Name (wpAny_loadName_free I.ok.kind hk hc hcell fin hcd) hd
theorem pe_int {i j pos}:PE X (.Constant (.int i) j pos) (tC (.int i)):=fun _ _ _ H _ I h=>wpAny_Constant_int ⟨.int i,H,I.tok _,⟨_,rfl⟩,h⟩
theorem pe_bl {b j pos}:PE X (.Constant (.bool b) j pos) (tC (.bl b)):=fun _ _ _ H _ I h=>Constant_bool ⟨.bl b,H,I,rfl,h⟩
theorem pe_non {j pos}:PE X (.Constant .none j pos) (tC .non):=fun _ _ _ H _ I h=>Constant_none ⟨.non,H,I,rfl,h⟩
theorem pe_str {x j pos}:PE X (.Constant (.str x) j pos) (tC (.str x)):=fun _ _ _ H _ I h=>Calls.Constant_str ⟨.str x,H,I.tok _,⟨_,rfl⟩,h⟩
def Gl (X:Cx) (x:Str):Prop:=X.env.kindOf x=some .globalImplicit
theorem ld_glob {E:Value→Shared→Prop}{pins:List (Addr×Obj)}{s:Shared}{σ:St}{H:Hp}{x:Str}{u:Value}{pos:Pos}{Q:Value→Shared→Prop} (I:Inv X pins σ H s) (hg:Gl X x) (hm:X.mg x=some u) (h:Q u s)
  (hd:(x==("__debug__":Str))=false:=by decide):wpAny (model X.prog X.w) X.A (eval (.Name x pos) X.env) Q E s :=
 Calls.Name_function_global I.ok.kind hg (Calls.loadGlobal_global (by rw[I.ok.glob];exact I.mod.glob.keeps I.bk) hm h) hd
theorem ld_blt {E:Value→Shared→Prop}{pins:List (Addr×Obj)}{s:Shared}{σ:St}{H:Hp}{x:Str}{u:Value}{pos:Pos}{Q:Value→Shared→Prop} (I:Inv X pins σ H s) (hg:Gl X x) (hm:X.mg x=none) (hv:bootBuiltins x=some u) (h:Q u s)
  (hn:x≠"__name__":=by decide) (hd:(x==("__debug__":Str))=false:=by decide):wpAny (model X.prog X.w) X.A (eval (.Name x pos) X.env) Q E s:=by
 obtain⟨mb,h1,h2⟩:=I.mod.blt
 exact Calls.Name_function_global I.ok.kind hg (Calls.loadGlobal_builtin (by rw[I.ok.glob];exact I.mod.glob.keeps I.bk) hm (by rw[I.ok.blt];exact h1.keeps I.bk) ((h2 x hn).trans hv) h) hd
theorem pe_glob {x:Str}{v:V}{u:Value}{pos:Pos} (hg:Gl X x) (hm:X.mg x=some u) (r:RelV v u) (hd:(x==("__debug__":Str))=false:=by decide):PE X (.Name x pos) (tC v) :=
 fun _ _ _ H _ I h=>ld_glob I hg hm ⟨v,H,I,r,h⟩ hd
theorem pe_bltn {x:Str}{v:V}{u:Value}{pos:Pos} (hg:Gl X x) (hm:X.mg x=none) (hv:bootBuiltins x=some u) (r:RelV v u) (hn:x≠"__name__":=by decide) (hd:(x==("__debug__":Str))=false:=by decide):PE X (.Name x pos) (tC v) :=
 fun _ _ _ H _ I h=>ld_blt I hg hm hv ⟨v,H,I,r,h⟩ hn hd
variable {a b:Expr}{ta tb:TE}{pos:Pos}
def PC (X:Cx) (op:CmpOp) (a b:Expr) (t:TE):Prop :=
 ∀ (pins:List (Addr×Obj)) (s:Shared) (σ:St) (H:Hp) (Q:VK),Inv X pins σ H s→t σ H Q →
  wpAny (model X.prog X.w) X.A (eval a X.env) (fun v s₁=>wpAny (model X.prog X.w) X.A (eval b X.env) (fun u s₂=>wpAny (model X.prog X.w) X.A (compareOp op v u) (EP X pins σ Q) X.xe s₂) X.xe s₁) X.xe s
def tB (t:TE):TT:=fun σ H Q=>t σ H fun x H1=>∃ c,x=.bl c∧Q c H1
theorem pe_cmp {op:CmpOp}{t:TE} (h:PC X op a b t) (h1:behindInMarks op b=false:=by first | exact nobehind _ (by decide) (by decide) | rfl):PE X (.Compare a [op] [b] pos) t:=fun pins s σ H Q I hw=>wpAny_Compare1 (h pins s σ H Q I hw) h1
theorem pt_cmp {op:CmpOp}{t:TE} (h:PC X op a b t) (h1:behindInMarks op b=false:=by first | exact nobehind _ (by decide) (by decide) | rfl):PT X (.Compare a [op] [b] pos) (tB t):=by
 intro pins s σ H Q I hw
 refine wpAny_isTrue_Compare1 (thn (h pins s σ H _ I hw) fun v s1 h1=>thn h1 fun u s2 h2=>thn h2 fun c s3 ⟨x,H1,I1,r1,q1⟩=>?_) h1
 obtain⟨d,rfl,q⟩:=q1
 cases r1
 exact wpAny_truthy_bool ⟨H1,I1,q⟩
variable {tA tB':TT}{rest:List Expr}
def tAnd (t u:TT):TT:=fun σ H Q=>t σ H fun c H1=>if c=true then u σ H1 Q else Q false H1
def tOr (t u:TT):TT:=fun σ H Q=>t σ H fun c H1=>if c=true then Q true H1 else u σ H1 Q
def tNot (t:TT):TT:=fun σ H Q=>t σ H fun c H1=>Q (!c) H1
theorem pw_and1 (ha:PT X a tA):PW X (.BoolOp .And [a] pos) tA:=by
 intro wh pins s σ H Q I h
 refine isTrue_and (thn (ha pins s σ H Q I h) fun c s1 e=>?_)
 cases c with
 | true=>exact isTrue_and_nil e
 | false=>exact e
theorem pw_or1 (ha:PT X a tA):PW X (.BoolOp .Or [a] pos) tA:=by
 intro wh pins s σ H Q I h
 refine isTrue_or (thn (ha pins s σ H Q I h) fun c s1 e=>?_)
 cases c with
 | false=>exact isTrue_or_nil e
 | true=>exact e
theorem pw_and (ha:PT X a tA) (hb:PW X (.BoolOp .And (b::rest) pos) tB'):PW X (.BoolOp .And (a::b::rest) pos) (tAnd tA tB'):=by
 intro wh pins s σ H Q I h
 refine isTrue_and (thn (ha pins s σ H _ I h) fun c s1 ⟨H1,I1,q1⟩=>?_)
 cases c with
 | true=>exact hb wh pins s1 σ H1 Q I1 q1
 | false=>exact⟨H1,I1,q1⟩
theorem pw_or (ha:PT X a tA) (hb:PW X (.BoolOp .Or (b::rest) pos) tB'):PW X (.BoolOp .Or (a::b::rest) pos) (tOr tA tB'):=by
 intro wh pins s σ H Q I h
 refine isTrue_or (thn (ha pins s σ H _ I h) fun c s1 ⟨H1,I1,q1⟩=>?_)
 cases c with
 | true=>exact⟨H1,I1,q1⟩
 | false=>exact hb wh pins s1 σ H1 Q I1 q1
theorem pt_not (ha:PT X a tA):PT X (.UnaryOp .Not a pos) (tNot tA):=by
 intro pins s σ H Q I h
 exact isTrue_not (ha pins s σ H (fun c H1=>Q (!c) H1) I h)
def tAndV (ta tb:TE):TE:=fun σ H Q=>ta σ H fun x H1=>∃ c,x=.bl c∧if c=true then tb σ H1 Q else Q (.bl false) H1
theorem pe_one {op}{t:TE} (h:PE X a t):PE X (.BoolOp op [a] pos) t:=fun pins s σ H Q I hw=>BoolOp_one (h pins s σ H Q I hw)
theorem pe_and (ha:PE X a ta) (hb:PE X (.BoolOp .And (b::rest) pos) tb):PE X (.BoolOp .And (a::b::rest) pos) (tAndV ta tb):=by
 intro pins s σ H Q I h
 refine BoolOp_and (thn (ha pins s σ H _ I h) fun v s1 ⟨x,H1,I1,r1,q1⟩=>?_)
 obtain⟨c,rfl,q1⟩:=q1
 cases r1
 refine wpAny_truthy_bool ?_
 cases c with
 | true=>exact hb pins s1 σ H1 Q I1 q1
 | false=>exact⟨.bl false,H1,I1,rfl,q1⟩
end
end L2
namespace L2
open PySem PySem.Spec PyProof.Rows
def SqL (K:PySem.W.Frag) (H:Hp) (a:Addr) (xs:List V):Prop :=
 Rd H a (.lst xs) ∨
  ∃ (o:Obj) (its:Array Value) (n:Nat),K.lookup a=some o∧o.cls=.type "list"∧o.dict=none∧o.data=.seq its n∧its.size≤sizeLine∧Vals xs its.toList
def SqT (K:PySem.W.Frag) (H:Hp) (a:Addr) (xs:List V):Prop :=
 Rd H a (.tup xs) ∨
  ∃ (o:Obj) (its:Array Value) (n:Nat),K.lookup a=some o∧o.cls=.type "tuple"∧o.data=.seq its n∧its.size≤sizeLine∧Vals xs its.toList
def absV:Value→Option V
 | .none=>some .non
 | .bool b=>some (.bl b)
 | .int i _=>some (.int i)
 | .str x _=>some (.str x)
 | .bytes b _=>some (.byt b)
 | .float b _=>some (.flt b)
 | .ref a=>some (.ref a)
 | .type n=>some (.ty n)
 | _=>none
theorem RelV.abs {x:V}{u:Value} (r:RelV x u):absV u=some x:=by
 cases x with
 | non=>cases r;rfl
 | bl _=>cases r;rfl
 | int _=>obtain⟨t,rfl⟩:=r;rfl
 | str _=>obtain⟨t,rfl⟩:=r;rfl
 | byt _=>obtain⟨t,rfl⟩:=r;rfl
 | flt _=>obtain⟨t,rfl⟩:=r;rfl
 | ref _=>cases r;rfl
 | ty _=>cases r;rfl
theorem RelV.inj {x y:V}{u:Value} (r:RelV x u) (q:RelV y u):x=y:=Option.some.inj (r.abs.symm.trans q.abs)
theorem Vals.inj:∀ {xs ys:List V}{us:List Value},Vals xs us→Vals ys us→xs=ys
 | _,_,_,.nil,.nil=>rfl
 | _,_,_,.cons r t,.cons r' t'=>by rw[r.inj r',Vals.inj t t']
section
variable {X:Cx}{pins:List (Addr×Obj)}{σ:St}{H:Hp}{s:Shared}{a:Addr}{xs ys:List V}
theorem SqL.of {K:PySem.W.Frag} (h:H a=some (.lst xs)):SqL K H a xs:=.inl (.inl h)
theorem SqT.of {K:PySem.W.Frag} (h:H a=some (.tup xs)):SqT K H a xs:=.inl (.inl h)
theorem Inv.list (I:Inv X pins σ H s) (h:SqL X.K H a xs):∃ its:List Value,Vals xs its∧PlainL s.heap a its.toArray∧xs.length≤sizeLine:=by
 rcases h with h | ⟨o,its,n,hk,hc,hd,hs,hz,r⟩
 ·obtain⟨z,its,n,r,e⟩:=h.ok I.hok
  exact⟨its,r,⟨_,n,e,rfl,rfl,rfl⟩,z⟩
 ·refine⟨its.toList,r,⟨o,n,I.kIn a o hk,hc,hd,by simpa using hs⟩,?_⟩
  have e:=r.length
  simp only[Array.length_toList] at e
  omega
theorem Inv.tuple (I:Inv X pins σ H s) (h:SqT X.K H a xs):∃ its:List Value,Vals xs its∧IsTup s.heap a its.toArray∧xs.length≤sizeLine:=by
 rcases h with h | ⟨o,its,n,hk,hc,hs,hz,r⟩
 ·obtain⟨z,its,r,p⟩:=h.ok I.hok
  exact⟨its,r,p,z⟩
 ·refine⟨its.toList,r,⟨o,I.kIn a o hk,hc,n,by simpa using hs⟩,?_⟩
  have e:=r.length
  simp only[Array.length_toList] at e
  omega
theorem Inv.list_inj (I:Inv X pins σ H s) (h:SqL X.K H a xs) (h':SqL X.K H a ys):xs=ys:=by
 obtain⟨its,r,⟨o,n,e,_,_,d⟩,_⟩:=I.list h
 obtain⟨its',r',⟨o',n',e',_,_,d'⟩,_⟩:=I.list h'
 rw[e] at e';cases e'
 rw[d] at d'
 injection d' with d1 _
 have:its=its':=by simpa using congrArg Array.toList d1
 subst this
 exact r.inj r'
theorem Inv.tuple_inj (I:Inv X pins σ H s) (h:SqT X.K H a xs) (h':SqT X.K H a ys):xs=ys:=by
 obtain⟨its,r,⟨o,e,_,n,d⟩,_⟩:=I.tuple h
 obtain⟨its',r',⟨o',e',_,n',d'⟩,_⟩:=I.tuple h'
 rw[e] at e';cases e'
 rw[d] at d'
 injection d' with d1 _
 have:its=its':=by simpa using congrArg Array.toList d1
 subst this
 exact r.inj r'
end
section
variable {X:Cx}{st:Stmt}{rest:List Stmt}{t u:TS}{e:Expr}{te:TE}{pos:Pos}
def tNext:TS:=fun D σ H=>D.nx σ H
def tSeq (t u:TS):TS:=fun D σ H=>t { D with nx:=u D } σ H
theorem pss_nil:PSs X [] tNext:=fun _ _ σ H _ I h=>wpAny_execs_nil ⟨σ,H,I,h⟩
theorem pss_cons (h1:PS X st t) (h2:PSs X rest u):PSs X (st::rest) (tSeq t u):=by
 intro pins s σ H D I h
 refine wpAny_execs_cons (thn (h1 pins s σ H { D with nx:=u D } I h) fun f s1 q=>?_)
 cases f with
 | next =>
  obtain⟨σ',H',I',q⟩:=q
  exact h2 pins s1 σ' H' D I' q
 | ret v=>exact q
 | brk=>exact q
 | cont=>exact q
def tCont:TS:=fun D σ H=>D.ct σ H
theorem ps_continue:PS X (.Continue pos) tCont:=fun _ _ σ H _ I h=>wpAny_Continue ⟨σ,H,I,h⟩
theorem Inv.quiet {pins:List (Addr×Obj)}{σ:St}{H:Hp}{s:Shared} (I:Inv X pins σ H s):interactive X.env=false:=by simp[interactive,I.ok.kind]
def tDrop (te:TE):TS:=fun D σ H=>te σ H fun _ H1=>D.nx σ H1
theorem ps_expr (he:PE X e te) (hs:swapsWith e none pos.line X.env=pure false:=by rfl):PS X (.Expr e pos) (tDrop te):=by
 intro pins s σ H D I h
 exact wpAny_Expr_any (thn (he pins s σ H _ I h) fun v s1 ⟨x,H1,I1,r1,q1⟩=>⟨σ,H1,I1,q1⟩) I.quiet hs
def tRet (te:TE):TS:=fun D σ H=>te σ H D.rt
theorem ps_ret (he:PE X e te):PS X (.Return (some e) pos) (tRet te):=by
 intro pins s σ H D I h
 exact wpAny_Return_some (thn (he pins s σ H _ I h) fun v s1 ⟨x,H1,I1,r1,q1⟩=>⟨x,σ,H1,I1,r1,q1⟩)
def tIfS (c:TT) (t u:TS):TS:=fun D σ H=>c σ H fun b H1=>if b=true then t D σ H1 else u D σ H1
theorem ps_if {c:Expr}{a b:List Stmt}{tc:TT} (hc:PT X c tc) (ha:PSs X a t) (hb:PSs X b u):PS X (.If c a b pos) (tIfS tc t u):=by
 intro pins s σ H D I h
 refine wpAny_If (thn (hc pins s σ H _ I h) fun d s1 ⟨H1,I1,q1⟩=>?_)
 cases d with
 | true=>exact ha pins s1 σ H1 D I1 q1
 | false=>exact hb pins s1 σ H1 D I1 q1
end
abbrev TG:=V→St→Hp→(St→Hp→Prop)→Prop
def PG (X:Cx) (target:Expr) (t:TG):Prop :=
 ∀ (pins:List (Addr×Obj)) (s:Shared) (σ:St) (H:Hp) (v:V) (u:Value) (Q:St→Hp→Prop),Inv X pins σ H s→RelV v u→t v σ H Q →
  wpAny (model X.prog X.w) X.A (assign target X.env u) (fun _ s'=>∃ σ' H',Inv X pins σ' H' s'∧Q σ' H') X.xe s
section
variable {X:Cx}{pos:Pos}
def gName (i:Nat):TG:=fun v σ H Q=>Q (σ.set i (some v)) H
theorem pg_name {i:Nat}{x:Str} (hN:X.N.Nodup) (hi:X.N[i]?=some x) (hx:Loc X.env.scope x) (hf:X.fn x=true∨X.env.scope.names.lookup x=some .local:=by first | exact .inl rfl | exact .inr rfl | assumption):PG X (.Name x pos) (gName i):=by
 intro pins s σ H v u Q I r h
 exact wpAny_assign_Name (store_ok I hN hi hx r (fun s' I'=>⟨_,H,I',h⟩) hf)
def tAsg (te:TE) (g:TG):TS:=fun D σ H=>te σ H fun x H1=>g x σ H1 D.nx
theorem ps_asg {tg e:Expr}{te:TE}{g:TG} (he:PE X e te) (hg:PG X tg g) (hs:swapsWithSole [tg] e pos.line X.env=pure false:=by rfl) (hw:swappedStores [tg] e X.env=pure none:=by rfl)
  (h1:(assignEach [tg] X.env).map (·.2)=[assign tg X.env]:=by rfl):PS X (.Assign [tg] e pos) (tAsg te g):=by
 intro pins s σ H D I h
 refine wpAny_Assign_stores (thn (he pins s σ H _ I h) fun v s1 ⟨x,H1,I1,r1,q1⟩=>?_) hs hw
 rw[h1]
 exact thn (hg pins s1 σ H1 x v _ I1 r1 q1) fun _ s2 q=>q
end
structure It where
 go:Nat→Hp→Prop
 yld:Nat→Hp→V→Hp→Prop
 stop:Nat→Hp→Prop
def FpOk (X:Cx) (pins:List (Addr×Obj)) (H:Hp) (b:Addr):Prop :=
 H b=none∧b≠X.env.locals∧b ∉ X.fs∧(b∈X.ex∨X.s₀.heap.objs.size≤b)∧(∀ x c,X.env.cells.lookup x=some c→c≠b)∧∀ p∈X.pn++pins,p.1≠b
theorem Inv.fpOk {X:Cx}{pins:List (Addr×Obj)}{σ:St}{H H':Hp}{s:Shared}{b:Addr} (I:Inv X pins σ H s) (hb:s.heap.objs.size≤b) (hn:H' b=none):FpOk X pins H' b:=by
 refine⟨hn,Nat.ne_of_gt (Nat.lt_of_lt_of_le I.lt hb),I.nofs hb,.inr (Nat.le_trans I.sz hb),fun x c e z=>?_,fun p hp z=>?_⟩
 ·obtain⟨v,q⟩:=I.cell x c e
  exact absurd (Nat.lt_of_lt_of_le q.lt (by rw[z];exact hb)) (Nat.lt_irrefl _)
 ·exact absurd (Nat.lt_of_lt_of_le (Heap.lt_size (I.pin p hp).1) (by rw[z];exact hb)) (Nat.lt_irrefl _)
structure Turn (P:Program) (w:World) (K:PySem.W.Frag) (tg:Expr) (J:It) (fp:List Addr) (it:Addr) (tn:Nat→Heap→Prop):Prop where
 mem:it∈fp
 obj:∀ i h,tn i h→∀ b∈fp,∃ o,h.get? b=some o∧∀ v,o.data≠.cell v
 keep:∀ i h h',tn i h→(∀ b∈fp,∀ o,h.get? b=some o→h'.get? b=some o)→tn i h'
 item:∀ (X:Cx),X.prog=P→X.w=w→X.K=K→X.calm=true→∀ (i:Nat) (pins:List (Addr×Obj)) (s:Shared) (σ:St) (H:Hp) (E:Value→Shared→Prop),Inv X pins σ H s→(∀ b∈fp,FpOk X pins H b)→tn i s.heap→J.go i H →
  wpAny (model P w) X.A (pyNext (.ref it)) (fun r s1=>∃ u,r=some u ∧
   wpAny (model P w) X.A (letOwnedTupleGo tg (.ref it) u) (fun _ s2=>∃ x H',Inv X pins σ H' s2∧RelV x u∧J.yld i H x H'∧tn (i+1) s2.heap∧∀ b∈fp,H' b=none) E s1) E s
 done:∀ (X:Cx),X.prog=P→X.w=w→X.K=K→X.calm=true→∀ (i:Nat) (pins:List (Addr×Obj)) (s:Shared) (σ:St) (H:Hp) (E:Value→Shared→Prop),Inv X pins σ H s→(∀ b∈fp,FpOk X pins H b)→tn i s.heap→J.stop i H →
  wpAny (model P w) X.A (pyNext (.ref it)) (fun r s1=>r=none∧Inv X pins σ H s1) E s
 self:∀ (A:Around) (i:Nat) (s:Shared) (Q:Value→Shared→Prop) (E:Value→Shared→Prop),tn i s.heap→Q (.ref it) s→wpAny (model P w) A (pyIter (.ref it)) Q E s
abbrev TI:=St→Hp→(It→Hp→Prop)→Prop
def PIE (X:Cx) (pins:List (Addr×Obj)) (σ:St) (tg:Expr) (R:It→Hp→Prop) (itv:Value) (s2:Shared):Prop :=
 ∃ (it:Addr) (fp:List Addr) (tn:Nat→Heap→Prop) (J:It) (H':Hp),itv=.ref it∧Inv X pins σ H' s2∧Turn X.prog X.w X.K tg J fp it tn∧tn 0 s2.heap∧(∀ b∈fp,FpOk X pins H' b)∧R J H'
def PI (X:Cx) (tg iter:Expr) (wi:TI):Prop :=
 ∀ (pins:List (Addr×Obj)) (s:Shared) (σ:St) (H:Hp) (R:It→Hp→Prop),Inv X pins σ H s→wi σ H R →
  wpAny (model X.prog X.w) X.A (eval iter X.env) (fun v s1=>wpAny (model X.prog X.w) X.A (pyIter v) (PIE X pins σ tg R) X.xe s1) X.xe s
theorem go_of {M : Model} {A : Around} {E : Value → Shared → Prop} {s : Shared} {tg : Expr} {it : Addr} {u : Value} {o : Obj} {n : String} {vs : Array Value} {Q : Unit → Shared → Prop} (ho : s.heap.get? it = some o) (hc : o.cls = .type n) (hd : o.data = .fields vs)
    (hn : ["enumerate", "zip", "dict_itemiterator", "dict_reverseitemiterator", "odict_iterator", "itertools.zip_longest", "itertools.pairwise"].contains n = false) (hQ : Q () s) : wpAny M A (letOwnedTupleGo tg (.ref it) u) Q E s := by
  unfold letOwnedTupleGo
  cases tg <;> first
    | exact wpAny_pure hQ
    | (cases u <;> first
        | exact wpAny_pure hQ
        | (refine wpAny_bind (wpAny_load ho ?_)
           rw [hc, hd]
           show wpAny M A (if (["enumerate", "zip", "dict_itemiterator", "dict_reverseitemiterator", "odict_iterator", "itertools.zip_longest", "itertools.pairwise"].contains n && vs[0]? == some (rawInt _)) = true then _ else _) Q E s
           rw [if_neg (by intro h; rw [hn, Bool.false_and] at h; cases h)]
           exact wpAny_pure hQ))
def Itl (K:PySem.W.Frag) (a:Addr):It :=
 ⟨fun i H=>∃ xs x,SqL K H a xs∧xs[i]?=some x,fun i H x H'=>H'=H∧∀ xs,SqL K H a xs→xs[i]?=some x,fun i H=>∃ xs,SqL K H a xs∧xs.length≤i⟩
def Itt (K:PySem.W.Frag) (a:Addr):It :=
 ⟨fun i H=>∃ xs x,SqT K H a xs∧xs[i]?=some x,fun i H x H'=>H'=H∧∀ xs,SqT K H a xs→xs[i]?=some x,fun i H=>∃ xs,SqT K H a xs∧xs.length≤i⟩
def Itr (lo:Int) (n:Nat):It:=⟨fun i _=>i<n,fun i H x H'=>H'=H∧x=.int (lo+i),fun i _=>n≤i⟩
theorem turn_list {P:Program}{w:World}{K:PySem.W.Frag}{tg:Expr} (a it:Addr):Turn P w K tg (Itl K a) [it] it (fun i h=>h.IsListIter it a i) where
 mem:=by simp
 obj:=fun i h st b hb=>by
  have e:b=it:=by simpa using hb
  subst e
  obtain⟨o,e,c,d⟩:=st
  exact⟨o,e,fun v z=>by rw[d] at z;cases z⟩
 keep:=fun i h h' st k=>st.at fun o e=>k it (by simp) o e
 item:=by
  intro X hP hw hK hc i pins s σ H E I hf st hg
  subst hP hw hK
  obtain⟨xs,x,hq,hx⟩:=hg
  obtain⟨its,rv,p,hz⟩:=I.list hq
  obtain⟨u,hu,ru⟩:=rv.get hx
  obtain⟨f0,f1,f2,f3,f4,f5⟩:=hf it (by simp)
  refine wpAny_pyNext_list_item st p.isList (x:=u) (by simpa using hu) fun h' st' sb=>?_
  have I1:Inv X pins σ H { s with heap:=h' }:=I.turned (t':=s.toks) (fun b o hb e=>(sb.2 b hb).trans e) f0 f1 f3 f4 f5
  obtain⟨o,e,c,d⟩:=id st'
  exact⟨u,rfl,go_of (s:={ s with heap:=h' }) e c d (by decide) ⟨x,H,I1,ru,⟨rfl,fun ys hy=>by rw[I.list_inj hy hq];exact hx⟩,st',fun b hb=>(hf b hb).1⟩⟩
 done:=by
  intro X hP hw hK hc i pins s σ H E I hf st hg
  subst hP hw hK
  obtain⟨xs,hq,hx⟩:=hg
  obtain⟨its,rv,p,hz⟩:=I.list hq
  obtain⟨f0,f1,f2,f3,f4,f5⟩:=hf it (by simp)
  have hl:=rv.length
  exact wpAny_pyNext_list_end (I.ok.hd hc) st p.isList (by simp;omega) fun h' eb=>⟨rfl,I.turned (t':=s.toks) (fun b o hb e=>eb b o hb e) f0 f1 f3 f4 f5⟩
 self:=fun _ _ _ _ _ st h=>wpAny_pyIter_listiter st h
theorem turn_tuple {P:Program}{w:World}{K:PySem.W.Frag}{tg:Expr} (a it:Addr):Turn P w K tg (Itt K a) [it] it (fun i h=>h.IsTupleIter it a i) where
 mem:=by simp
 obj:=fun i h st b hb=>by
  have e:b=it:=by simpa using hb
  subst e
  obtain⟨o,e,c,d⟩:=st
  exact⟨o,e,fun v z=>by rw[d] at z;cases z⟩
 keep:=fun i h h' st k=>st.at fun o e=>k it (by simp) o e
 item:=by
  intro X hP hw hK hc i pins s σ H E I hf st hg
  subst hP hw hK
  obtain⟨xs,x,hq,hx⟩:=hg
  obtain⟨its,rv,p,hz⟩:=I.tuple hq
  obtain⟨u,hu,ru⟩:=rv.get hx
  obtain⟨f0,f1,f2,f3,f4,f5⟩:=hf it (by simp)
  refine wpAny_pyNext_tuple_item st (show s.heap.IsTuple a its.toArray from p) (x:=u) (by simpa using hu) fun h' st' sb=>?_
  have I1:Inv X pins σ H { s with heap:=h' }:=I.turned (t':=s.toks) (fun b o hb e=>(sb.2 b hb).trans e) f0 f1 f3 f4 f5
  obtain⟨o,e,c,d⟩:=id st'
  exact⟨u,rfl,go_of (s:={ s with heap:=h' }) e c d (by decide) ⟨x,H,I1,ru,⟨rfl,fun ys hy=>by rw[I.tuple_inj hy hq];exact hx⟩,st',fun b hb=>(hf b hb).1⟩⟩
 done:=by
  intro X hP hw hK hc i pins s σ H E I hf st hg
  subst hP hw hK
  obtain⟨xs,hq,hx⟩:=hg
  obtain⟨its,rv,p,hz⟩:=I.tuple hq
  obtain⟨f0,f1,f2,f3,f4,f5⟩:=hf it (by simp)
  have hl:=rv.length
  exact wpAny_pyNext_tuple_end (I.ok.hd hc) st (show s.heap.IsTuple a its.toArray from p) (by simp;omega) fun h' eb=>⟨rfl,I.turned (t':=s.toks) (fun b o hb e=>eb b o hb e) f0 f1 f3 f4 f5⟩
 self:=fun _ _ _ _ _ st h=>wpAny_pyIter_tupleiter st h
theorem turn_range {P:Program}{w:World}{K:PySem.W.Frag}{tg:Expr} (it:Addr) (lo:Int) (n:Nat):Turn P w K tg (Itr lo n) [it] it (fun i h=>IsRangeIter h it (lo+(i:Nat) * 1) ((n:Int) - (i:Nat)) 1) where
 mem:=by simp
 obj:=fun i h st b hb=>by
  have e:b=it:=by simpa using hb
  subst e
  exact⟨_,st,fun v z=>by
   have z':Data.fields _=Data.cell v:=z
   cases z'⟩
 keep:=fun i h h' st k=>k it (by simp) _ st
 item:=by
  intro X hP hw hK hc i pins s σ H E I hf st hg
  subst hP hw hK
  obtain⟨f0,f1,f2,f3,f4,f5⟩:=hf it (by simp)
  have W:=Walks.range (prog:=X.prog) (w:=X.w) (I.ok.hd hc) it lo 1 n
  refine W.item i s _ _ hg st fun v h' tk hv st' kk=>?_
  obtain⟨t,rfl⟩:=hv
  have I1:Inv X pins σ H { s with heap:=h',toks:=tk }:=I.turned (fun b o hb e=>kk b o (by simpa using hb) e) f0 f1 f3 f4 f5
  refine⟨_,rfl,go_of (s:={ s with heap:=h',toks:=tk }) (n:="range_iterator") st' rfl rfl (by decide) ⟨.int (lo+i),H,I1,⟨t,?_⟩,⟨rfl,rfl⟩,st',fun b hb=>(hf b hb).1⟩⟩
  rw[Int.mul_one]
 done:=by
  intro X hP hw hK hc i pins s σ H E I hf st hg
  subst hP hw hK
  obtain⟨f0,f1,f2,f3,f4,f5⟩:=hf it (by simp)
  exact wpAny_pyNext_range_end (I.ok.hd hc) st (by have:n≤i:=hg;omega) fun h' eb=>⟨rfl,I.turned (t':=s.toks) (fun b o hb e=>eb b o hb e) f0 f1 f3 f4 f5⟩
 self:=fun _ _ _ _ _ st h=>wpAny_pyIter_rangeiter st h
end L2
namespace L2
open PySem PySem.Spec PyProof.Rows
section
variable {X:Cx}{tg:Expr}
theorem range_it {pins:List (Addr×Obj)}{σ:St}{H:Hp}{s:Shared}{R:It→Hp→Prop}{E:Value→Shared→Prop}{lo hi:Int}{t u v:Tok}{tk:Nat} (I:Inv X pins σ H s) (h1:-(2 ^ 62)≤lo) (h2:lo<2 ^ 62) (h3:-(2 ^ 62)≤hi) (h4:hi<2 ^ 62)
  (q:R (Itr lo (hi - lo).toNat) H):wpAny (model X.prog X.w) X.A (pyIter (.ref s.heap.objs.size)) (PIE X pins σ tg R) E { s with heap:=s.heap.push { cls:=.type "range",data:=.fields #[.int lo t,.int hi u,.int 1 v] },toks:=tk }:=by
 refine wpAny_pyIter_range (IsRange.new ..) (small_one h1 h2 h3 h4) ?_
 have I1:Inv X pins σ H { s with heap:=s.heap.push { cls:=.type "range",data:=.fields #[.int lo t,.int hi u,.int 1 v] },toks:=tk }:=I.kept fun b o e=>Heap.get?_push_of_some _ e
 refine⟨(s.heap.push { cls:=.type "range",data:=.fields #[.int lo t,.int hi u,.int 1 v] }).objs.size,[(s.heap.push { cls:=.type "range",data:=.fields #[.int lo t,.int hi u,.int 1 v] }).objs.size],_,_,H,rfl,
  I1.kept (t':=tk) fun b o e=>Heap.get?_push_of_some _ e,turn_range _ lo (hi - lo).toNat,?_,fun b hb=>?_,q⟩
 ·have e1:lo+((0:Nat):Int) * 1=lo:=by simp
  have e2:(((hi - lo).toNat:Nat):Int) - ((0:Nat):Int)=Builtin.Range.rangeSize lo hi 1:=by rw[rangeSize_one];split<;>omega
  show IsRangeIter _ _ (lo+((0:Nat):Int) * 1) ((((hi - lo).toNat:Nat):Int) - ((0:Nat):Int)) 1
  rw[e1,e2]
  exact Heap.get?_push_size _ rfl
 ·have e:b=(s.heap.push { cls:=.type "range",data:=.fields #[.int lo t,.int hi u,.int 1 v] }).objs.size:=by simpa using hb
  subst e
  exact I1.fpOk (Nat.le_refl _) (I1.hok.fresh (Nat.le_refl _))
def iRng1 (ta:TA):TI:=fun σ H R=>ta σ H fun vs H1=>∃ j:Int,vs=[.int j]∧-(2 ^ 62)≤j∧j<2 ^ 62∧R (Itr 0 j.toNat) H1
theorem pi_range1 {a:Expr}{ta:TA}{p pos:Pos} (hg:Gl X "range") (hm:X.mg "range"=none) (ha:PA X [a] ta) (hs:starEach [a] X.env=[(false,eval a X.env)]:=by rfl):PI X tg (.Call (.Name "range" p) [a] [] pos) (iRng1 ta):=by
 intro pins s σ H R I h
 refine Call_ (ld_blt I hg hm boot_range (PyProof.Rows.callWith_type1 (thn (ha pos pins s σ H _ I h) fun us s1 ⟨vs,H1,I1,r1,q1⟩=>?_) hs rfl))
 obtain⟨j,e,q1,q2,q⟩:=q1
 subst e
 cases r1 with
 | cons r rr =>
  cases rr
  obtain⟨t,rfl⟩:=r
  exact call_range_1 (range_it I1 (by omega) (by omega) q1 q2 (by simpa using q))
def tFor (wi:TI) (g:TG) (tb:TS):TS:=fun D σ H=>wi σ H fun J H1=>∃ W:Nat→Nat→St→Hp→Prop,(∃ m,W 0 m σ H1)∧∀ i m σ H,W i m σ H →
 (J.stop i H∧D.nx σ H)∨(J.go i H∧∃ N:St→Hp→Prop,(∀ σ' H',N σ' H'→∃ m',m'<m∧W (i+1) m' σ' H')∧∀ x H',J.yld i H x H'→g x σ H' fun σ2 H2=>tb { D with nx:=N,ct:=N,bk:=D.nx } σ2 H2)
def pinsAt (fp:List Addr) (h:Heap):List (Addr×Obj):=fp.filterMap fun b=>(h.get? b).map fun o=>(b,o)
theorem mem_pinsAt {fp:List Addr}{h:Heap}{b:Addr}{o:Obj} (hb:b∈fp) (e:h.get? b=some o):(b,o)∈pinsAt fp h:=List.mem_filterMap.mpr ⟨b,hb,by rw[e];rfl⟩
theorem of_pinsAt {fp:List Addr}{h:Heap}{p:Addr×Obj} (hp:p∈pinsAt fp h):p.1∈fp∧h.get? p.1=some p.2:=by
 obtain⟨b,hb,e⟩:=List.mem_filterMap.mp hp
 cases q:h.get? b with
 | none=>rw[q] at e;cases e
 | some o =>
  rw[q] at e
  have e':(b,o)=p:=Option.some.inj e
  subst e'
  exact⟨hb,q⟩
theorem Inv.pinned {pins:List (Addr×Obj)}{σ:St}{H:Hp}{s:Shared}{fp:List Addr} (I:Inv X pins σ H s) (hf:∀ b∈fp,FpOk X pins H b) (ho:∀ b∈fp,∃ o,s.heap.get? b=some o∧∀ v,o.data≠.cell v):Inv X (pins++pinsAt fp s.heap) σ H s :=
 I.pins_of fun p hp=>(List.mem_append.mp hp).elim (fun z=>I.pin p (List.mem_append_right _ z)) fun z=>by
  obtain⟨hb,e⟩:=of_pinsAt z
  obtain⟨f0,f1,f2,_⟩:=hf p.1 hb
  obtain⟨o,e',d⟩:=ho p.1 hb
  rw[e] at e';cases e'
  exact⟨e,f0,f1,f2,d⟩
theorem Inv.unpinned {pins pl:List (Addr×Obj)}{σ:St}{H:Hp}{s:Shared} (I:Inv X (pins++pl) σ H s):Inv X pins σ H s:=I.pins_of fun p hp=>I.pin p (List.mem_append_right _ (List.mem_append_left _ hp))
theorem ps_for {iter:Expr}{body:List Stmt}{wi:TI}{g:TG}{tb:TS}{pos:Pos} (hp:PassesOwn (model X.prog X.w) X.A X.env X.xe) (hc:X.calm=true) (hi:PI X tg iter wi) (hg:PG X tg g) (hb:PSs X body tb)
  (hs:∀ x,foldedSetIterable iter X.env x=pure x:=by intro _;rfl):PS X (.For tg iter body [] pos) (tFor wi g tb):=by
 intro pins s σ H D I h
 refine wpAny_For (thn (hi pins s σ H _ I h) fun v s1 h1=>thn h1 fun itv s2 h2=>?_) hs
 obtain⟨it,fp,tn,J,H2,e,I2,T,st2,f2,W,⟨m0,w0⟩,turn⟩:=h2
 subst e
 have stat:∀ {H':Hp},(∀ b∈fp,H' b=none)→∀ b∈fp,FpOk X pins H' b:=fun hn b hb=>⟨hn b hb,(f2 b hb).2⟩
 refine codeAny_forLoop_any (fun n s'=>∃ i σ' H',Inv X pins σ' H' s'∧tn i s'.heap∧(∀ b∈fp,H' b=none)∧W i n σ' H') ?_ m0 ⟨0,σ,H2,I2,st2,fun b hb=>(f2 b hb).1,w0⟩
 rintro n s3 ⟨i,σ3,H3,I3,st3,fr3,w3⟩
 rcases turn i n σ3 H3 w3 with ⟨stop,qn⟩ | ⟨go,N,hN,step⟩
 ·refine wpAny_passesOwn hp (thn (T.done X rfl rfl rfl hc i pins s3 σ3 H3 X.xe I3 (stat fr3) st3 stop) fun r s4 ⟨hr,I4⟩=>?_)
  subst hr
  exact wpAny_execs_nil ⟨σ3,H3,I4,qn⟩
 ·refine wpAny_passesOwn hp (thn (T.item X rfl rfl rfl hc i pins s3 σ3 H3 X.xe I3 (stat fr3) st3 go) fun r s4 ⟨u,hr,h4⟩=>?_)
  subst hr
  refine wpAny_passesOwn hp (thn h4 fun _ s5 ⟨x,H5,I5,r5,y5,st5,fr5⟩=>?_)
  have I5':=I5.pinned (stat fr5) (T.obj _ _ st5)
  refine wpAny_passesOwn hp (thn (hg _ s5 σ3 H5 x u _ I5' r5 (step x H5 y5)) fun _ s6 ⟨σ6,H6,I6,q6⟩=>?_)
  refine wpAny_passesOwn hp (thn (hb _ s6 σ6 H6 _ I6 q6) fun f s7 q7=>?_)
  have again:∀ {σ7:St}{H7:Hp},Inv X (pins++pinsAt fp s5.heap) σ7 H7 s7→N σ7 H7→∃ m,m<n∧∃ i σ' H',Inv X pins σ' H' s7∧tn i s7.heap∧(∀ b∈fp,H' b=none)∧W i m σ' H':=fun {σ7 H7} I7 n7=>by
   obtain⟨m',hm,w7⟩:=hN σ7 H7 n7
   refine⟨m',hm,i+1,σ7,H7,I7.unpinned,T.keep _ _ _ st5 fun b hb o e=>(I7.pin (b,o) (List.mem_append_right _ (List.mem_append_right _ (mem_pinsAt hb e)))).1,fun b hb=>?_,w7⟩
   obtain⟨o,e,d⟩:=T.obj _ _ st5 b hb
   exact (I7.pin (b,o) (List.mem_append_right _ (List.mem_append_right _ (mem_pinsAt hb e)))).2.1
  cases f with
  | next=>obtain⟨σ7,H7,I7,n7⟩:=q7;exact again I7 n7
  | cont=>obtain⟨σ7,H7,I7,n7⟩:=q7;exact again I7 n7
  | brk=>obtain⟨σ7,H7,I7,q7⟩:=q7;exact⟨σ7,H7,I7.unpinned,q7⟩
  | ret v=>obtain⟨x7,σ7,H7,I7,r7,q7⟩:=q7;exact⟨x7,σ7,H7,I7.unpinned,r7,q7⟩
end
theorem for_list {K:PySem.W.Frag}{a:Addr}{xs:List V}{g:TG}{tb:TS}{D:Ends}{σ:St}{H:Hp} (Pv:Nat→St→Hp→Prop) (h0:Pv 0 σ H) (hl:∀ i σ H,i≤xs.length→Pv i σ H→SqL K H a xs)
  (hs:∀ i x σ H,xs[i]?=some x→Pv i σ H→g x σ H fun σ2 H2=>tb { D with nx:=Pv (i+1),ct:=Pv (i+1),bk:=D.nx } σ2 H2) (hd:∀ σ H,Pv xs.length σ H→D.nx σ H) :
  ∃ W:Nat→Nat→St→Hp→Prop,(∃ m,W 0 m σ H)∧∀ i m σ H,W i m σ H →
   ((Itl K a).stop i H∧D.nx σ H)∨((Itl K a).go i H∧∃ N:St→Hp→Prop,(∀ σ' H',N σ' H'→∃ m',m'<m∧W (i+1) m' σ' H')∧∀ x H',(Itl K a).yld i H x H'→g x σ H' fun σ2 H2=>tb { D with nx:=N,ct:=N,bk:=D.nx } σ2 H2):=by
 refine⟨fun i m σ H=>m=xs.length - i∧i≤xs.length∧Pv i σ H,⟨xs.length,by simp,Nat.zero_le _,h0⟩,?_⟩
 rintro i m σ H ⟨rfl,hi,p⟩
 have q:=hl i σ H hi p
 by_cases hlt:i<xs.length
 ·refine .inr ⟨⟨xs,xs[i],q,by simp[hlt]⟩,Pv (i+1),fun σ' H' p'=>⟨xs.length - (i+1),by omega,rfl,hlt,p'⟩,fun x H' y=>?_⟩
  obtain⟨e,y⟩:=y
  subst e
  exact hs i x σ _ (y xs q) p
 ·have e:i=xs.length:=by omega
  subst e
  exact .inl ⟨⟨xs,q,Nat.le_refl _⟩,hd σ H p⟩
theorem for_tup {K:PySem.W.Frag}{a:Addr}{xs:List V}{g:TG}{tb:TS}{D:Ends}{σ:St}{H:Hp} (Pv:Nat→St→Hp→Prop) (h0:Pv 0 σ H) (hl:∀ i σ H,i≤xs.length→Pv i σ H→SqT K H a xs)
  (hs:∀ i x σ H,xs[i]?=some x→Pv i σ H→g x σ H fun σ2 H2=>tb { D with nx:=Pv (i+1),ct:=Pv (i+1),bk:=D.nx } σ2 H2) (hd:∀ σ H,Pv xs.length σ H→D.nx σ H) :
  ∃ W:Nat→Nat→St→Hp→Prop,(∃ m,W 0 m σ H)∧∀ i m σ H,W i m σ H →
   ((Itt K a).stop i H∧D.nx σ H)∨((Itt K a).go i H∧∃ N:St→Hp→Prop,(∀ σ' H',N σ' H'→∃ m',m'<m∧W (i+1) m' σ' H')∧∀ x H',(Itt K a).yld i H x H'→g x σ H' fun σ2 H2=>tb { D with nx:=N,ct:=N,bk:=D.nx } σ2 H2):=by
 refine⟨fun i m σ H=>m=xs.length - i∧i≤xs.length∧Pv i σ H,⟨xs.length,by simp,Nat.zero_le _,h0⟩,?_⟩
 rintro i m σ H ⟨rfl,hi,p⟩
 have q:=hl i σ H hi p
 by_cases hlt:i<xs.length
 ·refine .inr ⟨⟨xs,xs[i],q,by simp[hlt]⟩,Pv (i+1),fun σ' H' p'=>⟨xs.length - (i+1),by omega,rfl,hlt,p'⟩,fun x H' y=>?_⟩
  obtain⟨e,y⟩:=y
  subst e
  exact hs i x σ _ (y xs q) p
 ·have e:i=xs.length:=by omega
  subst e
  exact .inl ⟨⟨xs,q,Nat.le_refl _⟩,hd σ H p⟩
theorem for_range {lo:Int}{n:Nat}{g:TG}{tb:TS}{D:Ends}{σ:St}{H:Hp} (Pv:Nat→St→Hp→Prop) (h0:Pv 0 σ H)
  (hs:∀ i σ H,i<n→Pv i σ H→g (.int (lo+i)) σ H fun σ2 H2=>tb { D with nx:=Pv (i+1),ct:=Pv (i+1),bk:=D.nx } σ2 H2) (hd:∀ σ H,Pv n σ H→D.nx σ H) :
  ∃ W:Nat→Nat→St→Hp→Prop,(∃ m,W 0 m σ H)∧∀ i m σ H,W i m σ H →
   ((Itr lo n).stop i H∧D.nx σ H)∨((Itr lo n).go i H∧∃ N:St→Hp→Prop,(∀ σ' H',N σ' H'→∃ m',m'<m∧W (i+1) m' σ' H')∧∀ x H',(Itr lo n).yld i H x H'→g x σ H' fun σ2 H2=>tb { D with nx:=N,ct:=N,bk:=D.nx } σ2 H2):=by
 refine⟨fun i m σ H=>m=n - i∧i≤n∧Pv i σ H,⟨n,by simp,Nat.zero_le _,h0⟩,?_⟩
 rintro i m σ H ⟨rfl,hi,p⟩
 by_cases hlt:i<n
 ·refine .inr ⟨hlt,Pv (i+1),fun σ' H' p'=>⟨n - (i+1),by omega,rfl,hlt,p'⟩,fun x H' y=>?_⟩
  obtain⟨e,y⟩:=y
  subst e y
  exact hs i σ _ hlt p
 ·have e:i=n:=by omega
  subst e
  exact .inl ⟨Nat.le_refl _,hd σ H p⟩
end L2
namespace L2
open PySem PySem.Spec PyProof.Rows
abbrev R2:=V→V→Hp→VK→Prop
def OpR (X:Cx) (f:Value→Value→Sem Value) (r:R2):Prop :=
 ∀ (pins:List (Addr×Obj)) (s:Shared) (σ:St) (H:Hp) (x y:V) (v u:Value) (Q:VK),Inv X pins σ H s→RelV x v→RelV y u→r x y H Q →
  wpAny (model X.prog X.w) X.A (f v u) (EP X pins σ Q) X.xe s
def UnR (X:Cx) (f:Value→Sem Value) (r:V→Hp→VK→Prop):Prop :=
 ∀ (pins:List (Addr×Obj)) (s:Shared) (σ:St) (H:Hp) (x:V) (v:Value) (Q:VK),Inv X pins σ H s→RelV x v→r x H Q →
  wpAny (model X.prog X.w) X.A (f v) (EP X pins σ Q) X.xe s
def CallR (X:Cx) (f:Value) (r:List V→Hp→VK→Prop):Prop :=
 ∀ (pins:List (Addr×Obj)) (s:Shared) (σ:St) (H:Hp) (xs:List V) (us:List Value) (Q:VK),Inv X pins σ H s→Vals xs us→r xs H Q →
  wpAny (model X.prog X.w) X.A (call f us) (EP X pins σ Q) X.xe s
def TruR (X:Cx) (r:V→Hp→(Bool→Hp→Prop)→Prop):Prop :=
 ∀ (pins:List (Addr×Obj)) (s:Shared) (σ:St) (H:Hp) (x:V) (v:Value) (Q:Bool→Hp→Prop),Inv X pins σ H s→RelV x v→r x H Q →
  wpAny (model X.prog X.w) X.A (truthy v) (TP X pins σ Q) X.xe s
def tOp (r:R2) (ta tb:TE):TE:=fun σ H Q=>ta σ H fun x H1=>tb σ H1 fun y H2=>r x y H2 Q
def tUn (r:V→Hp→VK→Prop) (ta:TE):TE:=fun σ H Q=>ta σ H fun x H1=>r x H1 Q
def rI (C:Int→Int→Prop) (g:Int→Int→V):R2:=fun x y H Q=>∃ i j,x=.int i∧y=.int j∧C i j∧Q (g i j) H
def rI0 (g:Int→Int→V):R2:=fun x y H Q=>∃ i j,x=.int i∧y=.int j∧Q (g i j) H
def rU (g:Int→V):V→Hp→VK→Prop:=fun x H Q=>∃ i,x=.int i∧Q (g i) H
section
variable {X:Cx}{a b c:Expr}{ta tb tc:TE}{pos:Pos}
theorem binT (ha:PE X a ta) (hb:PE X b tb) {pins:List (Addr×Obj)}{s:Shared}{σ:St}{H:Hp}{R:V→V→Hp→Prop} (I:Inv X pins σ H s)
  (h:ta σ H fun x H1=>tb σ H1 fun y H2=>R x y H2) {Q:Value→Shared→Prop}{f:Value→Value→Sem Value}
  (hf:∀ v u s2 x y H2,Inv X pins σ H2 s2→RelV x v→RelV y u→R x y H2→wpAny (model X.prog X.w) X.A (f v u) Q X.xe s2) :
  wpAny (model X.prog X.w) X.A (eval a X.env) (fun v s₁=>wpAny (model X.prog X.w) X.A (eval b X.env) (fun u s₂=>wpAny (model X.prog X.w) X.A (f v u) Q X.xe s₂) X.xe s₁) X.xe s:=by
 refine thn (ha pins s σ H _ I h) fun v s1 ⟨x,H1,I1,r1,q1⟩=>?_
 refine thn (hb pins s1 σ H1 _ I1 q1) fun u s2 ⟨y,H2,I2,r2,q2⟩=>?_
 exact hf v u s2 x y H2 I2 r1 r2 q2
theorem pe_op {op:Operator}{r:R2} (ho:OpR X (binaryOp op) r) (ha:PE X a ta) (hb:PE X b tb):PE X (.BinOp a op b pos) (tOp r ta tb):=by
 intro pins s σ H Q I h
 exact wpAny_BinOp (binT ha hb I h fun v u s2 x y H2 I2 rx ry q=>ho pins s2 σ H2 x y v u Q I2 rx ry q)
theorem pe_un {op:UnaryOp}{r:V→Hp→VK→Prop} (ho:UnR X (unaryOp op) r) (ha:PE X a ta):PE X (.UnaryOp op a pos) (tUn r ta):=by
 intro pins s σ H Q I h
 exact UnaryOp_ (thn (ha pins s σ H _ I h) fun v s1 ⟨x,H1,I1,r1,q1⟩=>ho pins s1 σ H1 x v Q I1 r1 q1)
theorem opI {f:Value→Value→Sem Value}{C:Int→Int→Prop}{g:Int→Int→Int}
  (rule:∀ (i j:Int) (t u:Tok) (s:Shared) (Q:Value→Shared→Prop) (E:Value→Shared→Prop),C i j→Q (.int (g i j) s.toks) { s with toks:=s.toks+1 }→wpAny (model X.prog X.w) X.A (f (.int i t) (.int j u)) Q E s) :
  OpR X f (rI C fun i j=>.int (g i j)):=by
 intro pins s σ H x y v u Q I rx ry h
 obtain⟨i,j,rfl,rfl,hc,q⟩:=h
 obtain⟨t,rfl⟩:=rx
 obtain⟨t',rfl⟩:=ry
 exact rule i j t t' s _ _ hc ⟨.int (g i j),H,I.tok _,⟨_,rfl⟩,q⟩
theorem opI0 {f:Value→Value→Sem Value}{g:Int→Int→Int}
  (rule:∀ (i j:Int) (t u:Tok) (s:Shared) (Q:Value→Shared→Prop) (E:Value→Shared→Prop),Q (.int (g i j) s.toks) { s with toks:=s.toks+1 }→wpAny (model X.prog X.w) X.A (f (.int i t) (.int j u)) Q E s) :
  OpR X f (rI0 fun i j=>.int (g i j)):=by
 intro pins s σ H x y v u Q I rx ry h
 obtain⟨i,j,rfl,rfl,q⟩:=h
 obtain⟨t,rfl⟩:=rx
 obtain⟨t',rfl⟩:=ry
 exact rule i j t t' s _ _ ⟨.int (g i j),H,I.tok _,⟨_,rfl⟩,q⟩
theorem opB0 {f:Value→Value→Sem Value}{g:Int→Int→Bool}
  (rule:∀ (i j:Int) (t u:Tok) (s:Shared) (Q:Value→Shared→Prop) (E:Value→Shared→Prop),Q (.bool (g i j)) s→wpAny (model X.prog X.w) X.A (f (.int i t) (.int j u)) Q E s) :
  OpR X f (rI0 fun i j=>.bl (g i j)):=by
 intro pins s σ H x y v u Q I rx ry h
 obtain⟨i,j,rfl,rfl,q⟩:=h
 obtain⟨t,rfl⟩:=rx
 obtain⟨t',rfl⟩:=ry
 exact rule i j t t' s _ _ ⟨.bl (g i j),H,I,rfl,q⟩
def CPow (i j:Int):Prop:=0≤j∧j≤1000000∧i.natAbs<2 ^ 64
theorem op_add:OpR X (binaryOp .Add) (rI0 fun i j=>.int (i+j)):=opI0 fun _ _ _ _ _ _ _ q=>add_int q
theorem op_sub:OpR X (binaryOp .Sub) (rI0 fun i j=>.int (i - j)):=opI0 fun _ _ _ _ _ _ _ q=>sub_int q
theorem op_mod:OpR X (binaryOp .Mod) (rI (fun _ j=>0<j) fun i j=>.int (i % j)):=opI fun i j _ _ _ _ _ hc q=>by
 have h1:(0:Int)<j:=hc
 exact mod_int' (by omega) (by rw[Int.fmod_eq_emod_of_nonneg i (by omega)];exact q)
theorem op_pow:OpR X (binaryOp .Pow) (rI CPow fun i j=>.int (i ^ j.toNat)):=opI fun _ _ _ _ _ _ _ hc q=>pow_int_small hc.1 hc.2.1 hc.2.2 q
theorem op_shl:OpR X (binaryOp .LShift) (rI CPow fun i j=>.int (i * 2 ^ j.toNat)):=opI fun _ _ _ _ _ _ _ hc q=>lshift_int_small hc.1 hc.2.1 hc.2.2 q
theorem unI {f:Value→Sem Value}{g:Int→Int}
  (rule:∀ (i:Int) (t:Tok) (s:Shared) (Q:Value→Shared→Prop) (E:Value→Shared→Prop),Q (.int (g i) s.toks) { s with toks:=s.toks+1 }→wpAny (model X.prog X.w) X.A (f (.int i t)) Q E s) :
  UnR X f (rU fun i=>.int (g i)):=by
 intro pins s σ H x v Q I rx h
 obtain⟨i,rfl,q⟩:=h
 obtain⟨t,rfl⟩:=rx
 exact rule i t s _ _ ⟨.int (g i),H,I.tok _,⟨_,rfl⟩,q⟩
theorem un_neg:UnR X (unaryOp .USub) (rU fun i=>.int (-i)):=unI fun _ _ _ _ _ q=>neg_int q
end
section
variable {X:Cx}{a b c:Expr}{ta tb tc:TE}{pos:Pos}
theorem fin_bl {pins:List (Addr×Obj)}{σ:St}{H:Hp}{s:Shared}{Q:VK}{k k':Bool} (I:Inv X pins σ H s) (q:Q (.bl k) H) (e:k=k'):EP X pins σ Q (.bool k') s:=by
 subst e
 exact⟨.bl k,H,I,rfl,q⟩
theorem op_lt:OpR X (compareOp .Lt) (rI0 fun i j=>.bl (decide (i<j))):=opB0 fun _ _ _ _ _ _ _ q=>lt_int q
theorem op_le:OpR X (compareOp .LtE) (rI0 fun i j=>.bl (decide (i≤j))):=opB0 fun _ _ _ _ _ _ _ q=>le_int q
theorem op_gt:OpR X (compareOp .Gt) (rI0 fun i j=>.bl (decide (j<i))):=opB0 fun _ _ _ _ _ _ _ q=>gt_int q
theorem op_ge:OpR X (compareOp .GtE) (rI0 fun i j=>.bl (decide (j≤i))):=opB0 fun _ _ _ _ _ _ _ q=>ge_int q
theorem op_isN:OpR X (compareOp .Is) (fun x y H Q=>y=.non∧Q (.bl (decide (x=.non))) H):=by
 intro pins s σ H x y v u Q I rx ry h
 obtain⟨rfl,q⟩:=h
 cases ry
 refine is_none_gen (fin_bl I q ?_)
 cases x<;>first
  | (cases rx;rfl)
  | (obtain⟨t,rfl⟩:=rx;rfl)
theorem op_notN:OpR X (compareOp .IsNot) (fun x y H Q=>y=.non∧Q (.bl (!decide (x=.non))) H):=by
 intro pins s σ H x y v u Q I rx ry h
 obtain⟨rfl,q⟩:=h
 cases ry
 refine isnot_none_gen (fin_bl I q ?_)
 cases x<;>first
  | (cases rx;rfl)
  | (obtain⟨t,rfl⟩:=rx;rfl)
theorem pe_cmpR {op:CmpOp}{r:R2} (ho:OpR X (compareOp op) r) (ha:PE X a ta) (hb:PE X b tb) (hm:behindInMarks op b=false):PE X (.Compare a [op] [b] pos) (tOp r ta tb):=by
 intro pins s σ H Q I h
 exact wpAny_Compare1 (binT ha hb I h fun v u s2 x y H2 I2 rx ry q=>ho pins s2 σ H2 x y v u Q I2 rx ry q) hm
def tTest (t:TE):TT:=fun σ H Q=>t σ H fun x H'=>∃ k,x=.bl k∧Q k H'
theorem pt_cmpR {op:CmpOp}{r:R2} (ho:OpR X (compareOp op) r) (ha:PE X a ta) (hb:PE X b tb) (hm:behindInMarks op b=false):PT X (.Compare a [op] [b] pos) (tTest (tOp r ta tb)):=by
 intro pins s σ H Q I h
 refine wpAny_isTrue_Compare1 (thn (ha pins s σ H _ I h) fun v s1 ⟨x,H1,I1,r1,q1⟩=>thn (hb pins s1 σ H1 _ I1 q1) fun u s2 ⟨y,H2,I2,r2,q2⟩ =>
  thn (ho pins s2 σ H2 x y v u _ I2 r1 r2 q2) fun c s3 ⟨z,H3,I3,r3,k,e,q3⟩=>?_) hm
 subst e
 cases r3
 exact wpAny_truthy_bool ⟨H3,I3,q3⟩
def tChain (r r':R2) (ta tb tc:TE):TE:=fun σ H Q=>ta σ H fun x H1=>tb σ H1 fun y H2=>r x y H2 fun z H3=>∃ k,z=.bl k ∧
 (if k=true then tc σ H3 fun w' H4=>r' y w' H4 Q else Q (.bl false) H3)
theorem pe_chain {op op':CmpOp}{r r':R2} (ho:OpR X (compareOp op) r) (ho':OpR X (compareOp op') r') (ha:PE X a ta) (hb:PE X b tb) (hc:PE X c tc)
  (hm:lastMarks [op,op'] [b,c]=false:=by with_unfolding_all rfl):PE X (.Compare a [op,op'] [b,c] pos) (tChain r r' ta tb tc):=by
 intro pins s σ H Q I h
 refine Compare_chain (thn (ha pins s σ H _ I h) fun v s1 ⟨x,H1,I1,r1,q1⟩=>chain_link (thn (hb pins s1 σ H1 _ I1 q1) fun u s2 ⟨y,H2,I2,r2,q2⟩ =>
  thn (ho pins s2 σ H2 x y v u _ I2 r1 r2 q2) fun d s3 ⟨z,H3,I3,r3,k,e,q3⟩=>?_)) hm
 subst e
 cases r3
 refine wpAny_truthy_bool ?_
 cases k with
 | false=>exact ite_ff ⟨.bl false,H3,I3,rfl,q3⟩
 | true=>exact ite_tt (chain_last (thn (hc pins s3 σ H3 _ I3 q3) fun w' s4 ⟨z',H4,I4,r4,q4⟩=>ho' pins s4 σ H4 y z' u w' Q I4 r2 r4 q4))
theorem pt_chain {op op':CmpOp}{r r':R2} (ho:OpR X (compareOp op) r) (ho':OpR X (compareOp op') r') (ha:PE X a ta) (hb:PE X b tb) (hc:PE X c tc)
  (hm:lastMarks [op,op'] [b,c]=false:=by with_unfolding_all rfl):PT X (.Compare a [op,op'] [b,c] pos) (tTest (tChain r r' ta tb tc)):=by
 intro pins s σ H Q I h
 refine isTrue_chain (thn (ha pins s σ H _ I h) fun v s1 ⟨x,H1,I1,r1,q1⟩=>test_link (thn (hb pins s1 σ H1 _ I1 q1) fun u s2 ⟨y,H2,I2,r2,q2⟩ =>
  thn (ho pins s2 σ H2 x y v u _ I2 r1 r2 q2) fun d s3 ⟨z,H3,I3,r3,k,e,q3⟩=>?_)) hm
 subst e
 cases r3
 refine wpAny_truthy_bool ?_
 cases k with
 | false =>
  obtain⟨k',e',q'⟩:=q3
  cases e'
  exact ite_ff ⟨H3,I3,q'⟩
 | true =>
  refine ite_tt (test_last (thn (hc pins s3 σ H3 _ I3 q3) fun w' s4 ⟨z',H4,I4,r4,q4⟩=>thn (ho' pins s4 σ H4 y z' u w' _ I4 r2 r4 q4) fun d' s5 ⟨z2,H5,I5,r5,k2,e2,q5⟩=>?_))
  subst e2
  cases r5
  exact wpAny_truthy_bool ⟨H5,I5,q5⟩
def TruV (K:PySem.W.Frag) (x:V) (H:Hp) (k:Bool):Prop :=
 match x with
 | .non=>k=false
 | .bl b=>k=b
 | .int i=>k=(i != 0)
 | .str y=>y.length≤sizeLine∧k=((y.length:Int) != 0)
 | .byt y=>y.size≤sizeLine∧k=((y.size:Int) != 0)
 | .ref p=>(∃ xs,SqL K H p xs∧k=!xs.isEmpty)∨(∃ xs,SqT K H p xs∧k=!xs.isEmpty)∨∃ kvs,H p=some (.dK kvs)∧k=!kvs.isEmpty
 | _=>False
theorem isEmpty_kv {κ:Type}{kvs:List (κ×V)}{vs:List (κ×Value)} (r:KV kvs vs):(!vs.isEmpty)=!kvs.isEmpty:=by
 cases r<;>rfl
theorem isEmpty_of {xs:List V}{its:List Value} (r:Vals xs its):(!its.toArray.isEmpty)=!xs.isEmpty:=by
 cases r<;>simp
theorem line63:(sizeLine:Nat)<2 ^ 63:=by rw[sizeLine_eq];decide
theorem tru_ok:TruR X (fun x H Q=>∃ k,TruV X.K x H k∧Q k H):=by
 intro pins s σ H x v Q I rx h
 obtain⟨k,e,q⟩:=h
 have hl:=line63
 have hs:sizeLine=16777216:=sizeLine_eq
 cases x with
 | non =>
  cases rx
  have e':k=false:=e
  subst e'
  exact truthy_none ⟨H,I,q⟩
 | bl b =>
  cases rx
  have e':k=b:=e
  subst e'
  exact wpAny_truthy_bool ⟨H,I,q⟩
 | int i =>
  obtain⟨t,rfl⟩:=rx
  have e':k=(i != 0):=e
  subst e'
  exact PySem.P.truthy_int ⟨H,I,q⟩
 | str y =>
  obtain⟨t,rfl⟩:=rx
  obtain⟨hy,e'⟩:y.length≤sizeLine∧k=((y.length:Int) != 0):=e
  subst e'
  exact PySem.P.truthy_str (by omega) ⟨H,I.tok _,q⟩
 | byt y =>
  obtain⟨t,rfl⟩:=rx
  obtain⟨hy,e'⟩:y.size≤sizeLine∧k=((y.size:Int) != 0):=e
  subst e'
  exact PySem.W.truthy_bytes (by omega) ⟨H,I.tok _,q⟩
 | ref p =>
  cases rx
  have e':(∃ xs,SqL X.K H p xs∧k=!xs.isEmpty)∨(∃ xs,SqT X.K H p xs∧k=!xs.isEmpty)∨∃ kvs,H p=some (.dK kvs)∧k=!kvs.isEmpty:=e
  rcases e' with ⟨xs,hx,e'⟩ | ⟨xs,hx,e'⟩ | ⟨kvs,hx,e'⟩
  ·subst e'
   obtain⟨its,r,pl,hz⟩:=I.list hx
   have hlen:=r.length
   exact wpAny_truthy_list pl.isList (by simp only[List.size_toArray];omega) ⟨H,I.tok _,by rw[isEmpty_of r];exact q⟩
  ·subst e'
   obtain⟨its,r,pl,hz⟩:=I.tuple hx
   have hlen:=r.length
   exact truthy_tuple pl (by simp only[List.size_toArray];omega) ⟨H,I.tok _,by rw[isEmpty_of r];exact q⟩
  ·subst e'
   obtain⟨hz,hS,vs,r,m⟩:kvs.length≤sizeLine∧(p==sysModules)=false∧∃ vs,KV kvs vs∧s.heap.DictOf (mixKind X.prog X.w) p vs:=I.hok p _ hx
   have hlen:kvs.length=vs.length:=Paired.length r
   exact wpAny_truthy_dict hS m (by omega) ⟨H,I.tok _,by rw[isEmpty_kv r];exact q⟩
 | _=>exact (show False from e).elim
theorem pt_truth (ha:PE X a ta) (he:∀ whole,isTrue a X.env whole=(do let v ← whole;standAt a.pos;holding [v] (truthy v))) :
  PT X a (fun σ H Q=>ta σ H fun x H'=>∃ k,TruV X.K x H' k∧Q k H'):=by
 intro pins s σ H Q I h
 exact isTrue_plain (thn (ha pins s σ H _ I h) fun v s1 ⟨x,H1,I1,r1,q1⟩=>tru_ok pins s1 σ H1 x v Q I1 r1 q1) (he _)
theorem op_add_str:OpR X (binaryOp .Add) (fun x y H Q=>∃ i j,x=.str i∧y=.str j∧i.length+j.length≤sizeLine∧Q (.str (i++j)) H):=by
 intro pins s σ H x y v u Q I rx ry h
 obtain⟨i,j,rfl,rfl,hz,q⟩:=h
 obtain⟨t,rfl⟩:=rx
 obtain⟨t',rfl⟩:=ry
 exact add_str (fun t' tk=>⟨.str (i++j),H,I.tok _,⟨_,rfl⟩,q⟩) hz
theorem vals1 {x:V}{us:List Value} (r:Vals [x] us):∃ u,us=[u]∧RelV x u:=by
 cases r with
 | cons r1 r2=>cases r2;exact⟨_,rfl,r1⟩
theorem vals2 {x y:V}{us:List Value} (r:Vals [x,y] us):∃ u w',us=[u,w']∧RelV x u∧RelV y w':=by
 cases r with
 | cons r1 r2 =>
  cases r2 with
  | cons r3 r4=>cases r4;exact⟨_,_,rfl,r1,r3⟩
theorem call_max2 (hc:X.calm=true):CallR X (.builtin "max") (fun xs H Q=>∃ i j,xs=[.int i,.int j]∧Q (.int (if j > i then j else i)) H):=by
 intro pins s σ H xs us Q I r h
 obtain⟨i,j,rfl,q⟩:=h
 obtain⟨u,w',rfl,⟨t,rfl⟩,⟨t',rfl⟩⟩:=vals2 r
 refine max_two_ints (I.ok.hd hc) fun h' tk k=>⟨_,H,I.kept k,?_,q⟩
 by_cases hj:j > i
 ·rw[if_pos hj,if_pos hj];exact⟨_,rfl⟩
 ·rw[if_neg hj,if_neg hj];exact⟨_,rfl⟩
theorem call_min2 (hc:X.calm=true):CallR X (.builtin "min") (fun xs H Q=>∃ i j,xs=[.int i,.int j]∧Q (.int (if j<i then j else i)) H):=by
 intro pins s σ H xs us Q I r h
 obtain⟨i,j,rfl,q⟩:=h
 obtain⟨u,w',rfl,⟨t,rfl⟩,⟨t',rfl⟩⟩:=vals2 r
 refine min_two_ints (I.ok.hd hc) fun h' tk k=>⟨_,H,I.kept k,?_,q⟩
 by_cases hj:j<i
 ·rw[if_pos hj,if_pos hj];exact⟨_,rfl⟩
 ·rw[if_neg hj,if_neg hj];exact⟨_,rfl⟩
theorem call_int1:CallR X (.type "int") (fun xs H Q=>(∃ i,xs=[.int i]∧Q (.int i) H)∨∃ k,xs=[.bl k]∧Q (.int (if k then 1 else 0)) H):=by
 intro pins s σ H xs us Q I r h
 rcases h with ⟨i,rfl,q⟩ | ⟨k,rfl,q⟩
 ·obtain⟨u,rfl,t,rfl⟩:=vals1 r
  exact call_int_int ⟨.int i,H,I,⟨_,rfl⟩,q⟩
 ·obtain⟨u,rfl,r1⟩:=vals1 r
  cases r1
  exact call_int_bool ⟨.int (if k then 1 else 0),H,I.tok _,⟨_,rfl⟩,q⟩
end
end L2
namespace L2
open PySem PySem.Spec PyProof.Rows
structure ObjM (h:Heap) (x dx C:Addr) (mA:Str→Option Value):Prop where
 obj:h.get? x=some (PySem.W.instObj C dx)
 ns:h.Ns1 dx mA
 ne:dx≠x
theorem lookIn_ns {h:Heap}{dx:Addr}{mA:Str→Option Value} (n:h.Ns1 dx mA):∃ od,h.get? dx=some od∧∀ name,PySem.W.lookIn name od=some (mA name):=by
 obtain⟨o,es,ep,ho,hd,hk,_,hm⟩:=n
 refine⟨o,ho,fun name=>?_⟩
 have e:=hm name
 unfold nsFind findBy at e
 rw[← Array.find?_toList] at e
 unfold PySem.W.lookIn
 rw[hd]
 dsimp only
 split
 ·rename_i y q
  rw[q] at e
  exact congrArg some e
 ·rename_i q
  rw[q] at e
  have a:es.toList.any (·.refKey)=false:=by
   rw[List.any_eq_false]
   intro y hy
   obtain⟨z,t,hkey⟩:=hk y (Array.mem_toList_iff.mp hy)
   simp[DictEntry.refKey,hkey]
  have a':¬ es.toList.any (·.refKey)=true:=by rw[a];exact Bool.false_ne_true
  rw[if_neg a']
  exact congrArg some e
theorem ObjM.look {h:Heap}{x dx C:Addr}{mA:Str→Option Value} (I:ObjM h x dx C mA):∃ od,PySem.W.InstAt h x (PySem.W.instObj C dx) C (some od)∧∀ name,PySem.W.lookIn name od=some (mA name) :=
 let ⟨od,ho,hl⟩:=lookIn_ns I.ns
 ⟨od,⟨I.obj,rfl,rfl,ho⟩,hl⟩
section
variable {prog:Program}{w:World}{A:Around}{E:Value→Shared→Prop}{s:Shared}{K:PySem.W.Frag}{x dx C f:Addr}{mA:Str→Option Value}{name:Str}{v:Value}
theorem get_map {expr:Bool}{Q:Value→Shared→Prop} (X:K.In s.heap) (I:ObjM s.heap x dx C mA) (hg:PySem.W.plainGet K C name=true) (hh:PySem.W.hasDictIn K C=true)
  (ha:PySem.W.findIn K (.ref C) name=some none) (hv:mA name=some v) (hv':PySem.W.handedIn v=true) (h:Q v { s with toks:=s.toks+1 }) :
  wpAny (model prog w) A (getAttr (.ref x) name expr) Q E s:=by
 obtain⟨od,J,hl⟩:=I.look
 exact PySem.W.get_value X J (PySem.W.plainGet_of hg).1 (PySem.W.findObj_own hh ha rfl (by rw[hl,hv])) hv' h
theorem get_meth {pl:Sem Bool}{Q:Value×List Value→Shared→Prop} (X:K.In s.heap) (I:ObjM s.heap x dx C mA) (hg:PySem.W.plainGet K C name=true)
  (hf:PySem.W.findIn K (.ref C) name=some (some (.ref f))) (ht:PySem.W.isFn K (.ref f)=true) (hv:mA name=none) (h:Q (.ref f,[.ref x]) s) :
  wpAny (model prog w) A (getMethod (.ref x) name pl) Q E s:=by
 obtain⟨od,J,hl⟩:=I.look
 exact PySem.W.method_fn X J (PySem.W.plainGet_of hg).1 (PySem.W.plainGet_of hg).2 hf (beq_iff_eq.mp ht) (by show (PySem.W.lookIn name od).map (·.isSome)=some false;rw[hl,hv];rfl) h
theorem set_map {ns:List Str}{Q:Unit→Shared→Prop} (X:K.In s.heap) (I:ObjM s.heap x dx C mA)
  (hs:PySem.W.findIn K (.ref C) "__setattr__"=some (some (.builtin "object.__setattr__"))) (hp:PySem.W.plainOver K C=true) (ht:PySem.W.takerIn K C name=some none) (hh:PySem.W.hasDictIn K C=true)
  (hw:PySem.Within mA ns) (hsz:ns.length≤sizeLine)
  (h:∀ h',ObjM h' x dx C (fun y=>if y=name then some v else mA y)→Heap.SameBut dx s.heap h'→Q () { s with heap:=h',toks:=s.toks+2 }) :
  wpAny (model prog w) A (setAttr (.ref x) name v) Q E s:=by
 obtain⟨od,J,hl⟩:=I.look
 refine PySem.W.set_plain X J hs (PySem.W.osa_open (s:={ s with toks:=s.toks+1 }) (r:=none) X J hp ht fun b=>?_)
 obtain⟨cd,hc,hd'⟩:=PySem.W.any_some hh
 have hx:s.heap.get? x=some ⟨.ref C,some dx,.plain,#[]⟩:=I.obj
 refine wpAny_bind (wpAny_pure (wpAny_bind (wpAny_bind (wpAny_loadPart hx (wpAny_bind (PySem.W.Looks.here (s:={ s with toks:=s.toks+1 }) (PySem.W.looks_clsIn X hc) ?_))))))
 rw[hd']
 refine wpAny_pure (a:=some dx) (wpAny_bind (wpAny_pure (wpAny_bind ?_)))
 refine wpAny_nsSet1 (s:={ s with toks:=s.toks+1 }) I.ns fun h' hn2 hs2=>?_
 obtain⟨oD,esD,epD,hoD,hdD,hcD⟩:=hn2.count (PySem.Within.cons name v hw)
 refine wpAny_bind (wpAny_lookBehind hoD (by rw[hdD];exact pastItsLine_dict (Nat.le_trans hcD (by rw[List.length_cons];omega))) ?_)
 exact wpAny_pure (h _ ⟨(hs2.2 _ (Ne.symm I.ne)).trans I.obj,hn2,I.ne⟩ hs2)
theorem make_map {R:Result→Shared→Prop}{vs:List Value}{kw:List (Str×Value)} (X:K.In s.heap) (hm:PySem.W.makesIn K C=true)
  (hi:PySem.W.findIn K (.ref C) "__init__"=some (some (.ref f))) (hf:PySem.W.typeIn K (.ref f)=some (.type "function"))
  (h:codeAny (model prog w) (A.under (.builtin "type.__call__" ⟨.ref C::vs,kw⟩)) (.call (.ref f) ⟨.ref (s.heap.objs.size+1)::vs,kw⟩) (PySem.W.InitBack (s.heap.objs.size+1) R)
   { s with heap:=(s.heap.push PySem.W.emptyDict).push (PySem.W.instObj C s.heap.objs.size) }) :
  codeAny (model prog w) A (.call (.ref C) ⟨vs,kw⟩) R s:=by
 obtain⟨hh,g,d,t,os⟩:=s
 exact PySem.W.make_core (PySem.W.makes_of X hm) (PySem.W.looks_findIn X hi) (fun self=>PySem.W.bind_fn X self hf) (.inl rfl) h
end
def putF (f:Str) (v:V):List (Str×V)→List (Str×V)
 | []=>[(f,v)]
 | (g,x)::r=>if g=f then (g,v)::r else (g,x)::putF f v r
theorem lookup_putF (f g:Str) (v:V):∀ fs:List (Str×V),(putF f v fs).lookup g=if g=f then some v else fs.lookup g
 | []=>by
  show List.lookup g [(f,v)]=_
  by_cases h:g=f
  ·have hb:(g==f)=true:=beq_iff_eq.mpr h
   simp only[List.lookup,hb,if_pos h]
  ·have hb:(g==f)=false:=beq_eq_false_iff_ne.mpr h
   simp only[List.lookup,hb,if_neg h]
 | (k,x)::r=>by
  have ih:=lookup_putF f g v r
  rw[show putF f v ((k,x)::r)=(if k=f then (k,v)::r else (k,x)::putF f v r) from rfl]
  by_cases hk:k=f
  ·rw[if_pos hk]
   by_cases h:g=k
   ·have hb:(g==k)=true:=beq_iff_eq.mpr h
    simp only[List.lookup,hb,if_pos (h.trans hk)]
   ·have hb:(g==k)=false:=beq_eq_false_iff_ne.mpr h
    simp only[List.lookup,hb,if_neg (fun e:g=f=>h (e.trans hk.symm))]
  ·rw[if_neg hk]
   by_cases h:g=k
   ·have hb:(g==k)=true:=beq_iff_eq.mpr h
    simp only[List.lookup,hb,if_neg (fun e:g=f=>hk (h.symm.trans e))]
   ·have hb:(g==k)=false:=beq_eq_false_iff_ne.mpr h
    simp only[List.lookup,hb]
    exact ih
theorem keys_putF (f:Str) (v:V):∀ fs:List (Str×V),f∈(putF f v fs).map (·.1)∧∀ g,g∈fs.map (·.1)→g∈(putF f v fs).map (·.1)
 | []=>⟨by simp[putF],fun g h=>by simp at h⟩
 | (k,x)::r=>by
  obtain⟨i1,i2⟩:=keys_putF f v r
  rw[show putF f v ((k,x)::r)=(if k=f then (k,v)::r else (k,x)::putF f v r) from rfl]
  by_cases hk:k=f
  ·rw[if_pos hk]
   subst hk
   exact⟨by simp,fun g h=>by simpa using h⟩
  ·rw[if_neg hk]
   refine⟨?_,fun g h=>?_⟩
   ·rw[List.map_cons]
    exact List.mem_cons_of_mem _ i1
   ·rw[List.map_cons] at h ⊢
    rcases List.mem_cons.mp h with e | e
    ·exact List.mem_cons.mpr (.inl e)
    ·exact List.mem_cons_of_mem _ (i2 g e)
theorem length_putF (f:Str) (v:V):∀ fs:List (Str×V),(putF f v fs).length≤fs.length+1
 | []=>by simp[putF]
 | (k,x)::r=>by
  have ih:=length_putF f v r
  rw[show putF f v ((k,x)::r)=(if k=f then (k,v)::r else (k,x)::putF f v r) from rfl]
  by_cases hk:k=f
  ·rw[if_pos hk,List.length_cons,List.length_cons];omega
  ·rw[if_neg hk,List.length_cons,List.length_cons];omega
theorem RelO.some_of {v:V}{o:Option Value} (r:RelO (some v) o):∃ u,o=some u∧RelV v u:=by
 cases o with
 | none=>exact (show False from r).elim
 | some u=>exact⟨u,rfl,r⟩
theorem RelO.none_of {o:Option Value} (r:RelO none o):o=none:=by
 cases o with
 | none=>rfl
 | some u=>exact (show False from r).elim
theorem handed_of {v:V}{u:Value} (r:RelV v u):PySem.W.handedIn u=true:=by
 cases v with
 | non=>cases (show u=Value.none from r);rfl
 | bl b=>cases (show u=Value.bool b from r);rfl
 | int i=>obtain⟨t,e⟩:=(show ∃ t,u=Value.int i t from r);cases e;rfl
 | str x=>obtain⟨t,e⟩:=(show ∃ t,u=Value.str x t from r);cases e;rfl
 | byt b=>obtain⟨t,e⟩:=(show ∃ t,u=Value.bytes b t from r);cases e;rfl
 | flt b=>obtain⟨t,e⟩:=(show ∃ t,u=Value.float b t from r);cases e;rfl
 | ref a=>cases (show u=Value.ref a from r);rfl
 | ty n=>cases (show u=Value.type n from r);rfl
section
variable {P:Program}{w:World}{H H':Hp}{h h':Heap}{a C dx:Addr}{fs fs':List (Str×V)}
theorem ins_get (hok:HOk P w H h) (e:H a=some (.ins C dx fs)):∃ mA,ObjM h a dx C mA∧(∀ f,RelO (fs.lookup f) (mA f))∧PySem.Within mA (fs.map (·.1))∧fs.length≤1000∧H dx=some (.own a):=by
 obtain⟨d,z,ne,ob,mA,n,r,q⟩:=(show ObjOk P w H h a (.ins C dx fs) from hok a _ e)
 exact⟨mA,⟨ob,n,ne⟩,r,q,z,d⟩
end
structure Cls (K:PySem.W.Frag) (C:Addr):Prop where
 pg:PySem.W.plainGet K C Str.empty=true
 hd:PySem.W.hasDictIn K C=true
 po:PySem.W.plainOver K C=true
 sa:PySem.W.findIn K (.ref C) "__setattr__"=some (some (.builtin "object.__setattr__"))
theorem Cls.get {K:PySem.W.Frag}{C:Addr} (c:Cls K C) (f:Str):PySem.W.plainGet K C f=true:=c.pg
def NoAttr (K:PySem.W.Frag) (C:Addr) (f:Str):Prop:=PySem.W.findIn K (.ref C) f=some none
theorem NoAttr.taker {K:PySem.W.Frag}{C:Addr}{f:Str} (n:NoAttr K C f):PySem.W.takerIn K C f=some none:=by
 unfold PySem.W.takerIn
 rw[show PySem.W.findIn K (.ref C) f=some none from n]
 rfl
structure Meth (K:PySem.W.Frag) (C:Addr) (m:Str) (f:Addr):Prop where
 at_:PySem.W.findIn K (.ref C) m=some (some (.ref f))
 fn:PySem.W.isFn K (.ref f)=true
 kp:PySem.W.keepIn K (.ref f)=true
section
variable {X:Cx}{pins:List (Addr×Obj)}{σ:St}{H:Hp}{s:Shared}{a C dx:Addr}{fs:List (Str×V)}{f:Str}{v:V}{A:Around}{E:Value→Shared→Prop}
theorem getattr_ok {b:Bool}{Q:Value→Shared→Prop} (I:Inv X pins σ H s) (e:H a=some (.ins C dx fs)) (c:Cls X.K C) (n:NoAttr X.K C f) (l:fs.lookup f=some v)
  (h:∀ u s',Inv X pins σ H s'→RelV v u→Q u s'):wpAny (model X.prog X.w) A (getAttr (.ref a) f b) Q E s:=by
 obtain⟨mA,O,r,_,_,_⟩:=ins_get I.hok e
 obtain⟨u,hu,ru⟩:=RelO.some_of (v:=v) (o:=mA f) (by rw[← l];exact r f)
 exact get_map I.kIn O (c.get f) c.hd n hu (handed_of ru) (h u _ (I.tok _) ru)
theorem getmeth_ok {m:Str}{g:Addr}{pl:Sem Bool}{Q:Value×List Value→Shared→Prop} (I:Inv X pins σ H s) (e:H a=some (.ins C dx fs)) (c:Cls X.K C) (k:Meth X.K C m g) (l:fs.lookup m=none)
  (h:Q (.ref g,[.ref a]) s):wpAny (model X.prog X.w) A (getMethod (.ref a) m pl) Q E s:=by
 obtain⟨mA,O,r,_,_,_⟩:=ins_get I.hok e
 have hn:mA m=none:=RelO.none_of (by rw[← l];exact r m)
 exact get_meth I.kIn O (c.get m) k.at_ k.fn hn h
theorem setattr_ok {y:V}{u:Value}{Q:Unit→Shared→Prop} (I:Inv X pins σ H s) (e:H a=some (.ins C dx fs)) (c:Cls X.K C) (n:NoAttr X.K C f) (hl:fs.length<1000) (ry:RelV y u)
  (h:∀ s',Inv X pins σ (upd H a (.ins C dx (putF f y fs))) s'→Q () s'):wpAny (model X.prog X.w) A (setAttr (.ref a) f u) Q E s:=by
 obtain⟨mA,O,r,wi,_,ho⟩:=ins_get I.hok e
 have hz:(fs.map (·.1)).length≤sizeLine:=by rw[List.length_map,sizeLine_eq];omega
 refine set_map I.kIn O c.sa c.po n.taker c.hd wi hz fun h' O' sb=>h _ ?_
 have hd:∃ o,h'.get? dx=some o:=let ⟨o,_,_,e',_⟩:=O'.ns;⟨o,e'⟩
 refine I.write (x:=a) (e:=dx) (by rw[e];exact True.intro) (.inr ho) (fun b q hb z=>(sb.2 b hb).trans z) hd ?_
 refine⟨by rw[upd_ne O.ne];exact ho,?_,O.ne,O'.obj,_,O'.ns,fun g=>?_,fun g hg=>?_⟩
 ·have:=length_putF f y fs;omega
 ·show RelO ((putF f y fs).lookup g) (if g=f then some u else mA g)
  rw[lookup_putF]
  by_cases q:g=f
  ·rw[if_pos q,if_pos q];exact ry
  ·rw[if_neg q,if_neg q];exact r g
 ·by_cases q:g=f
  ·rw[q];exact (keys_putF f y fs).1
  ·refine (keys_putF f y fs).2 g (wi g fun z=>hg ?_)
   show (if g=f then some u else mA g)=none
   rw[if_neg q];exact z
theorem Inv.made (I:Inv X pins σ H s):Inv X pins σ (upd (upd H s.heap.objs.size (.own (s.heap.objs.size+1))) (s.heap.objs.size+1) (.ins C s.heap.objs.size []))
  { s with heap:=(s.heap.push PySem.W.emptyDict).push (PySem.W.instObj C s.heap.objs.size) }:=by
 have e1:(s.heap.push PySem.W.emptyDict).get? s.heap.objs.size=some PySem.W.emptyDict:=Heap.get?_push_size s.heap rfl
 have e2:((s.heap.push PySem.W.emptyDict).push (PySem.W.instObj C s.heap.objs.size)).get? (s.heap.objs.size+1)=some (PySem.W.instObj C s.heap.objs.size):=by
  have:=Heap.get?_push_size (s.heap.push PySem.W.emptyDict) (o:=PySem.W.instObj C s.heap.objs.size) rfl
  rwa [Heap.size_push] at this
 have e3:(s.heap.push PySem.W.emptyDict).Ns s.heap.objs.size (fun _=>none):=⟨PySem.W.emptyDict,#[],_,e1,rfl,(fun e he=>absurd he (by simp)),fun _=>rfl⟩
 have I1:=I.laid (a:=s.heap.objs.size) (o:=.own (s.heap.objs.size+1)) (h':=s.heap.push PySem.W.emptyDict) (t':=s.toks) (fun b u q=>Heap.get?_push_of_some _ q) (Nat.le_refl _) ⟨_,e1⟩
 refine I1.laid (a:=s.heap.objs.size+1) (o:=.ins C s.heap.objs.size []) (t':=s.toks) (fun b u q=>Heap.get?_push_of_some _ q) (Nat.le_of_eq (Heap.size_push _ _)) ?_
 have ne:s.heap.objs.size≠s.heap.objs.size+1:=Nat.ne_of_lt (Nat.lt_succ_self _)
 refine⟨by rw[upd_ne ne,upd_same],Nat.zero_le _,ne,e2,fun _=>none,(Heap.Ns1.of_empty e3).at fun o q=>Heap.get?_push_of_some _ q,fun _=>True.intro,fun y hy=>absurd rfl hy⟩
theorem attr_of {prog:Program}{w:World}{env:Env}{e:Expr}{f:Str}{pos:Pos}{s:Shared}{Q:Value→Shared→Prop} (hb:attributeBase e f env (eval e env)=eval e env)
  (h:wpAny (model prog w) A (eval e env) (fun o s₁=>wpAny (model prog w) A (getAttr o f true) Q E s₁) E s):wpAny (model prog w) A (eval (.Attribute e f pos) env) Q E s :=
 Attribute_any_ h (by rw[arm_eval_Attribute,hb])
end
def tFld (K:PySem.W.Frag) (ta:TE) (f:Str):TE:=fun σ H Q=>ta σ H fun x H1=>∃ a C dx fs v,x=.ref a∧H1 a=some (.ins C dx fs)∧Cls K C∧NoAttr K C f∧fs.lookup f=some v∧Q v H1
def sFld (K:PySem.W.Frag) (ta tv:TE) (f:Str):TS:=fun D σ H=>tv σ H fun y H1=>ta σ H1 fun x H2=>∃ a C dx fs,x=.ref a∧H2 a=some (.ins C dx fs)∧Cls K C∧NoAttr K C f∧fs.length<1000 ∧
 D.nx σ (upd H2 a (.ins C dx (putF f y fs)))
section
variable {X:Cx}{o e value:Expr}{f:Str}{pos pos' tpos:Pos}{ta tv:TE}
theorem pe_fld (he:PE X e ta) (hb:attributeBase e f X.env (eval e X.env)=eval e X.env):PE X (.Attribute e f pos) (tFld X.K ta f):=by
 intro pins s σ H Q I h
 refine attr_of hb (thn (he pins s σ H _ I h) fun u s1 ⟨x,H1,I1,rx,a,C,dx,fs,v,ex,ea,c,n,l,q⟩=>?_)
 subst ex
 obtain rfl:u=Value.ref a:=rx
 exact getattr_ok I1 ea c n l fun u' s2 I2 ru=>⟨v,H1,I2,ru,q⟩
theorem ps_fld (ha:PE X o ta) (hv:PE X value tv) (hs:swapsWith value (some (.Attribute o f pos')) pos.line X.env=pure false):PS X (.Assign [.Attribute o f pos'] value pos) (sFld X.K ta tv f):=by
 intro pins s σ H D I h
 refine plainObj_wpAny_Assign_Attribute (thn (hv pins s σ H _ I h) fun u s1 ⟨y,H1,I1,ry,q⟩=>thn (ha pins s1 σ H1 _ I1 q) fun ov s2 ⟨x,H2,I2,rx,a,C,dx,fs,ex,ea,c,n,l,q2⟩=>?_) hs
 subst ex
 obtain rfl:ov=Value.ref a:=rx
 exact setattr_ok I2 ea c n l ry fun s3 I3=>⟨σ,_,I3,q2⟩
end
end L2
namespace L2
open PySem PySem.Spec PyProof.Rows
structure Room (k:Nat) (A:Around):Prop where
 hd:A.handled=none
 dp:A.depth+3 * k+5<recursionLimit
 un:A.units+16 * k+200<cLine
theorem Room.mono {j k:Nat}{A:Around} (r:Room k A) (h:j≤k):Room j A:=⟨r.hd,by have:=r.dp;omega,by have:=r.un;omega⟩
theorem Room.deeper {k:Nat}{A:Around} (r:Room (k+1) A) (env:Env):Room k (A.deeper env) :=
 ⟨r.hd,by have:=r.dp;show A.depth+1+3 * k+5<_;omega,by have:=r.un;show A.units+3+16 * k+200<_;omega⟩
theorem Room.in1 {k:Nat}{A:Around} (r:Room (k+1) A):Room k A.in1 :=
 ⟨r.hd,by have:=r.dp;show A.depth+3 * k+5<_;omega,by have:=r.un;show A.units+1+16 * k+200<_;omega⟩
theorem make_depth {A:Around}{C:Addr}{us:List Value}{kw:List (Str×Value)}:(A.under (.builtin "type.__call__" ⟨.ref C::us,kw⟩)).depth=A.depth+1:=by
 first | rfl | simp[Around.under,Code.weight,Code.isCreation,Code.isGuard,Code.isCaller,Code.frames,Code.isFrame,guardIds]
theorem make_units {A:Around}{C:Addr}{us:List Value}{kw:List (Str×Value)}:(A.under (.builtin "type.__call__" ⟨.ref C::us,kw⟩)).units=A.units+1:=by
 first | rfl | simp[Around.under,Code.cUnits,Code.frames,Code.isFrame]
theorem Room.make {k:Nat}{A:Around} (r:Room (k+1) A) (C:Addr) (us:List Value) (kw:List (Str×Value)):Room k (A.under (.builtin "type.__call__" ⟨.ref C::us,kw⟩)) :=
 ⟨r.hd,by have:=r.dp;rw[make_depth];omega,by have:=r.un;rw[make_units];omega⟩
theorem Room.depth {k:Nat}{A:Around} (r:Room k A):A.depth<recursionLimit:=by have:=r.dp;omega
def tNil:TA:=fun _ H Q=>Q [] H
def tCons (ta:TE) (tr:TA):TA:=fun σ H Q=>ta σ H fun x H1=>tr σ H1 fun xs H2=>Q (x::xs) H2
section
variable {X:Cx}{e:Expr}{es:List Expr}{te:TE}{t:TA}{pos:Pos}
theorem pa_nil:PA X [] tNil:=fun _ _ _ _ H Q I h=>Calls.spliced_nil ⟨[],H,I,.nil,h⟩
theorem pa_cons (ha:PE X e te) (hr:PA X es t) (hs:starEach (e::es) X.env=(false,eval e X.env)::starEach es X.env:=by rfl):PA X (e::es) (tCons te t):=by
 intro pos pins s σ H Q I h
 rw[hs]
 show wpAny _ _ (spliced ((false,eval e X.env)::backTo pos (starEach es X.env))) _ _ s
 refine Calls.spliced_cons (thn (ha pins s σ H _ I h) fun u s1 ⟨x,H1,I1,r1,q1⟩=>?_)
 exact thn (hr pos pins s1 σ H1 _ I1 q1) fun us s2 ⟨xs,H2,I2,r2,q2⟩=>⟨x::xs,H2,I2,.cons r1 r2,q2⟩
def tTup (t:TA):TE:=fun σ H Q=>t σ H fun xs H1=>xs.length≤sizeLine∧∀ p,H1 p=none→Q (.ref p) (upd H1 p (.tup xs))
def tLst (t:TA):TE:=fun σ H Q=>t σ H fun xs H1=>xs.length≤sizeLine∧∀ p,H1 p=none→Q (.ref p) (upd H1 p (.lst xs))
theorem pe_tup {x1} (h:PA X es t):PE X (.Tuple es x1 pos) (tTup t):=by
 intro pins s σ H Q I hq
 refine wpAny_Tuple_spliced (thn (h pos pins s σ H _ I hq) fun us s1 ⟨xs,H1,I1,r,z,q⟩=>⟨by rw[← r.length];exact z,?_⟩)
 have hf:H1 s1.heap.objs.size=none:=I1.hok.fresh (Nat.le_refl _)
 refine⟨.ref s1.heap.objs.size,upd H1 s1.heap.objs.size (.tup xs),I1.laid (t':=s1.toks) (fun b u e=>Heap.get?_push_of_some _ e) (Nat.le_refl _) ?_,rfl,q _ hf⟩
 exact⟨z,us,r,⟨_,Heap.get?_push_size _ rfl,rfl,_,rfl⟩⟩
theorem pe_lst (h:PA X es t):PE X (.List es pos) (tLst t):=by
 intro pins s σ H Q I hq
 refine wpAny_List_spliced (thn (h pos pins s σ H _ I hq) fun us s1 ⟨xs,H1,I1,r,z,q⟩=>⟨by rw[← r.length];exact z,?_⟩)
 have hf:H1 s1.heap.objs.size=none:=I1.hok.fresh (Nat.le_refl _)
 refine⟨.ref s1.heap.objs.size,upd H1 s1.heap.objs.size (.lst xs),I1.laid (t':=s1.toks) (fun b u e=>Heap.get?_push_of_some _ e) (Nat.le_refl _) ?_,rfl,q _ hf⟩
 exact⟨z,us,0,r,Heap.get?_push_size _ rfl⟩
end
abbrev Sp:=List V→Hp→VK→XK→Prop
abbrev CXT:=List Env→Hp→Shared→XK→Value→Shared→Prop
structure Env0 (P:Program) (w:World) (K:PySem.W.Frag) (mg:Str→Option Value) (base:Heap) (A:Around) (outer:List Env) (s:Shared) (H:Hp):Prop where
 frames:A.frames=some outer
 mod:Mod K mg base
 bs:∀ b o,base.get? b=some o→s.heap.get? b=some o∧H b=none
 bsz:base.objs.size≤s.heap.objs.size
 funs:s.heap.FunFrames base outer
 frf:∀ b∈frs outer,H b=none
 hok:HOk P w H s.heap
 bare:AllBare s.gens
def CE (outer:List Env) (P:Program) (w:World) (H:Hp) (s:Shared) (Q:VK) (u:Value) (s':Shared):Prop :=
 ∃ v H',s'.os=s.os∧AllBare s'.gens∧Un (frs outer) [] H H' s.heap s'.heap∧HOk P w H' s'.heap∧RelV v u∧Q v H'
def CR (CX:CXT) (outer:List Env) (P:Program) (w:World) (H:Hp) (s:Shared) (Q:VK) (E:XK) (r:Result) (s':Shared):Prop :=
 match r with
 | .ok (.ret u)=>CE outer P w H s Q u s'
 | .ok _=>False
 | .error e=>CX outer H s E e s'
structure FnOk (P:Program) (w:World) (K:PySem.W.Frag) (mg:Str→Option Value) (base:Heap) (CX:CXT) (k:Nat) (f:Addr) (fd:FuncData) (ps:List Str) (sp:Sp):Prop where
 len:∀ vs H Q E,sp vs H Q E→vs.length=ps.length
 run:∀ (A:Around) (outer:List Env) (s:Shared) (H:Hp) (args:Args) (us:List Value) (vs:List V) (Q:VK) (E:XK),Room k A→Env0 P w K mg base A outer s H→BindsTo s fd args (ps.zip us)→Vals vs us→sp vs H Q E →
  codeAny (model P w) A (.call (.ref f) args) (CR CX outer P w H s Q E) s
theorem FnOk.mono {P:Program}{w:World}{K:PySem.W.Frag}{mg:Str→Option Value}{base:Heap}{CX:CXT}{j k:Nat}{f:Addr}{fd:FuncData}{ps:List Str}{sp:Sp} (F:FnOk P w K mg base CX j f fd ps sp) (h:j≤k) :
  FnOk P w K mg base CX k f fd ps sp:=⟨F.len,fun A outer s H args us vs Q E hr=>F.run A outer s H args us vs Q E (hr.mono h)⟩
theorem FnOk.imp {P:Program}{w:World}{K:PySem.W.Frag}{mg:Str→Option Value}{base:Heap}{CX:CXT}{k:Nat}{f:Addr}{fd:FuncData}{ps:List Str}{sp sp':Sp} (F:FnOk P w K mg base CX k f fd ps sp)
  (h:∀ vs H Q E,sp' vs H Q E→sp vs H Q E):FnOk P w K mg base CX k f fd ps sp' :=
 ⟨fun vs H Q E q=>F.len vs H Q E (h _ _ _ _ q),fun A outer s H args us vs Q E hr he hb hv hs=>F.run A outer s H args us vs Q E hr he hb hv (h _ _ _ _ hs)⟩
theorem Env0.make {P:Program}{w:World}{K:PySem.W.Frag}{mg:Str→Option Value}{base:Heap}{A:Around}{outer:List Env}{s:Shared}{H:Hp} (e:Env0 P w K mg base A outer s H) (C:Addr) (us:List Value) (kw:List (Str×Value)) :
  Env0 P w K mg base (A.under (.builtin "type.__call__" ⟨.ref C::us,kw⟩)) outer s H:=⟨by first | exact e.frames | (simpa [Around.under,Code.envs,Code.isFrame,pushEnvs] using e.frames),e.mod,e.bs,e.bsz,e.funs,e.frf,e.hok,e.bare⟩
theorem Env0.in1 {P:Program}{w:World}{K:PySem.W.Frag}{mg:Str→Option Value}{base:Heap}{A:Around}{outer:List Env}{s:Shared}{H:Hp} (e:Env0 P w K mg base A outer s H) :
  Env0 P w K mg base A.in1 outer s H:=⟨e.frames,e.mod,e.bs,e.bsz,e.funs,e.frf,e.hok,e.bare⟩
section
variable {X:Cx}{pins:List (Addr×Obj)}{σ:St}{H:Hp}{s s':Shared}
theorem Inv.env0 (I:Inv X pins σ H s):Env0 X.prog X.w X.K X.mg X.base X.A X.stack s H :=
 ⟨I.ok.frames,I.ok.mod,I.bs,Nat.le_trans I.ok.bsz I.sz,I.stack,I.stkFree,I.hok,I.bare⟩
theorem Inv.after {Q:VK}{u:Value} (I:Inv X pins σ H s) (h:CE X.stack X.prog X.w H s Q u s'):EP X pins σ Q u s':=by
 obtain⟨v,H',os,bare,un,hok,r,q⟩:=h
 obtain⟨hh,g,d,t,os'⟩:=s'
 obtain rfl:os'=s.os:=os
 exact⟨v,H',I.call (h':=hh) (g':=g) (d':=d) (t':=t) (ch:=[]) un hok bare (fun b z=>absurd z (by simp)),r,q⟩
end
def tCall (sp:Sp) (dvs:List V) (E:XK) (t:TA):TE:=fun σ H Q=>t σ H fun vs H1=>sp (vs++dvs) H1 Q E
def tMeth (C:Addr) (m:Str) (sp:Sp) (dvs:List V) (E:XK) (ta:TE) (t:TA):TE:=fun σ H Q=>ta σ H fun x H1=>∃ a dx fs,x=.ref a∧H1 a=some (.ins C dx fs)∧fs.lookup m=none ∧
 t σ H1 fun vs H2=>sp (x::(vs++dvs)) H2 Q E
def Binds (K:PySem.W.Frag) (fd:FuncData) (ps:List Str) (ds:List Value):Prop :=
 ∀ (s:Shared) (us:List Value),K.In s.heap→(us++ds).length=ps.length→BindsTo s fd ⟨us,[]⟩ (ps.zip (us++ds))
theorem Binds.all {K:PySem.W.Frag}{fd:FuncData}{ps:List Str} (h:∀ us:List Value,us.length=ps.length→bindArgs fd ⟨us,[]⟩=pure (ps.zip us)):Binds K fd ps []:=fun s us _ hl=>by
 rw[List.append_nil] at hl ⊢
 exact .of_eq (h us hl)
def Passes (CX:CXT) (X:Cx) (E:XK):Prop:=∀ (pins:List (Addr×Obj)) (σ:St) (H:Hp) (s:Shared) (e:Value) (s':Shared),Inv X pins σ H s→CX X.stack H s E e s'→X.xe e s'
section
variable {X:Cx}{CX:CXT}{k:Nat}{f C:Addr}{fd:FuncData}{ps:List Str}{sp:Sp}{dvs:List V}{ds:List Value}{E:XK}{x m:Str}{p pos apos:Pos}{e o:Expr}{es:List Expr}{ta:TE}{t:TA}
theorem run_fn {pins:List (Addr×Obj)}{σ:St}{H:Hp}{s:Shared}{Q:VK}{us:List Value}{vs:List V} (F:FnOk X.prog X.w X.K X.mg X.base CX k f fd ps sp) (hr:Room k X.A) (hb:Binds X.K fd ps ds) (hd:Vals dvs ds) (hx:Passes CX X E)
  (I:Inv X pins σ H s) (r:Vals vs us) (h:sp (vs++dvs) H Q E):wpAny (model X.prog X.w) X.A (call (.ref f) us) (EP X pins σ Q) X.xe s:=by
 have r2:Vals (vs++dvs) (us++ds):=r.append hd
 have hl:(us++ds).length=ps.length:=by rw[← r2.length];exact F.len _ _ _ _ h
 refine wpAny_call (codeAny_mono (F.run X.A X.stack s H ⟨us,[]⟩ (us++ds) (vs++dvs) Q E hr I.env0 (hb s us I.kIn hl) r2 h) fun r s' hq=>?_)
 cases r with
 | error e=>exact hx pins σ H s e s' I hq
 | ok fl =>
  cases fl with
  | ret u=>exact I.after hq
  | next=>exact False.elim hq
  | brk=>exact False.elim hq
  | cont=>exact False.elim hq
theorem pe_call (F:FnOk X.prog X.w X.K X.mg X.base CX k f fd ps sp) (hr:Room k X.A) (hg:Gl X x) (hm:X.mg x=some (.ref f)) (hk:PySem.W.keepIn X.K (.ref f)=true) (hb:Binds X.K fd ps ds) (hd:Vals dvs ds) (hx:Passes CX X E)
  (ha:PA X (e::es) t) (hdb:(x==("__debug__":Str))=false:=by decide) (he:starEach (e::es) X.env=(false,eval e X.env)::starEach es X.env:=by rfl) (hpl:(backTo pos (starEach es X.env)).any (·.1)=false:=by rfl) :
  PE X (.Call (.Name x p) (e::es) [] pos) (tCall sp dvs E t):=by
 intro pins s σ H Q I h
 refine wpAny_Call_Name_kw (ld_glob I hg hm ?_ hdb)
 refine PySem.W.callWith_K (h₀:=X.base) I.ok.mod.kin hk (thn (ha pos pins s σ H _ I h) fun us s1 ⟨vs,H1,I1,r,q⟩=>⟨I1.kIn,?_⟩) he hpl
 exact run_fn F hr hb hd hx I1 r q
theorem pe_meth {pl:Sem Bool} (he:PE X o ta) (c:Cls X.K C) (hm:Meth X.K C m f) (F:FnOk X.prog X.w X.K X.mg X.base CX k f fd ps sp) (hr:Room k X.A) (hb:Binds X.K fd ps ds) (hd:Vals dvs ds) (hx:Passes CX X E) (ha:PA X (e::es) t)
  (hst:starEach (e::es) X.env=(false,eval e X.env)::starEach es X.env:=by rfl) (hpl:(backTo pos (starEach es X.env)).any (·.1)=false:=by rfl)
  (ht:eval (.Call (.Attribute o m apos) (e::es) [] pos) X.env=(do
   let ov ← eval o X.env
   standAt apos.atName
   let (f,first) ← holding [ov] (getMethod ov m pl)
   callWith pos f first (backTo pos (starEach (e::es) X.env)) (backToKw pos (keywordEach [] X.env))):=by rfl) :
  PE X (.Call (.Attribute o m apos) (e::es) [] pos) (tMeth C m sp dvs E ta t):=by
 intro pins s σ H Q I h
 refine PySem.W.methodCall_KW (pl:=pl) (thn (he pins s σ H _ I h) fun u s1 ⟨x,H1,I1,rx,a,dx,fs,ex,ea,l,q⟩=>?_) ht
 subst ex
 obtain rfl:u=Value.ref a:=rx
 refine getmeth_ok I1 ea c hm l ?_
 refine PySem.W.callWith_K (first:=[.ref a]) (h₀:=X.base) I.ok.mod.kin hm.kp (thn (ha pos pins s1 σ H1 _ I1 q) fun us s2 ⟨vs,H2,I2,r,q2⟩=>⟨I2.kIn,?_⟩) hst hpl
 exact run_fn (us:=.ref a::us) (vs:=.ref a::vs) F hr hb hd hx I2 (.cons rfl r) q2
theorem pe_meth0 {pl:Sem Bool} (he:PE X o ta) (c:Cls X.K C) (hm:Meth X.K C m f) (F:FnOk X.prog X.w X.K X.mg X.base CX k f fd ps sp) (hr:Room k X.A) (hb:Binds X.K fd ps ds) (hd:Vals dvs ds) (hx:Passes CX X E)
  (ht:eval (.Call (.Attribute o m apos) [] [] pos) X.env=(do
   let ov ← eval o X.env
   standAt apos.atName
   let (f,first) ← holding [ov] (getMethod ov m pl)
   callWith pos f first (backTo pos (starEach [] X.env)) (backToKw pos (keywordEach [] X.env))):=by rfl) :
  PE X (.Call (.Attribute o m apos) [] [] pos) (tMeth C m sp dvs E ta tNil):=by
 intro pins s σ H Q I h
 refine PySem.W.methodCall_KW (pl:=pl) (thn (he pins s σ H _ I h) fun u s1 ⟨x,H1,I1,rx,a,dx,fs,ex,ea,l,q⟩=>?_) ht
 subst ex
 obtain rfl:u=Value.ref a:=rx
 refine getmeth_ok I1 ea c hm l ?_
 exact PySem.W.callWith_K0 (first:=[.ref a]) I1.kIn hm.kp (run_fn (us:=[.ref a]) (vs:=[.ref a]) F hr hb hd hx I1 (.cons rfl .nil) q)
structure Mk (K:PySem.W.Frag) (C f:Addr):Prop where
 makes:PySem.W.makesIn K C=true
 init:PySem.W.findIn K (.ref C) "__init__"=some (some (.ref f))
 fn:PySem.W.isFn K (.ref f)=true
 kp:PySem.W.keepIn K (.ref C)=true
end
def PK (X:Cx) (kws:List Keyword) (t:TA):Prop :=
 ∀ (pos:Pos) (pins:List (Addr×Obj)) (s:Shared) (σ:St) (H:Hp) (Q:List V→Hp→Prop),Inv X pins σ H s→t σ H Q→wpAny (model X.prog X.w) X.A (evalAll ((backToKw pos (keywordEach kws X.env)).map (·.2))) (AP X pins σ Q) X.xe s
section
variable {X:Cx}{CX:CXT}{k:Nat}{f C:Addr}{fd:FuncData}{ps ks:List Str}{sp:Sp}{E:XK}{x m:Str}{p pos apos kpos:Pos}{e o:Expr}{es:List Expr}{kws:List Keyword}{te ta:TE}{t tk:TA}{nm:Option Str}
theorem pk_nil:PK X [] tNil:=fun _ _ _ _ H Q I h=>wpAny_evalAll_nil ⟨[],H,I,.nil,h⟩
theorem pk_cons (ha:PE X e te) (hr:PK X kws t):PK X (⟨nm,e,kpos⟩::kws) (tCons te t):=by
 intro pos pins s σ H Q I h
 show wpAny _ _ (evalAll ((do let v ← eval e X.env;standAt pos;pure v)::(backToKw pos (keywordEach kws X.env)).map (·.2))) _ _ s
 refine wpAny_evalAll_cons (wpAny_bind (thn (ha pins s σ H _ I h) fun u s1 ⟨x,H1,I1,r1,q1⟩=>wpAny_bind (wpAny_standAt (wpAny_pure ?_))))
 exact thn (hr pos pins s1 σ H1 _ I1 q1) fun us s2 ⟨xs,H2,I2,r2,q2⟩=>⟨x::xs,H2,I2,.cons r1 r2,q2⟩
variable {g:List Value→List Value→List Value}{gV:List V→List V→List V}
end
structure FnScope (N P:List Str) (sc:Scope):Prop where
 kind:sc.kind=.function
 co:sc.isCoroutine=false
 gen:sc.isGenerator=false
 nd:N.Nodup
 pre:N.take P.length=P
 par:∀ x∈P,sc.names.lookup x=some .local∨sc.names.lookup x=some .cell
 nofree:∀ y∈sc.names,y.2≠.free
theorem bindL_out {kindOf:Str→Option NameKind}{x:Str}:∀ {binds:List (Str×Value)}{m:Str→Option Value},(∀ v,(x,v) ∉ binds)→bindL kindOf binds m x=m x
 | [],_,_=>rfl
 | (n,v)::r,m,h=>by
  unfold bindL
  rw[bindL_out fun w hw=>h w (List.mem_cons_of_mem _ hw)]
  split
  ·have:x≠n:=by rintro rfl;exact h v List.mem_cons_self
   simp[this]
  ·rfl
theorem bindC_out {kindOf:Str→Option NameKind}{x:Str}:∀ {binds:List (Str×Value)}{m:Str→Option Value},(∀ v,(x,v) ∉ binds)→bindC kindOf binds m x=m x
 | [],_,_=>rfl
 | (n,v)::r,m,h=>by
  unfold bindC
  rw[bindC_out fun w hw=>h w (List.mem_cons_of_mem _ hw)]
  split
  ·rfl
  ·have:x≠n:=by rintro rfl;exact h v List.mem_cons_self
   simp[this]
theorem bindL_get {kindOf:Str→Option NameKind}{x:Str}{v:Value}:∀ {P:List Str}{vs:List Value}{i:Nat}{m:Str→Option Value},P.Nodup→P[i]?=some x→vs[i]?=some v→kindOf x=some .local →
  bindL kindOf (P.zip vs) m x=some v
 | [],_,_,_,_,h,_,_=>by simp at h
 | _::_,[],_,_,_,_,h,_=>by simp at h
 | p::P,w::vs,0,m,nd,h1,h2,hk=>by
  simp at h1 h2;subst h1;subst h2
  show bindL kindOf ((p,w)::P.zip vs) m p=_
  unfold bindL
  rw[bindL_out fun v hv=>(List.nodup_cons.mp nd).1 (List.of_mem_zip hv).1,if_pos hk]
  simp
 | p::P,w::vs,i+1,m,nd,h1,h2,hk=>by
  show bindL kindOf ((p,w)::P.zip vs) m x=_
  unfold bindL
  exact bindL_get (i:=i) (List.nodup_cons.mp nd).2 (by simpa using h1) (by simpa using h2) hk
theorem bindC_get {kindOf:Str→Option NameKind}{x:Str}{v:Value}:∀ {P:List Str}{vs:List Value}{i:Nat}{m:Str→Option Value},P.Nodup→P[i]?=some x→vs[i]?=some v→kindOf x≠some .local →
  bindC kindOf (P.zip vs) m x=some v
 | [],_,_,_,_,h,_,_=>by simp at h
 | _::_,[],_,_,_,_,h,_=>by simp at h
 | p::P,w::vs,0,m,nd,h1,h2,hk=>by
  simp at h1 h2;subst h1;subst h2
  show bindC kindOf ((p,w)::P.zip vs) m p=_
  unfold bindC
  rw[bindC_out fun v hv=>(List.nodup_cons.mp nd).1 (List.of_mem_zip hv).1,if_neg hk]
  simp
 | p::P,w::vs,i+1,m,nd,h1,h2,hk=>by
  show bindC kindOf ((p,w)::P.zip vs) m x=_
  unfold bindC
  exact bindC_get (i:=i) (List.nodup_cons.mp nd).2 (by simpa using h1) (by simpa using h2) hk
def start (N:List Str) (vs:List V):St:=vs.map some++List.replicate (N.length - vs.length) none
def cxOf (CX:CXT) (P:Program) (w:World) (K:PySem.W.Frag) (mg:Str→Option Value) (base:Heap) (N:List Str) (qual:Str) (scope:Scope) (f:Addr) (cd:Value) (A:Around) (outer:List Env) (s:Shared) (H:Hp) (E:XK):Cx where
 prog:=P
 w:=w
 K:=K
 mg:=mg
 base:=base
 A:=A.deeper (envOfC qual scope s.heap.objs.size f cd)
 N:=N
 s₀:=s
 H₀:=H
 env:=envOfC qual scope s.heap.objs.size f cd
 outer:=outer
 stack:=envOfC qual scope s.heap.objs.size f cd::outer
 ex:=[]
 calm:=true
 fn:=fun _=>true
 pn:=[]
 xe:=fun e s'=>wpAny (model P w) (A.deeper (envOfC qual scope s.heap.objs.size f cd)) (leaving (envOfC qual scope s.heap.objs.size f cd) e) (fun _ s''=>CX outer H s E e s'') (fun e' s''=>CX outer H s E e' s'') s'
theorem cell_has {sc:Scope}{n:Nat}{x:Str} (h:sc.names.lookup x=some .cell):∃ c,(cellsFrom n sc.names []).lookup x=some c:=by
 have q:=PySem.W.cellsFrom_some sc.names n [] (.inl h)
 exact Option.isSome_iff_exists.mp q
theorem inv_start {CX:CXT}{P:Program}{w:World}{K:PySem.W.Frag}{mg:Str→Option Value}{base:Heap}{N ps:List Str}{qual:Str}{scope:Scope}{f:Addr}{cd:Value}{A:Around}{outer:List Env}{s s1:Shared}{H:Hp}{E:XK}{us:List Value}{vs:List V}
  (S:FnScope N ps scope) (hd:A.handled=none) (e0:Env0 P w K mg base A outer s H) (hl:vs.length=ps.length) (r:Vals vs us)
  (x:InCallC s s.heap.objs.size (bindL (envOfC qual scope s.heap.objs.size f cd).kindOf (ps.zip us) fun _=>none) (cellsFrom (s.heap.objs.size+1) scope.names []) (bindC (envOfC qual scope s.heap.objs.size f cd).kindOf (ps.zip us) fun _=>none) s1) :
  Inv (cxOf CX P w K mg base N qual scope f cd A outer s H E) [] (start N vs) H s1:=by
 have hpl:ps.length≤N.length:=by have:=congrArg List.length S.pre;rw[List.length_take] at this;omega
 obtain⟨h1,tk,rfl,hk⟩:=x.done
 have noA:∀ b:Addr,b ∉ (cxOf CX P w K mg base N qual scope f cd A outer s H E).ex:=fun b z=>absurd (show b∈([]:List Addr) from z) (by simp)
 refine⟨⟨e0.mod,S.kind,rfl,rfl,Nat.le_refl _,fun y z c h1 h2=>?_,fun y hy=>?_,fun y c _ h=>?_,fun _=>hd,Around.frames_deeper e0.frames,.inr ⟨rfl,rfl⟩,fun b z=>absurd z (noA b),e0.bs,e0.bsz,fun b _ _=>noA b,fun b z=>absurd z (noA b),e0.funs,e0.frf⟩,
  rfl,e0.bare,Un.kept hk,⟨_,x.toInCall.ns,fun i y v h1 h2 h3=>?_⟩,fun y c h=>⟨_,x.cell y c h⟩,e0.hok.fresh (Nat.le_refl _),fun y c h=>?_,fun p hp=>absurd (show p∈([]:List (Addr×Obj)) from hp) (by simp),e0.hok.kept hk,?_⟩
 ·exact name_of_addr x.apart (PySem.mem_of_lookup h1) (PySem.mem_of_lookup h2)
 ·have hy:scope.names.lookup y=some .cell∨scope.names.lookup y=some .free:=hy
  rcases hy with hy | hy
  ·exact cell_has hy
  ·exact absurd rfl (S.nofree _ (PySem.mem_of_lookup hy))
 ·exact Nat.le_of_lt (x.above y c (PySem.mem_of_lookup h))
 ·have hi:i<vs.length:=by
   unfold start at h2
   by_cases hi:i<vs.length
   ·exact hi
   ·rw[List.getElem?_append_right (by simpa using hi)] at h2
    rw[List.getElem?_replicate] at h2
    split at h2<;>cases h2
  have ha:vs[i]?=some v:=by
   unfold start at h2
   rw[List.getElem?_append_left (by simpa using hi),List.getElem?_map] at h2
   cases e:vs[i]? with
   | none=>rw[e] at h2;cases h2
   | some a=>rw[e] at h2;cases h2;rfl
  obtain⟨u,hu,rv⟩:=r.get ha
  have hp:ps[i]?=some y:=by
   rw[← S.pre,List.getElem?_take_of_lt (by omega)];exact h1
  have ndP:ps.Nodup:=by rw[← S.pre];exact S.nd.sublist (List.take_sublist _ _)
  refine⟨u,rv,?_⟩
  rcases S.par y (List.mem_of_getElem? hp) with k | k
  ·exact .inl ⟨k,bindL_get ndP hp hu k⟩
  ·obtain⟨c,e⟩:=cell_has (n:=s.heap.objs.size+1) k
   refine .inr ⟨.inl k,c,e,?_⟩
   have q:=x.cell y c e
   rw[bindC_get ndP hp hu (by show scope.names.lookup y≠_;rw[k];decide)] at q
   exact q
 ·exact e0.hok.fresh (Nat.le_of_lt (x.above y c (PySem.mem_of_lookup h)))
 ·unfold start
  show _=N.length
  rw[List.length_append,List.length_map,List.length_replicate]
  omega
theorem fn_of {CX:CXT}{P:Program}{w:World}{K:PySem.W.Frag}{mg:Str→Option Value}{base:Heap}{k:Nat}{f:Addr}{name qual:Str}{params:Arguments}{body:List Stmt}{scope:Scope}{dV kV doc pm cdv ct oc:Value}{an od:Option Addr}
  {osl:Array (Option Value)}{N ps:List Str}{sp:Sp} (lk:K.lookup f=some ⟨oc,od,.func (PySem.W.fnOf name qual params body scope dV kV doc pm an cdv ct),osl⟩) (hcd:PySem.W.codeIn K cdv qual=true) (S:FnScope N ps scope)
  (len:∀ vs H Q E,sp vs H Q E→vs.length=ps.length)
  (hbody:∀ (A:Around) (outer:List Env) (s:Shared) (H:Hp) (vs:List V) (Q:VK) (E:XK),Room k (A.deeper (envOfC qual scope s.heap.objs.size f cdv))→sp vs H Q E →
   ∃ t,PSs (cxOf CX P w K mg base N qual scope f cdv A outer s H E) body t∧t { nx:=fun _ H'=>Q .non H',rt:=Q } (start N vs) H) :
  FnOk P w K mg base CX (k+1) f (PySem.W.fnOf name qual params body scope dV kV doc pm an cdv ct) ps sp:=by
 refine⟨len,fun A outer s H args us vs Q E hr e0 hb r hsp=>?_⟩
 have hl:=len _ _ _ _ hsp
 have KX:K.In s.heap:=e0.mod.kin.keeps fun b o e=>(e0.bs b o e).1
 have lim:s.heap.NoLimit:=e0.mod.nolimit.keeps fun b o e=>(e0.bs b o e).1
 have hkind:∀ y∈ps.zip us,scope.names.lookup y.1=some .local∨(scope.names.lookup y.1=some .cell∧((cellsFrom (s.heap.objs.size+1) scope.names []).lookup y.1).isSome=true):=fun ⟨n,v⟩ hy=>by
  rcases S.par n (List.of_mem_zip hy).1 with q | q
  ·exact .inl q
  ·exact .inr ⟨q,PySem.W.cellsFrom_some _ _ _ (.inl q)⟩
 refine codeAny_call_function hr.depth (KX _ _ lk) rfl S.co S.gen rfl (PySem.W.codeRec_of KX hcd) (hb _ _ _ _ ?_)
 refine wpAny_newFunctionEnv_cells S.kind hkind fun env he s1 x=>?_
 subst he
 refine⟨lim.keeps x.toInCall.keep,codeAny_func ?_⟩
 obtain⟨t,ht,hq⟩:=hbody A outer s H vs Q E (hr.deeper _) hsp
 have I:Inv (cxOf CX P w K mg base N qual scope f cdv A outer s H E) [] (start N vs) H s1:=inv_start S hr.hd e0 hl r x
 refine wpAny_mono (ht [] s1 (start N vs) H _ I hq) (fun fl s' hs=>?_) fun e s' hs=>hs
 have fin:∀ {σ':St}{H':Hp}{v:V}{u:Value},Inv (cxOf CX P w K mg base N qual scope f cdv A outer s H E) [] σ' H' s'→RelV v u→Q v H'→CE outer P w H s Q u s' :=
  fun {σ' H' v u} J rv q=>⟨v,H',J.os,J.bare,J.base,J.hok,rv,q⟩
 cases fl with
 | ret u =>
  obtain⟨v,σ',H',J,rv,q⟩:=hs
  exact fin J rv q
 | next =>
  obtain⟨σ',H',J,q⟩:=hs
  exact fin (v:=V.non) (u:=Value.none) J rfl q
 | brk =>
  obtain⟨_,_,_,q⟩:=hs
  exact False.elim q
 | cont =>
  obtain⟨_,_,_,q⟩:=hs
  exact False.elim q
end L2
namespace L2
open PySem PySem.Spec PyProof.Rows
section
variable {X:Cx}{x:Str}{p pos:Pos}{e:Expr}{es:List Expr}{t:TA}{id T:String}{r:List V→Hp→VK→Prop}
def tCB (r:List V→Hp→VK→Prop) (t:TA):TE:=fun σ H Q=>t σ H fun vs H1=>r vs H1 Q
theorem pe_callB (hc:CallR X (.builtin id) r) (hg:Gl X x) (hm:X.mg x=none) (hv:bootBuiltins x=some (.builtin id)) (ha:PA X (e::es) t) (hn:x≠"__name__":=by decide) (hdb:(x==("__debug__":Str))=false:=by decide)
  (he:starEach (e::es) X.env=(false,eval e X.env)::starEach es X.env:=by rfl) (hpl:(backTo pos (starEach es X.env)).any (·.1)=false:=by rfl):PE X (.Call (.Name x p) (e::es) [] pos) (tCB r t):=by
 intro pins s σ H Q I h
 refine wpAny_Call_Name_kw (ld_blt I hg hm hv ?_ hn hdb)
 exact PyProof.Rows.callWith_builtin1 (thn (ha pos pins s σ H _ I h) fun us s1 ⟨vs,H1,I1,r1,q1⟩=>hc pins s1 σ H1 vs us Q I1 r1 q1) he hpl
theorem pe_callTy (hc:CallR X (.type T) r) (hg:Gl X x) (hm:X.mg x=none) (hv:bootBuiltins x=some (.type T)) (ha:PA X (e::es) t) (hn:x≠"__name__":=by decide) (hdb:(x==("__debug__":Str))=false:=by decide)
  (he:starEach (e::es) X.env=(false,eval e X.env)::starEach es X.env:=by rfl) (hpl:(backTo pos (starEach es X.env)).any (·.1)=false:=by rfl):PE X (.Call (.Name x p) (e::es) [] pos) (tCB r t):=by
 intro pins s σ H Q I h
 refine wpAny_Call_Name_kw (ld_blt I hg hm hv ?_ hn hdb)
 exact PyProof.Rows.callWith_type1 (thn (ha pos pins s σ H _ I h) fun us s1 ⟨vs,H1,I1,r1,q1⟩=>hc pins s1 σ H1 vs us Q I1 r1 q1) he hpl
end
end L2
namespace HT
open PySem PyProof.Rows
def lexLt:List Int→List Int→Bool
 | [],[]=>false
 | [],_::_=>true
 | _::_,[]=>false
 | x::xs,y::ys=>if x=y then lexLt xs ys else decide (x<y)
theorem lexLt_cons (x y:Int) (xs ys:List Int):lexLt (x::xs) (y::ys)=if x=y then lexLt xs ys else decide (x<y):=rfl
theorem lexLt_nil_nil:lexLt [] []=false:=rfl
theorem lexLt_nil_cons (y:Int) (ys:List Int):lexLt [] (y::ys)=true:=rfl
theorem lexLt_cons_nil (x:Int) (xs:List Int):lexLt (x::xs) []=false:=rfl
theorem eqAt_int (A:Around) (s:Shared) (a:Int) (t:Tok) (c:Int) (u:Tok):∃ e,SeqAt.EqAt A s (.int a t) (.int c u) e∧(e=true ↔ a=c) :=
 ⟨(a==c),SeqAt.EqAt.int_int a t c u,by simp⟩
theorem rcLt_int (A:Around) (s:Shared) (a:Int) (t:Tok) (c:Int) (u:Tok) (prog:Program) (w:World) (E:Value→Shared→Prop) (Q:Value→Shared→Prop) (h:Q (.bool (decide (a<c))) s) :
  wpAny (model prog w) A (richCompare .Lt (.int a t) (.int c u)) Q E s :=
 (PyProof.Rows.lt_int h:wpAny (model prog w) A (compareOp .Lt (.int a t) (.int c u)) Q E s)
section
open PySem.SeqAt
open PySem.AutoSeq1 (wpAny_loadPart')
open PySem.MeetsSeq PySem.MeetsSeq2 PySem.MeetsSeq3
theorem tuple_lt_ints (l b:Addr) (items items2:Array Value) (n n2:Nat) (dd dd2:Option Addr) (sl sl2:Array (Option Value)) (ns ms:List Int) (hi:IntsAre items.toList ns) (hj:IntsAre items2.toList ms) :
  Meets (Builtin.«tuple.__lt__» ⟨[.ref l,.ref b],[]⟩)
   (fun _ R s=>s.heap.get? l=some { cls:=.type "tuple",dict:=dd,data:=.seq items n,slots:=sl }∧s.heap.get? b=some { cls:=.type "tuple",dict:=dd2,data:=.seq items2 n2,slots:=sl2 } ∧
    R (.ok (.ret (.bool (lexLt ns ms)))) s) :=
 .of_wp fun prog w A R s h=>by
  obtain⟨hp,g,d,tk,os⟩:=s;obtain⟨hl,hb,h⟩:=h
  have f2:=AutoSeq1.sub_tuple_tuple
  have z1:items.size=ns.length:=by rw[← hi.length];simp
  have z2:items2.size=ms.length:=by rw[← hj.length];simp
  wp_walk using wpAny_loadPart' hl,wpAny_loadPart' hb,wpAny_forIn_list _ (fun rest b s'=>b.1=none∧s'=⟨hp,g,d,tk,os⟩∧∃ (vs ws:List Value) (ns' ms':List Int),rest=vs.zip ws ∧
   IntsAre vs ns'∧IntsAre ws ms'∧ns'.length+items2.size=ms'.length+items.size∧R (.ok (.ret (.bool (lexLt ns' ms')))) ⟨hp,g,d,tk,os⟩) _
  case turn =>
   rintro⟨y,x⟩ rest b s' ⟨hb',rfl,vs,ws,ns',ms',hz,hvi,hwi,hlen,hR⟩
   cases hvi with
   | nil=>rw[List.zip_nil_left] at hz;cases hz
   | cons a t hvi' =>
    cases hwi with
    | nil=>rw[List.zip_nil_right] at hz;cases hz
    | cons c u hwi' =>
     rw[List.zip_cons_cons] at hz
     injection hz with hyx hrest
     injection hyx with hy hx
     subst hy hx
     rw[lexLt_cons] at hR
     simp only[List.length_cons] at hlen
     obtain⟨e,he,hiff⟩:=eqAt_int A.in1 ⟨hp,g,d,tk,os⟩ a t c u
     refine wpAny_bind (he prog w _ _ ?_)
     cases e with
     | true =>
      rw[if_pos (hiff.mp rfl)] at hR
      wp_walk
      exact⟨rfl,rfl,_,_,_,_,hrest,hvi',hwi',by omega,hR⟩
     | false =>
      rw[if_neg (fun q=>absurd (hiff.mpr q) Bool.false_ne_true)] at hR
      have hri:=rcLt_int A.in1 ⟨hp,g,d,tk,os⟩ a t c u prog w
      wp_walk using hri
      exact⟨_,rfl,by simpa using hR⟩
  case fin =>
   rintro⟨b1,b2⟩ s' ⟨hb',rfl,vs,ws,ns',ms',hz,hvi,hwi,hlen,hR⟩
   simp only at hb'
   subst hb'
   have hv:lexLt ns' ms'=decide (items.size<items2.size):=by
    cases hvi with
    | nil =>
     cases hwi with
     | nil =>
      simp only[List.length_nil] at hlen
      rw[lexLt_nil_nil]
      exact (decide_eq_false (by omega)).symm
     | cons c u hw =>
      simp only[List.length_nil,List.length_cons] at hlen
      rw[lexLt_nil_cons]
      exact (decide_eq_true (by omega)).symm
    | cons a t hv =>
     cases hwi with
     | nil =>
      simp only[List.length_nil,List.length_cons] at hlen
      rw[lexLt_cons_nil]
      exact (decide_eq_false (by omega)).symm
     | cons c u hw =>
      rw[List.zip_cons_cons] at hz
      cases hz
   rw[hv] at hR
   wp_walk
   exact⟨_,rfl,by simpa [Builtin.Tuple.tupleCompareSizes] using hR⟩
  case h =>
   exact⟨rfl,rfl,items.toList,items2.toList,ns,ms,rfl,hi,hj,by omega,h⟩
end
section
variable {prog:Program}{w:World}{A:Around}{E:Value→Shared→Prop}{s:Shared}
theorem lt_tupInts {l b:Addr}{items items2:Array Value}{ns ms:List Int}{Q:Value→Shared→Prop} (hl:IsTup s.heap l items) (hb:IsTup s.heap b items2) (hi:IntsAre items.toList ns) (hj:IntsAre items2.toList ms)
  (hu:A.units<cLine) (h:Q (.bool (lexLt ns ms)) s):wpAny (model prog w) A (compareOp .Lt (.ref l) (.ref b)) Q E s:=by
 obtain⟨⟨cls,dd,data,sl⟩,ho,hc,n,hd⟩:=id hl
 obtain⟨⟨cls2,dd2,data2,sl2⟩,ho2,hc2,n2,hd2⟩:=id hb
 simp only at hc hd hc2 hd2
 subst hc hd hc2 hd2
 exact richCompare_meets_room (op:=.Lt) ⟨_,ho,rfl⟩ ⟨_,ho2,rfl⟩ PySem.F.slot_tuple_lt PySem.F.entry_tuple_lt (PySem.F.args_tuple_lt_2 _ _) (tuple_lt_ints l b items items2 n n2 dd dd2 sl sl2 ns ms hi hj)
  ⟨ho,ho2,show Value.bool (lexLt ns ms)≠Value.notImplemented∧Q (.bool (lexLt ns ms)) s from ⟨(fun x=>nomatch x),h⟩⟩ hu
theorem cat_tup {t b:Addr}{vs ws:List Value}{Q:Value→Shared→Prop} (ht:IsTup s.heap t vs.toArray) (hb:IsTup s.heap b ws.toArray) (hv:vs≠[])
  (h1:ws=[]→Q (.ref t) s) (h2:ws≠[]→Q (.ref s.heap.objs.size) { s with heap:=s.heap.push { cls:=.type "tuple",data:=.seq (vs++ws).toArray } })
  (hsz:vs.length+ws.length≤sizeLine):wpAny (model prog w) A (binaryOp .Add (.ref t) (.ref b)) Q E s:=by
 obtain⟨⟨cls,dd,data,sl⟩,ho,hc,n,hd⟩:=id ht
 obtain⟨⟨cls2,dd2,data2,sl2⟩,ho2,hc2,n2,hd2⟩:=id hb
 simp only at hc hd hc2 hd2
 subst hc hd hc2 hd2
 have e:vs.toArray++ws.toArray=(vs++ws).toArray:=by simp
 by_cases hw:ws=[]
 ·exact concat_meets ⟨_,ho,rfl⟩ ⟨_,ho2,rfl⟩ noFill_tuple_add seq_tuple_add PySem.F.slot_tuple_add PySem.F.entry_tuple_add (PySem.F.args_tuple_add_2 _ _)
   (tuple_addW1 t b vs.toArray ws.toArray n n2 dd dd2 sl sl2 (by simpa using hv) (by simp[hw])) ⟨ho,ho2,h1 hw⟩
 ·refine concat_meets ⟨_,ho,rfl⟩ ⟨_,ho2,rfl⟩ noFill_tuple_add seq_tuple_add PySem.F.slot_tuple_add PySem.F.entry_tuple_add (PySem.F.args_tuple_add_2 _ _)
   (tuple_addW2 t b vs.toArray ws.toArray n n2 dd dd2 sl sl2 (by simpa using hv) (by simpa using hw) (by rw[List.size_toArray,List.size_toArray];exact hsz)) ⟨ho,ho2,?_⟩
  rw[e]
  exact h2 hw
def sIx (n d:Nat):Option Int→Nat
 | none=>d
 | some v=>if v<0 then (v+(n:Int)).toNat else min v.toNat n
theorem sIx_le (n d:Nat) (hd:d≤n) (o:Option Int):sIx n d o≤n:=by
 cases o with
 | none=>exact hd
 | some v =>
  show (if v<0 then (v+(n:Int)).toNat else min v.toNat n)≤n
  by_cases hv:v<0
  ·rw[if_pos hv];omega
  ·rw[if_neg hv];exact Nat.min_le_right _ _
theorem clip_eq (v:Int) (n d:Nat):(if v<0 then max (v+(n:Int)) 0 else min v (n:Int))=((sIx n d (some v):Nat):Int):=by
 show (if v<0 then max (v+(n:Int)) 0 else min v (n:Int))=(((if v<0 then (v+(n:Int)).toNat else min v.toNat n):Nat):Int)
 by_cases hv:v<0
 ·simp only[if_pos hv];omega
 ·simp only[if_neg hv];omega
theorem adjust_gen (lo hi:Option Int) (n:Nat):Builtin.Slice.sliceAdjust lo hi 1 (n:Int)=(((sIx n 0 lo:Nat):Int),((sIx n n hi:Nat):Int)):=by
 have h1:¬ ((1:Int)<0):=by omega
 unfold Builtin.Slice.sliceAdjust
 simp only[h1,if_false]
 refine Prod.ext ?_ ?_
 ·cases lo with
  | none=>rfl
  | some v=>exact clip_eq v n 0
 ·cases hi with
  | none=>rfl
  | some v=>exact clip_eq v n n
theorem places_gen (i j:Nat):Builtin.Slice.slicePlaces (i:Int) (j:Int) 1=j - i:=by
 unfold Builtin.Slice.slicePlaces
 have h1:(1:Int) > 0:=by omega
 simp only[h1,if_true,Int.ediv_one]
 split<;>omega
theorem slicePart_ {v:Value}{o:Option Int}{Q:Option Int→Shared→Prop} (p:IsPart v o) (h:Q o s):wpAny (model prog w) A (Builtin.Slice.slicePartIndex v) Q E s:=by
 cases p with
 | none=>exact slicePart_none h
 | int i t=>exact slicePart_int h
theorem sliceApplied_gen {sl:Addr}{vl vu:Value}{lo hi:Option Int}{n:Nat}{Q:Int×Int×Nat→Shared→Prop} (hs:s.heap.IsSliceOf sl vl vu .none) (pl:IsPart vl lo) (pu:IsPart vu hi)
  (h:Q (((sIx n 0 lo:Nat):Int),1,sIx n n hi - sIx n 0 lo) s):wpAny (model prog w) A (Builtin.Slice.sliceApplied (.ref sl) (pure (n:Int))) Q E s:=by
 obtain⟨os,hos,hcs,hds⟩:=id hs
 unfold Builtin.Slice.sliceApplied Builtin.Slice.sliceFields
 refine wpAny_bind (wpAny_bind (wpAny_field hos hds (x:=vl) rfl (wpAny_bind (wpAny_field hos hds (x:=vu) rfl (wpAny_bind (wpAny_field hos hds (x:=.none) rfl (wpAny_pure ?_)))))))
 refine wpAny_bind (slicePart_none ?_)
 show wpAny _ _ (if ((1:Int)==0)=true then _ else _) _ _ s
 rw[if_neg (by decide)]
 refine wpAny_bind (slicePart_ pl (wpAny_bind (slicePart_ pu (wpAny_bind (wpAny_pure ?_)))))
 show wpAny _ _ (match Builtin.Slice.sliceAdjust lo hi 1 (n:Int) with | (lo,hi)=>pure (lo,(1:Int),Builtin.Slice.slicePlaces lo hi 1)) _ _ s
 rw[adjust_gen lo hi n]
 show wpAny _ _ (pure (((sIx n 0 lo:Nat):Int),(1:Int),Builtin.Slice.slicePlaces ((sIx n 0 lo:Nat):Int) ((sIx n n hi:Nat):Int) 1)) _ _ s
 rw[places_gen]
 exact wpAny_pure h
theorem pick_gen (xs:Array Value) (i k:Nat):((List.range k).filterMap fun (m:Nat)=>xs[((i:Int)+(m:Int) * 1).toNat]?).toArray=((xs.toList.drop i).take k).toArray:=by
 have e:(fun (m:Nat)=>xs[((i:Int)+(m:Int) * 1).toNat]?)=fun m=>xs[i+m]?:=by
  funext m
  have:((i:Int)+(m:Int) * 1).toNat=i+m:=by omega
  rw[this]
 rw[e]
 have:=pick_run xs i k
 rw[List.filterMap_map] at this
 have e2:((fun x=>xs[x]?) ∘ fun x=>i+x)=fun m=>xs[i+m]?:=rfl
 rw[e2] at this
 rw[this]
theorem getItem_tuple_cut {t sl:Addr}{items:Array Value}{vl vu:Value}{lo hi:Option Int}{Q:Value→Shared→Prop} (ht:IsTup s.heap t items) (hs:s.heap.IsSliceOf sl vl vu .none) (pl:IsPart vl lo) (pu:IsPart vu hi)
  (hw:¬ (sIx items.size 0 lo=0∧sIx items.size items.size hi=items.size))
  (h:Q (.ref s.heap.objs.size) { s with heap:=s.heap.push { cls:=.type "tuple",data:=.seq ((items.toList.drop (sIx items.size 0 lo)).take (sIx items.size items.size hi - sIx items.size 0 lo)).toArray } })
  (hsz:items.size≤sizeLine):wpAny (model prog w) A (getItem (.ref t) (.ref sl)) Q E s:=by
 have htake:sizeOk (.seq ((items.toList.drop (sIx items.size 0 lo)).take (sIx items.size items.size hi - sIx items.size 0 lo)).toArray):=by
  show ((items.toList.drop (sIx items.size 0 lo)).take (sIx items.size items.size hi - sIx items.size 0 lo)).toArray.size≤sizeLine
  rw[List.size_toArray,List.length_take,List.length_drop,Array.length_toList]
  omega
 have hj:sIx items.size items.size hi≤items.size:=sIx_le _ _ (Nat.le_refl _) hi
 obtain⟨os,hos,hcs,hds⟩:=id hs
 have hTs:s.TypeIs (.ref sl) "slice":=⟨os,hos,hcs⟩
 unfold getItem
 try with_reducible refine wpAny_holding ?_
 first | refine wpAny_bind (wpAny_pure ?_) | skip
 refine wpAny_bind (wpAny_sequenceKey ht.typeIs (by decide) ?_)
 refine wpAny_bind (wpAny_callSpecial?_slot (name:=Str.ofString "__getitem__") ht.typeIs PyProof.Rows.slot_tuple_getitem
  (wpAny_call_entry PyProof.Rows.slot_tuple_getitem ht.typeIs entry_tuple_getitem ?_ (args_tuple_getitem _ _)))
 show wpAny _ _ (Builtin.Tuple.tupleItemsOf (.ref t)>>=_) _ _ s
 refine wpAny_bind (tupleItemsOf_ ht ?_)
 refine wpAny_bind (wpAny_typeOf hTs ?_)
 rw[if_pos (by decide)]
 refine wpAny_bind (sliceApplied_gen hs pl pu ?_)
 have hno:¬ ((((sIx items.size 0 lo:Nat):Int)==0&&(1:Int)==1&&(sIx items.size items.size hi - sIx items.size 0 lo)==items.size)=true):=by
  intro q
  rw[Bool.and_eq_true,Bool.and_eq_true] at q
  have q1:((sIx items.size 0 lo:Nat):Int)=0:=eq_of_beq q.1.1
  have q2:sIx items.size items.size hi - sIx items.size 0 lo=items.size:=eq_of_beq q.2
  exact hw ⟨by omega,by omega⟩
 show wpAny _ _ (if (((sIx items.size 0 lo:Nat):Int)==0&&(1:Int)==1&&(sIx items.size items.size hi - sIx items.size 0 lo)==items.size)=true then _ else _) _ _ s
 rw[if_neg hno,pick_gen]
 first
  | exact wpAny_bind (m:=Builtin.Tuple.tupleExact _) (wpAny_newObj_type (wpAny_pure ⟨_,rfl,wpAny_pure h⟩) htake)
  | exact wpAny_bind (m:=Builtin.Tuple.tupleExact _) (wpAny_newObj_type (wpAny_bind (wpAny_pure (wpAny_pure ⟨_,rfl,wpAny_pure h⟩))) htake)
  | exact wpAny_bind (wpAny_bind (m:=Builtin.Tuple.tupleExact _) (wpAny_newObj_type (wpAny_pure (wpAny_pure ⟨_,rfl,wpAny_pure h⟩)) htake))
  | exact wpAny_bind (wpAny_bind (m:=Builtin.Tuple.tupleExact _) (wpAny_newObj_type (wpAny_pure ⟨_,rfl,wpAny_pure h⟩) htake))
end
end HT
namespace L2
open PySem PySem.Spec PyProof.Rows
abbrev TO:=St→Hp→(Option Int→Hp→Prop)→Prop
def PO (X:Cx) (e:Option Expr) (t:TO):Prop :=
 ∀ (pins:List (Addr×Obj)) (s:Shared) (σ:St) (H:Hp) (Q:Option Int→Hp→Prop),Inv X pins σ H s→t σ H Q →
  wpAny (model X.prog X.w) X.A (evalPart e X.env) (fun u s'=>∃ o H',Inv X pins σ H' s'∧IsPart u o∧Q o H') X.xe s
def tNoPart:TO:=fun _ H Q=>Q none H
def tPart (t:TE):TO:=fun σ H Q=>t σ H fun x H1=>∃ i,x=.int i∧Q (some i) H1
theorem intsAre_of {ns:List Int}:∀ {us:List Value},Vals (ns.map V.int) us→IntsAre us ns:=by
 induction ns with
 | nil=>intro us r;rw[List.map_nil] at r;cases r;exact .nil
 | cons n ns ih =>
  intro us r
  rw[List.map_cons] at r
  cases r with
  | cons r1 r2 =>
   obtain⟨t,e⟩:=r1
   subst e
   exact .cons n t (ih r2)
section
variable {X:Cx}{e:Expr}{te:TE}{lo hi:Option Expr}{tl th:TO}{pos p2:Pos}
theorem po_none:PO X none tNoPart:=by
 intro pins s σ H Q I h
 rw[evalPart_none]
 exact wpAny_pure ⟨none,H,I,.none,h⟩
theorem po_some (h:PE X e te):PO X (some e) (tPart te):=by
 intro pins s σ H Q I hw
 rw[evalPart_some]
 refine thn (h pins s σ H _ I hw) fun u s1 ⟨x,H1,I1,r1,q1⟩=>?_
 obtain⟨i,rfl,q⟩:=q1
 obtain⟨t,rfl⟩:=r1
 exact⟨some i,H1,I1,.int i t,q⟩
def SlR (X:Cx) (r:V→Option Int→Option Int→Hp→VK→Prop):Prop :=
 ∀ (pins:List (Addr×Obj)) (s:Shared) (σ:St) (H:Hp) (x:V) (v vl vu:Value) (lo hi:Option Int) (sl:Addr) (Q:VK),Inv X pins σ H s→RelV x v→s.heap.IsSliceOf sl vl vu .none→IsPart vl lo→IsPart vu hi→r x lo hi H Q →
  ∃ T id,typeLookup (.type T) "__getitem__"=pure (some (.builtin id))∧s.TypeIs v T∧wpAny (model X.prog X.w) X.A (getItem v (.ref sl)) (EP X pins σ Q) X.xe s
def tSl (r:V→Option Int→Option Int→Hp→VK→Prop) (te:TE) (tl th:TO):TE:=fun σ H Q=>te σ H fun x H1=>tl σ H1 fun l H2=>th σ H2 fun u H3=>r x l u H3 Q
theorem pe_slice {r:V→Option Int→Option Int→Hp→VK→Prop} (hr:SlR X r) (he:PE X e te) (hl:PO X lo tl) (hu:PO X hi th):PE X (.Subscript e (.Slice lo hi none p2) pos) (tSl r te tl th):=by
 intro pins s σ H Q I h
 refine Subscript_ (thn (he pins s σ H _ I h) fun v s1 ⟨x,H1,I1,r1,q1⟩=>?_)
 refine wpAny_Slice (thn (hl pins s1 σ H1 _ I1 q1) fun vl s2 ⟨l,H2,I2,pl,q2⟩=>thn (hu pins s2 σ H2 _ I2 q2) fun vu s3 ⟨u,H3,I3,pu,q3⟩=>?_)
 rw[evalPart_none]
 refine wpAny_pure ?_
 have I4:Inv X pins σ H3 { s3 with heap:=s3.heap.push { cls:=.type "slice",data:=.fields #[vl,vu,.none] } }:=I3.kept (t':=s3.toks) fun b ob q=>Heap.get?_push_of_some _ q
 obtain⟨T,id,hT,ht,hg⟩:=hr pins { s3 with heap:=s3.heap.push { cls:=.type "slice",data:=.fields #[vl,vu,.none] } } σ H3 x v vl vu l u s3.heap.objs.size Q I4 r1 (Heap.IsSliceOf.new ..) pl pu q3
 show wpAny (model X.prog X.w) X.A (subscriptTail e (.Slice lo hi none p2) v (.ref s3.heap.objs.size)) (EP X pins σ Q) X.xe { s3 with heap:=s3.heap.push { cls:=.type "slice",data:=.fields #[vl,vu,.none] } }
 exact tail_any (ops:=[.ref s3.heap.objs.size,v]) ht hT hg (by with_unfolding_all rfl)
def cutV (xs:List V) (lo hi:Option Int):List V:=(xs.drop (HT.sIx xs.length 0 lo)).take (HT.sIx xs.length xs.length hi - HT.sIx xs.length 0 lo)
theorem cutV_length (xs:List V) (lo hi:Option Int):(cutV xs lo hi).length≤xs.length:=by
 unfold cutV
 rw[List.length_take,List.length_drop]
 omega
def rSlT (K:PySem.W.Frag):V→Option Int→Option Int→Hp→VK→Prop:=fun x lo hi H Q=>∃ a xs,x=.ref a∧SqT K H a xs ∧
 ¬ (HT.sIx xs.length 0 lo=0∧HT.sIx xs.length xs.length hi=xs.length)∧∀ p,H p=none→Q (.ref p) (upd H p (.tup (cutV xs lo hi)))
theorem sl_tup:SlR X (rSlT X.K):=by
 intro pins s σ H x v vl vu lo hi sl Q I rx hs pl pu h
 obtain⟨a,xs,rfl,hx,hw,q⟩:=h
 cases rx
 obtain⟨its,r,ht,hz⟩:=I.tuple hx
 have hlen:its.toArray.size=xs.length:=by rw[List.size_toArray];exact r.length.symm
 refine⟨"tuple",_,PyProof.Rows.slot_tuple_getitem.lookup,ht.typeIs,?_⟩
 refine HT.getItem_tuple_cut ht hs pl pu (by rw[hlen];exact hw) ?_ (by rw[hlen];exact hz)
 rw[hlen]
 refine⟨.ref s.heap.objs.size,_,I.laid (t':=s.toks) (o:=.tup (cutV xs lo hi)) (fun b ob q=>Heap.get?_push_of_some _ q) (Nat.le_refl _) ?_,rfl,q _ (I.hok.fresh (Nat.le_refl _))⟩
 exact⟨Nat.le_trans (cutV_length xs lo hi) hz,_,(r.drop (HT.sIx xs.length 0 lo)).take (HT.sIx xs.length xs.length hi - HT.sIx xs.length 0 lo),IsTup.new _ _⟩
theorem Vals.nil_iff {xs:List V}{us:List Value} (r:Vals xs us):us=[] ↔ xs=[]:=by
 cases r with
 | nil=>simp
 | cons _ _=>simp
end
end L2
namespace L2
open PySem PySem.Spec PyProof.Rows
def ixN (n:Nat) (i:Int):Option Nat:=if 0≤i then (if i<n then some i.toNat else none) else if -(n:Int)≤i then some (i+n).toNat else none
def atI {α:Type} (xs:List α) (i:Int):Option α:=(ixN xs.length i).bind fun j=>xs[j]?
theorem ixN_seq {n:Nat}{i:Int}{j:Nat} (h:ixN n i=some j):seqIndex? i n=some j∧j<n∧-(n:Int)≤i∧i<n:=by
 unfold ixN at h
 by_cases h0:0≤i
 ·rw[if_pos h0] at h
  by_cases h1:i<n
  ·rw[if_pos h1] at h
   have e:i.toNat=j:=Option.some.inj h
   exact⟨by rw[seqIndex_of h0 h1,e],by omega,by omega,h1⟩
  ·rw[if_neg h1] at h;cases h
 ·rw[if_neg h0] at h
  by_cases h1:-(n:Int)≤i
  ·rw[if_pos h1] at h
   have e:(i+n).toNat=j:=Option.some.inj h
   exact⟨by rw[seqIndex_neg (by omega) h1,e],by omega,h1,by omega⟩
  ·rw[if_neg h1] at h;cases h
theorem atI_get {α:Type}{xs:List α}{i:Int}{v:α} (h:atI xs i=some v):∃ j,seqIndex? i xs.length=some j∧xs[j]?=some v∧j<xs.length∧-(xs.length:Int)≤i∧i<xs.length:=by
 unfold atI at h
 cases e:ixN xs.length i with
 | none=>rw[e] at h;cases h
 | some j =>
  rw[e] at h
  obtain⟨h1,h2,h3,h4⟩:=ixN_seq e
  exact⟨j,h1,h,h2,h3,h4⟩
def PlainIx (b:Expr):Prop:=∀ o i,subscripted b false o i=operate [o,i] (getItem o i)
def IxR (X:Cx) (r:R2):Prop :=
 ∀ (value slice:Expr) (pins:List (Addr×Obj)) (s:Shared) (σ:St) (H:Hp) (x y:V) (v u:Value) (Q:VK),Inv X pins σ H s→RelV x v→RelV y u→r x y H Q →
  subscripted slice false v u=operate [v,u] (getItem v u)→wpAny (model X.prog X.w) X.A (subscriptTail value slice v u) (EP X pins σ Q) X.xe s
def MtR (X:Cx) (id:String) (r:V→List V→Hp→VK→Prop):Prop :=
 ∀ (pins:List (Addr×Obj)) (s:Shared) (σ:St) (H:Hp) (x:V) (xs:List V) (v:Value) (us:List Value) (Q:VK),Inv X pins σ H s→RelV x v→Vals xs us→r x xs H Q →
  wpAny (model X.prog X.w) X.A (call (.builtin id) (v::us)) (EP X pins σ Q) X.xe s
section
variable {X:Cx}{a b:Expr}{ta tb:TE}{pos:Pos}
theorem pe_ix {r:R2} (hr:IxR X r) (ha:PE X a ta) (hb:PE X b tb) (hs:PlainIx b):PE X (.Subscript a b pos) (tOp r ta tb):=by
 intro pins s σ H Q I h
 exact Subscript_ (binT ha hb I h fun v u s2 x y H2 I2 rx ry q=>hr a b pins s2 σ H2 x y v u Q I2 rx ry q (hs _ _))
def rIxL (K:PySem.W.Frag):R2:=fun x y H Q=>∃ p xs i v,x=.ref p∧y=.int i∧SqL K H p xs∧atI xs i=some v∧Q v H
def rIxT (K:PySem.W.Frag):R2:=fun x y H Q=>∃ p xs i v,x=.ref p∧y=.int i∧SqT K H p xs∧atI xs i=some v∧Q v H
def rIxS:R2:=fun x y H Q=>∃ z i c,x=.str z∧y=.int i∧z.length≤sizeLine∧atI z.cps.toList i=some c∧Q (.str ⟨#[c]⟩) H
theorem ix_list:IxR X (rIxL X.K):=by
 intro value slice pins s σ H x y v u Q I rx ry h hs
 obtain⟨p,xs,i,z,rfl,rfl,hq,he,q⟩:=h
 cases rx
 obtain⟨t,rfl⟩:=ry
 obtain⟨its,r,pl,hz⟩:=I.list hq
 obtain⟨j,h1,h2,h3,h4,h5⟩:=atI_get he
 obtain⟨w,ew,rw'⟩:=r.get h2
 have hl:=r.length
 have hn:=line63
 have fin:EP X pins σ Q w s:=⟨z,H,I,rw',q⟩
 by_cases h0:0≤i
 ·have hj:i.toNat=j:=by
   rw[seqIndex_of h0 h5] at h1
   exact Option.some.inj h1
  exact item_listR pl.isList h0 (by omega) (by rw[hj];simpa using ew) fin hs
 ·have hj:(i+(its.toArray.size:Int)).toNat=j:=by
   rw[seqIndex_neg (by omega) h4] at h1
   rw[List.size_toArray,← hl]
   exact Option.some.inj h1
  exact subscriptTail_builtinR (x:=w) pl.isList.typeIs slot_list_getitem.lookup
   (wpAny_getItem_list_neg (Q:=fun r s'=>r=w∧EP X pins σ Q r s') pl.isList (by omega) (by rw[List.size_toArray]<;>omega) (by omega) (by rw[hj];simpa using ew) ⟨rfl,fin⟩) hs
theorem ix_tup:IxR X (rIxT X.K):=by
 intro value slice pins s σ H x y v u Q I rx ry h hs
 obtain⟨p,xs,i,z,rfl,rfl,hq,he,q⟩:=h
 cases rx
 obtain⟨t,rfl⟩:=ry
 obtain⟨its,r,pl,hz⟩:=I.tuple hq
 obtain⟨j,h1,h2,h3,h4,h5⟩:=atI_get he
 obtain⟨w,ew,rw'⟩:=r.get h2
 have hl:=r.length
 have hn:=line63
 have fin:EP X pins σ Q w s:=⟨z,H,I,rw',q⟩
 exact subscriptTail_builtinR (x:=w) pl.typeIs slot_tuple_getitem.lookup
  (getItem_tuple (j:=j) (Q:=fun r s'=>r=w∧EP X pins σ Q r s') pl (by omega) (by omega) (by rw[List.size_toArray,← hl];exact h1) (by simpa using ew) ⟨rfl,fin⟩) hs
theorem ix_str:IxR X rIxS:=by
 intro value slice pins s σ H x y v u Q I rx ry h hs
 obtain⟨z,i,c,rfl,rfl,hz,he,q⟩:=h
 obtain⟨t,rfl⟩:=rx
 obtain⟨t',rfl⟩:=ry
 obtain⟨j,h1,h2,h3,h4,h5⟩:=atI_get he
 have hl:z.cps.toList.length=z.length:=by simp[Str.length]
 rw[hl] at h1 h4 h5
 have hn:=line63
 exact tail_any (typeIs_str s z t) slot_str_getitem.lookup (getItem_str (c:=c) (by
  have e1:decide (i < -(2 ^ 63:Int))=false:=decide_eq_false (by omega)
  have e2:decide (i ≥ 2 ^ 63)=false:=decide_eq_false (by omega)
  rw[e1,e2,Bool.or_false]) (by rw[h1];simpa using h2) ⟨.str ⟨#[c]⟩,H,I.tok _,⟨_,rfl⟩,q⟩) hs
theorem slice_bounds (lo hi:Option Int) (n:Nat):(sliceBounds lo hi none n).1=((HT.sIx n 0 lo:Nat):Int)∧(sliceBounds lo hi none n).2.1=((HT.sIx n n hi:Nat):Int)∧(sliceBounds lo hi none n).2.2=1:=by
 refine⟨?_,?_,rfl⟩
 ·cases lo with
  | none=>simp[sliceBounds,HT.sIx]
  | some i =>
   simp only[sliceBounds,HT.sIx,Option.getD_none,show (1:Int) > 0 by decide,if_true]
   by_cases h:i<0
   ·simp only[h,if_true]<;>omega
   ·simp only[h,if_false]<;>omega
 ·cases hi with
  | none=>simp[sliceBounds,HT.sIx]
  | some i =>
   simp only[sliceBounds,HT.sIx,Option.getD_none,show (1:Int) > 0 by decide,if_true]
   by_cases h:i<0
   ·simp only[h,if_true]<;>omega
   ·simp only[h,if_false]<;>omega
theorem slicePick_cut (its:List Value) (lo hi:Option Int):slicePick its.toArray lo hi none=((its.drop (HT.sIx its.length 0 lo)).take (HT.sIx its.length its.length hi - HT.sIx its.length 0 lo)).toArray:=by
 obtain⟨h1,h2,h3⟩:=slice_bounds lo hi its.toArray.size
 unfold slicePick
 rw[h1,h2,h3]
 simp only[sliceRange_one,pick_run,List.size_toArray]<;>rfl
def rSlL (K:PySem.W.Frag):V→Option Int→Option Int→Hp→VK→Prop:=fun x lo hi H Q=>∃ a xs,x=.ref a∧SqL K H a xs∧∀ p,H p=none→Q (.ref p) (upd H p (.lst (cutV xs lo hi)))
theorem sl_list:SlR X (rSlL X.K):=by
 intro pins s σ H x v vl vu lo hi sl Q I rx hs pl pu h
 obtain⟨a,xs,rfl,hx,q⟩:=h
 cases rx
 obtain⟨its,r,ht,hz⟩:=I.list hx
 have hlen:=r.length
 refine⟨"list",_,slot_list_getitem.lookup,ht.isList.typeIs,?_⟩
 refine wpAny_getItem_list_slice ht.isList hs pl pu .none (by simp) ?_ (by rw[List.size_toArray]<;>omega)
 rw[slicePick_cut,← hlen]
 refine⟨.ref s.heap.objs.size,_,I.laid (t':=s.toks) (o:=.lst (cutV xs lo hi)) (fun b ob q=>Heap.get?_push_of_some _ q) (Nat.le_refl _) ?_,rfl,q _ (I.hok.fresh (Nat.le_refl _))⟩
 exact⟨Nat.le_trans (cutV_length xs lo hi) hz,_,0,(r.drop (HT.sIx xs.length 0 lo)).take (HT.sIx xs.length xs.length hi - HT.sIx xs.length 0 lo),Heap.get?_push_size _ rfl⟩
theorem call_len_seq:CallR X (.builtin "len") (fun xs H Q=>∃ p ys,xs=[.ref p]∧(SqL X.K H p ys∨SqT X.K H p ys)∧Q (.int ys.length) H):=by
 intro pins s σ H xs us Q I r h
 obtain⟨p,ys,rfl,hq,q⟩:=h
 obtain⟨u,rfl,rx⟩:=vals1 r
 cases rx
 have hn:=line63
 rcases hq with hq | hq
 ·obtain⟨its,r',pl,hz⟩:=I.list hq
  have hlen:=r'.length
  exact Calls.call_len_list pl.isList (by simp only[List.size_toArray]<;>omega) ⟨.int ys.length,H,I.tok _,⟨s.toks+1,by rw[List.size_toArray,hlen]⟩,q⟩
 ·obtain⟨its,r',pl,hz⟩:=I.tuple hq
  have hlen:=r'.length
  exact len_tuple pl (by simp only[List.size_toArray]<;>omega) ⟨.int ys.length,H,I.tok _,⟨s.toks+1,by rw[List.size_toArray,hlen]⟩,q⟩
theorem call_len_str:CallR X (.builtin "len") (fun xs H Q=>∃ z,xs=[.str z]∧z.length≤sizeLine∧Q (.int z.length) H):=by
 intro pins s σ H xs us Q I r h
 obtain⟨z,rfl,hz,q⟩:=h
 obtain⟨u,rfl,t,rfl⟩:=vals1 r
 have hn:=line63
 exact len_str (by omega) ⟨.int z.length,H,I.tok _,⟨_,rfl⟩,q⟩
theorem CallR.or {f:Value}{r r':List V→Hp→VK→Prop} (h:CallR X f r) (h':CallR X f r'):CallR X f (fun xs H Q=>r xs H Q∨r' xs H Q):=by
 intro pins s σ H xs us Q I rs q
 rcases q with q | q
 ·exact h pins s σ H xs us Q I rs q
 ·exact h' pins s σ H xs us Q I rs q
theorem call_list_of:CallR X (.type "list") (fun xs H Q=>∃ p ys,xs=[.ref p]∧(SqL X.K H p ys∨SqT X.K H p ys)∧∀ l,H l=none→Q (.ref l) (upd H l (.lst ys))):=by
 intro pins s σ H xs us Q I r h
 obtain⟨p,ys,rfl,hq,q⟩:=h
 obtain⟨u,rfl,rx⟩:=vals1 r
 cases rx
 have fin:∀ (its:List Value),Vals ys its→ys.length≤sizeLine→∀ (h':Heap) (c':Nat),(∀ b o',s.heap.get? b=some o'→h'.get? b=some o') →
   h'.get? s.heap.objs.size=some { cls:=.type "list",dict:=none,data:=.seq its.toArray c',slots:=#[] }→EP X pins σ Q (.ref s.heap.objs.size) { s with heap:=h' }:=fun its r' hz h' c' kp e =>
  ⟨.ref s.heap.objs.size,_,I.laid (t':=s.toks) kp (Nat.le_refl _) (show ObjOk X.prog X.w _ h' _ (.lst ys) from ⟨hz,its,c',r',e⟩),rfl,q _ (I.hok.fresh (Nat.le_refl _))⟩
 rcases hq with hq | hq
 ·obtain⟨its,r',pl,hz⟩:=I.list hq
  have hlen:=r'.length
  obtain⟨o,ho,hc,n,hd⟩:=pl.isList
  exact call_list_seq p (.inl rfl) ho hc hd (fun h' c' kp e=>fin its r' hz h' c' kp e) (by simp only[List.size_toArray]<;>omega)
 ·obtain⟨its,r',pl,hz⟩:=I.tuple hq
  have hlen:=r'.length
  obtain⟨o,ho,hc,n,hd⟩:=pl
  exact call_list_seq p (.inr rfl) ho hc hd (fun h' c' kp e=>fin its r' hz h' c' kp e) (by simp only[List.size_toArray]<;>omega)
theorem call_tuple_of:CallR X (.type "tuple") (fun xs H Q=>∃ p ys,xs=[.ref p]∧((SqL X.K H p ys∧∀ l,H l=none→Q (.ref l) (upd H l (.tup ys)))∨(SqT X.K H p ys∧Q (.ref p) H))):=by
 intro pins s σ H xs us Q I r h
 obtain⟨p,ys,rfl,h⟩:=h
 obtain⟨u,rfl,rx⟩:=vals1 r
 cases rx
 rcases h with ⟨hq,q⟩ | ⟨hq,q⟩
 ·obtain⟨its,r',pl,hz⟩:=I.list hq
  have hlen:=r'.length
  refine call_tuple_list pl.isList (fun h' kp=>?_) (by simp only[List.size_toArray]<;>omega)
  have I1:Inv X pins σ H { s with heap:=h' }:=I.kept (t':=s.toks) kp
  have I2:Inv X pins σ (upd H h'.objs.size (.tup ys)) { s with heap:=h'.push { cls:=.type "tuple",data:=.seq its.toArray } } :=
   I1.laid (t':=s.toks) (fun b o e=>Heap.get?_push_of_some _ e) (Nat.le_refl _) (show ObjOk X.prog X.w _ _ _ (.tup ys) from ⟨hz,its,r',IsTup.new _ _⟩)
  exact⟨.ref h'.objs.size,_,I2,rfl,q _ (I1.hok.fresh (Nat.le_refl _))⟩
 ·obtain⟨its,r',pl,hz⟩:=I.tuple hq
  exact call_tuple_same pl ⟨.ref p,H,I,rfl,q⟩
def tyV (K:PySem.W.Frag) (T:String) (x:V) (H:Hp):Prop:=match x with
 | .str _=>T="str"
 | .int _=>T="int"
 | .ref p=>(T="list"∧∃ xs,SqL K H p xs)∨(T="tuple"∧∃ o,K.lookup p=some o∧o.cls=.type "tuple"∧o.dict=none) ∨
   (T="dict"∧((∃ kvs,H p=some (.dK kvs))∨∃ kvs,H p=some (.dT kvs)))∨(T="set"∧∃ S n,H p=some (.set S n))
 | _=>False
theorem tyV_is {pins:List (Addr×Obj)}{σ:St}{H:Hp}{s:Shared}{T:String}{x:V}{v:Value} (I:Inv X pins σ H s) (r:RelV x v) (ty:tyV X.K T x H) :
  s.TypeIs v T∧∀ a,v=.ref a→∃ ob,s.heap.get? a=some ob∧ob.dict=none:=by
 cases x with
 | str z =>
  obtain⟨t,rfl⟩:=r
  cases (show T="str" from ty)
  exact⟨typeIs_str s z t,fun _ e=>nomatch e⟩
 | int i =>
  obtain⟨t,rfl⟩:=r
  cases (show T="int" from ty)
  exact⟨typeIs_int s i t,fun _ e=>nomatch e⟩
 | ref p =>
  cases r
  rcases ty with ⟨rfl,xs,hq⟩ | ⟨rfl,o,hk,hc,hd⟩ | ⟨rfl,hk⟩ | ⟨rfl,S,n,hk⟩
  ·obtain⟨its,_,pl,_⟩:=I.list hq
   refine⟨pl.isList.typeIs,fun a e=>?_⟩
   cases e
   obtain⟨o,n,e,c,hd,_⟩:=pl
   exact⟨o,e,hd⟩
  ·refine⟨⟨o,I.kIn p o hk,hc⟩,fun a e=>?_⟩
   cases e
   exact⟨o,I.kIn _ o hk,hd⟩
  ·have z:∃ o,s.heap.get? p=some o∧o.ExactDict:=by
    rcases hk with ⟨kvs,hk⟩ | ⟨kvs,hk⟩
    ·obtain⟨_,_,_,_,o,_,_,e,ex,_⟩:=I.hok p _ hk
     exact⟨o,e,ex⟩
    ·obtain⟨_,_,_,_,o,_,_,e,ex,_⟩:=I.hok p _ hk
     exact⟨o,e,ex⟩
   obtain⟨o,e,ex⟩:=z
   refine⟨⟨o,e,ex.1⟩,fun a e2=>?_⟩
   cases e2
   exact⟨o,e,ex.2.1⟩
  ·obtain⟨o,_,_,_,e,ex,_⟩:=I.hok p _ hk
   refine⟨⟨o,e,ex.1⟩,fun a e2=>?_⟩
   cases e2
   exact⟨o,e,ex.2.1⟩
 | _=>exact False.elim ty
def tBM (K:PySem.W.Frag) (T:String) (r:V→List V→Hp→VK→Prop) (to:TE) (t:TA):TE:=fun σ H Q=>to σ H fun x H1=>tyV K T x H1∧t σ H1 fun xs H2=>r x xs H2 Q
variable {o e:Expr}{es:List Expr}{to:TE}{t:TA}{name:Str}{apos cpos:Pos}{T id:String}{r:V→List V→Hp→VK→Prop}
theorem pe_bm (pa:PlainAttrs T) (slot:Slot T name id) (hty:typeOf (.builtin id)=pure (.type "method_descriptor")) (hm:MtR X id r) (ho:PE X o to) (ha:PA X (e::es) t)
  (hbase:attributeBase o name X.env (eval o X.env)=eval o X.env:=by rfl)
  (hfew:((backTo cpos (starEach (e::es) X.env)).all (fun x=>!x.1)&&(backToKw cpos (keywordEach [] X.env)).all (fun x=>x.1.isSome)
   && decide ((e::es).length+([]:List Keyword).length+(if ([]:List Keyword).isEmpty then 0 else 1)<30))=true:=by rfl)
  (hline:(apos.endLine==cpos.line)=true:=by rfl) (hs:starEach (e::es) X.env=(false,eval e X.env)::starEach es X.env:=by rfl) (hplain:(backTo cpos (starEach es X.env)).any (·.1)=false:=by rfl) :
  PE X (.Call (.Attribute o name apos) (e::es) [] cpos) (tBM X.K T r to t):=by
 intro pins s σ H Q I h
 refine wpAny_Call_method_late hbase hfew hline rfl (thn (ho pins s σ H _ I h) fun v s1 ⟨x,H1,I1,r1,ty,q1⟩=>?_)
 obtain⟨h1,h2⟩:=tyV_is I1 r1 ty
 refine⟨T,id,pa,slot,hty,h1,h2,?_⟩
 have hA:=ha cpos pins s1 σ H1 _ I1 q1
 rw[hs] at hA ⊢
 refine Calls.callWith_builtin (by show (false||(backTo cpos (starEach es X.env)).any (·.1))=false;rw[hplain]<;>rfl) (Calls.evalArgs_plain ?_)
 exact thn hA fun us s2 ⟨vs,H2,I2,r2,q2⟩=>hm pins s2 σ H2 x vs v us Q I2 r1 r2 q2
end
end L2
namespace L2
open PySem PySem.Spec PyProof.Rows
def MtM (X:Cx) (id:String) (r:V→List V→Hp→VK→Prop):Prop :=
 ∀ (pins:List (Addr×Obj)) (s:Shared) (σ:St) (H:Hp) (x:V) (xs:List V) (v:Value) (us:List Value) (Q:VK),Inv X pins σ H s→RelV x v→Vals xs us→r x xs H Q →
  wpAny (model X.prog X.w) X.A (call (.builtin id) (v::us)) (EP X pins σ Q) X.xe s
theorem Vals.one:∀ {x:V}{us:List Value},Vals [x] us→∃ u,us=[u]∧RelV x u
 | _,_,.cons r .nil=>⟨_,rfl,r⟩
theorem Vals.rep {xs:List V}{us:List Value} (h:Vals xs us):∀ k:Nat,Vals (List.replicate k xs).flatten (List.replicate k us).flatten
 | 0=>.nil
 | k+1=>by
  rw[List.replicate_succ,List.replicate_succ,List.flatten_cons,List.flatten_cons]
  exact Vals.append h (Vals.rep h k)
theorem foldl_rep (its:List Value):∀ (k:Nat) (acc:List Value),
  List.foldl (fun x1 x2=>x1++x2) acc.toArray (List.replicate k its.toArray)=(acc++(List.replicate k its).flatten).toArray
 | 0,acc=>by simp
 | k+1,acc=>by
  have e:acc.toArray++its.toArray=(acc++its).toArray:=by simp
  have e2:(acc++its)++(List.replicate k its).flatten=acc++(List.replicate (k+1) its).flatten:=by
   rw[List.replicate_succ,List.flatten_cons,List.append_assoc]
  rw[← e2,← foldl_rep its k (acc++its),← e,List.replicate_succ,List.foldl_cons]
section
variable {X:Cx}{pins:List (Addr×Obj)}{σ:St}{H:Hp}{s:Shared}{l b:Addr}{xs ys zs:List V}
theorem Inv.lset {its its':List Value}{n:Nat}{f:Array Value→Array Value}{t':Nat} (I:Inv X pins σ H s) (hH:H l=some (.lst xs))
  (e:s.heap.get? l=some { cls:=.type "list",data:=.seq its.toArray n }) (hf:f its.toArray=its'.toArray) (hv:Vals ys its') (hz:ys.length≤sizeLine) :
  Inv X pins σ (upd H l (.lst ys)) { s with heap:=s.heap.update l (Obj.mapSeq f),toks:=t' }:=by
 have q:=PySem.IsL.update e f
 rw[hf] at q
 refine I.write (x:=l) (e:=l) (by rw[hH];exact trivial) (.inl rfl) (fun b' u hb hu=>(Heap.get?_update_other s.heap (Obj.mapSeq f) (Ne.symm hb)).trans hu) ⟨_,q⟩ ?_
 exact⟨hz,its',_,hv,q⟩
theorem Inv.lnew {its:List Value}{t':Nat} (I:Inv X pins σ H s) (hv:Vals ys its) (hz:ys.length≤sizeLine) :
  Inv X pins σ (upd H s.heap.objs.size (.lst ys)) { s with heap:=s.heap.push { cls:=.type "list",data:=.seq its.toArray },toks:=t' } :=
 I.laid (fun _ _ q=>Heap.get?_push_of_some _ q) (Nat.le_refl _) ⟨hz,its,0,hv,Heap.get?_push_size _ rfl⟩
theorem Inv.fresh (I:Inv X pins σ H s):H s.heap.objs.size=none:=I.hok.fresh (Nat.le_refl _)
theorem Inv.lstM (I:Inv X pins σ H s) (hH:H l=some (.lst xs)):xs.length≤sizeLine∧∃ (its:List Value) (n:Nat),Vals xs its∧xs.length=its.length∧s.heap.get? l=some { cls:=.type "list",data:=.seq its.toArray n }:=by
 obtain⟨z,its,n,r,e⟩:=I.hok l _ hH
 exact⟨z,its,n,r,r.length,e⟩
theorem notLongL {n:Nat} (h:n≤sizeLine):Builtin.List.listTooLong n=false:=by
 unfold Builtin.List.listTooLong
 exact decide_eq_false (by omega)
end
section
variable {X:Cx}
def rAppend:V→List V→Hp→VK→Prop:=fun x vs H Q=>∃ l xs y,x=.ref l∧vs=[y]∧H l=some (.lst xs)∧xs.length<sizeLine∧Q .non (upd H l (.lst (xs++[y])))
theorem mt_append:MtM X "list.append" rAppend:=by
 intro pins s σ H x vs v us Q I rx rv h
 obtain⟨l,xs,y,rfl,rfl,hH,hz,q⟩:=h
 cases rx
 obtain⟨u,rfl,ru⟩:=rv.one
 obtain⟨z,its,n,r,hl,e⟩:=I.lstM hH
 refine call_meets F.slot_list_append ⟨_,e,rfl⟩ F.entry_list_append (F.args_list_append_2 _ _) (PySem.list_append l its.toArray n u (by rw[List.size_toArray];omega)) ⟨e,?_⟩
 refine⟨.non,_,I.lset (its':=its++[u]) hH e (by simp) (r.append (.cons ru .nil)) ?_,rfl,q⟩
 rw[List.length_append,List.length_singleton]
 omega
theorem len_rep {α:Type} (xs:List α) (k:Nat):(List.replicate k xs).flatten.length=k * xs.length:=by
 induction k with
 | zero=>simp
 | succ k ih=>rw[List.replicate_succ,List.flatten_cons,List.length_append,ih,Nat.succ_mul,Nat.add_comm]
end
end L2
namespace Att
open PySem PySem.W PySem.Calls PyProof.Rows
theorem ints_of_wellAll {P:Params}{h:Heap}:∀ (ns:List Int) (vs:List Value),WellAll P h vs (ns.map WData.int)→IntsAre vs ns:=by
 intro ns
 induction ns with
 | nil =>
  intro vs w
  rw[List.map_nil] at w
  cases w
  exact .nil
 | cons n ns ih =>
  intro vs w
  rw[List.map_cons] at w
  cases w with
  | cons a b =>
   cases a
   exact .cons _ _ (ih _ b)
theorem script_of {l:OpenLaw}{n:Nat} (hn:l.most=some n) {P:Params}{h:Heap}{args:List WData}{vals:List Value}
  (hpre:l.row.toRowW.claim.pre args=true) (hwl:WellAll P h vals args) :
  ∃ a vs ns,vals=[Value.ref a]∧args=[WData.list (ns.map WData.int)]∧h.get? a=some { cls:=.type "list",data:=.seq vs.toArray }∧IntsAre vs ns∧ns.length≤n:=by
 have hsh:WShape.hasAll [] args [.list .int]=true:=(pre_splitW hpre).1
 have hc:l.pre.holds [] { args:=args }=true:=(pre_splitW hpre).2
 obtain⟨d,r,rfl,h1,h2⟩:=hasAllW_cons hsh
 obtain rfl:=hasAllW_nil h2
 obtain⟨xs,rfl,h3⟩:=hasW_list h1
 obtain⟨ns,rfl⟩:=items_int h3
 have hlen:ns.length≤n:=by
  unfold OpenLaw.pre at hc
  have h4:(WTm.not (.lt (.lit (.int (n:Int))) (.len (.arg 0)))).holds [] { args:=[.list (ns.map .int)] }=true:=by
   have h4:=(holds_andW hc).1
   rw[hn] at h4
   exact h4
  have h5:=condW_of h4 (w_not (w_lt w_lit (w_len_list (w_arg rfl))))
  rw[List.length_map] at h5
  refine Nat.le_of_not_lt fun q=>?_
  have q':(n:Int)<((ns.length:Nat):Int):=by omega
  first
   | (rw[decide_eq_true q'] at h5;exact absurd h5 (by decide))
   | (simp at h5;omega)
 cases hwl with
 | cons w1 w2 =>
  cases w2
  cases w1 with
  | list ho hall=>exact⟨_,_,ns,rfl,rfl,ho,ints_of_wellAll ns _ hall,hlen⟩
theorem post_true (l:OpenLaw) (args:List WData):l.row.toRowW.claim.post args (.bool true) args=true :=
 postW_of (r:=l.row.toRowW) (X:=(true==true))
  (show WShape.has [] (.bool true) .bool=true by first | rfl | decide | simp[WShape.has,WShape.arms,WShape.armsAll])
  (show (WTm.eq .res (.lit (.bool true))).value [] { args:=args,res:=some (.bool true),after:=args }=some (.bool (true==true)) from w_eq_bool (w_res rfl) w_lit) rfl
theorem attach_call {l:OpenLaw}{n:Nat}{q:Program}{loose:List Str}{XP:(Str→Option Value)→Heap→Prop}{YP:World→Heap→Prop}{d:DefRec}
  (hn:l.most=some n) (hdf:d.params.defaults=[])
  (call:∀ (w:World) (s₀ s₁:Shared) (mg mb:Str→Option Value) (fa:Addr) (o:Obj) (pm cd doc:Value) (a:Addr) (vs:List Value) (ns:List Int),
   Ground q loose [] XP w s₀ mg mb s₁.heap→YP w s₁.heap →
   s₁.heap.get? fa=some o→o.data=.func (docDef d.name d.params d.body d.scope pm cd doc)→s₁.heap.CodeRec cd d.name→mg d.name=some (.ref fa) →
   s₁.heap.get? a=some { cls:=.type "list",data:=.seq vs.toArray }→IntsAre vs ns→ns.length≤n→s₁.gens=#[] →
   codeAny (model l.prog w) callerA (.call (.ref fa) ⟨[.ref a],[]⟩) (fun r s'=>r=.ok (.ret (.bool true))∧OldK s₁.heap s'.heap∧s'.os=s₁.os∧AllBare s'.gens) s₁) :
  WalkO q loose XP YP l.row.toRowW d [] (fun f vs=>PySem.call f vs):=by
 intro w s₀ s₁ mg mb G Y fa o pm cd doc dV kV ho hd hcd hD hmg hg args vals as hpre hlay hrd hwl hlo
 obtain rfl:dV=.none:=Dflts.none hD hdf
 obtain rfl:kV=.none:=Dflts.noKw hD
 obtain⟨a,vs,ns,rfl,rfl,hobj,hints,hlen⟩:=script_of hn hpre hwl
 refine enter_call (codeAny_mono (call w s₀ s₁ mg mb fa o pm cd doc a vs ns G Y ho (fd_plain hd) hcd hmg hobj hints hlen hg) fun r s' hq=>?_)
 obtain⟨rfl,h2,h3,h4⟩:=hq
 exact⟨.inl ⟨.bool true,.bool true,[],rfl,fun _=>rfl,.bool true,post_true l _,fun _=>⟨List.Pairwise.nil,fun _ hm=>(nomatch hm)⟩⟩,h2,h3,h4⟩
end Att
namespace L2
open PySem PySem.Spec PyProof.Rows
theorem vals_ints:∀ {vs:List Value}{ns:List Int},IntsAre vs ns→Vals (ns.map V.int) vs
 | _,_,.nil=>.nil
 | _,_,.cons n t h=>.cons ⟨t,rfl⟩ (vals_ints h)
def Only (H:Hp):Prop:=∀ b,H b=none∨∃ o xs,H b=some (.frz o (.lst xs))
theorem law_call {P:Program}{w:World}{K:PySem.W.Frag}{mg mb:Str→Option Value}{CX:CXT}{k:Nat}{fa a:Addr}{fd:FuncData}{x:Str}{sp:Sp}{s₁:Shared}{vs:List Value}{ns:List Int}
  (KX:K.In s₁.heap) (hns:s₁.heap.Ns mainGlobals mg) (hb:s₁.heap.Ns builtinsNs mb) (hbb:∀ x:Str,x≠"__name__"→mb x=bootBuiltins x) (hlim:s₁.heap.NoLimit) (hg:s₁.gens=#[])
  (ha:s₁.heap.get? a=some { cls:=.type "list",data:=.seq vs.toArray }) (hi:IntsAre vs ns) (hl:ns.length≤sizeLine) (hr:Room k callerA)
  (F:∀ base:Heap,K.In base→base.Ns mainGlobals mg→FnOk P w K mg base CX k fa fd [x] sp) (hbind:∀ (s:Shared) (u:Value),BindsTo s fd ⟨[u],[]⟩ [(x,u)])
  (hsp:∀ H:Hp,Only H→SqL K H a (ns.map V.int)→sp [.ref a] H (fun v _=>v=.bl true) fun _ _ _=>False)
  (hCX:∀ H e s',CX [] H s₁ (fun _ _ _=>False) e s'→False) :
  codeAny (model P w) callerA (.call (.ref fa) ⟨[.ref a],[]⟩) (fun r s'=>r=.ok (.ret (.bool true))∧OldK s₁.heap s'.heap∧s'.os=s₁.os∧AllBare s'.gens) s₁:=by
 have rv:=vals_ints hi
 have lenV:=hi.length
 have core:∀ H:Hp,Only H→SqL K H a (ns.map V.int)→HOk P w H s₁.heap→(∀ b,H b≠none→b=a)→(H a≠none→K.lookup a=none) →
   codeAny (model P w) callerA (.call (.ref fa) ⟨[.ref a],[]⟩) (fun r s'=>r=.ok (.ret (.bool true))∧OldK s₁.heap s'.heap∧s'.os=s₁.os∧AllBare s'.gens) s₁:=by
  intro H hO hS hok hA hK
  have base_of:∀ {b:Addr}{o:Obj},s₁.heap.get? b=some o→H b=none→(hidT s₁.heap H).get? b=some o:=fun e n=>hidT_get e n
  have noA:∀ {b:Addr}{o:Obj}{es:Array DictEntry}{ep:Nat},s₁.heap.get? b=some o→o.data=.dict es ep→H b=none:=fun {b o es ep} e d=>by
   cases q:H b with
   | none=>rfl
   | some u =>
    have e':b=a:=hA b (by rw[q];simp)
    subst e'
    rw[ha] at e;cases e
    have d':Data.seq vs.toArray _=Data.dict es ep:=d
    cases d'
  have nsK:∀ {b:Addr}{m:Str→Option Value},s₁.heap.Ns b m→(hidT s₁.heap H).Ns b m:=fun {b m} ⟨o,es,ep,e,d,r⟩=>⟨o,es,ep,base_of e (noA e d),d,r⟩
  have hKb:K.In (hidT s₁.heap H):=fun b o e=>base_of (KX b o e) (by
   cases q:H b with
   | none=>rfl
   | some u =>
    have e':b=a:=hA b (by rw[q];simp)
    subst e'
    rw[hK (by rw[q];simp)] at e;cases e)
  have hM:Mod K mg (hidT s₁.heap H):=⟨hKb,nsK hns,⟨mb,nsK hb,hbb⟩,let ⟨mc,h1,h2⟩:=hlim;⟨mc,nsK h1,h2⟩⟩
  have e0:Env0 P w K mg (hidT s₁.heap H) callerA [] s₁ H:=⟨rfl,hM,fun b o e=>of_hidT e,Nat.le_of_eq (hidT_size _ _),trivial,fun b hb=>absurd (show b∈([]:List Addr) from hb) (by simp),hok,.of_eq hg⟩
  refine codeAny_mono ((F _ hKb (nsK hns)).run callerA [] s₁ H ⟨[.ref a],[]⟩ [.ref a] [.ref a] _ _ hr e0 (hbind s₁ (.ref a)) (.cons rfl .nil) (hsp H hO hS)) fun r s' h=>?_
  cases r with
  | error e=>exact (hCX H e s' h).elim
  | ok fl =>
   cases fl with
   | next=>exact False.elim h
   | brk=>exact False.elim h
   | cont=>exact False.elim h
   | ret u =>
    obtain⟨v,H',os,bare,un,hok',r',q⟩:=h
    have q':v=.bl true:=q
    subst q'
    obtain rfl:u=Value.bool true:=r'
    refine⟨rfl,OldK.of_keep fun b o e=>?_,os,bare⟩
    cases q:H b with
    | none=>exact un.keep b o e q (by intro z;exact absurd (show b∈([]:List Addr) from z) (by simp)) (by simp)
    | some u =>
     rcases hO b with z | ⟨ob,xs,z⟩
     ·rw[q] at z;cases z
     ·have z2:=un.frzs b ob _ z
      obtain⟨e1,_⟩:=hok b _ z
      obtain⟨e2,_⟩:=hok' b _ z2
      rw[e] at e1;cases e1
      exact e2
 cases hk:K.lookup a with
 | some o =>
  have e:=KX a o hk
  rw[ha] at e
  cases e
  refine core (fun _=>none) (fun _=>.inl rfl) (.inr ⟨_,vs.toArray,_,hk,rfl,rfl,rfl,by rw[List.size_toArray,lenV];exact hl,by simpa using rv⟩) (fun b u z=>by have z':(none:Option HO)=some u:=z;cases z') (fun b z=>absurd rfl z) fun z=>absurd rfl z
 | none =>
  refine core (fun b=>if b=a then some (.frz { cls:=.type "list",data:=.seq vs.toArray } (.lst (ns.map V.int))) else none) (fun b=>?_) (.inl (.inr ⟨{ cls:=.type "list",data:=.seq vs.toArray },if_pos rfl⟩)) (fun b u z=>?_) (fun b z=>?_) fun _=>hk
  ·by_cases hb:b=a
   ·exact .inr ⟨_,_,if_pos hb⟩
   ·exact .inl (if_neg hb)
  ·by_cases hb:b=a
   ·have z':=(if_pos hb).symm.trans z
    cases z'
    subst hb
    exact⟨ha,by rw[List.length_map];exact hl,vs,_,rv,ha⟩
   ·have z':=(if_neg hb).symm.trans z
    cases z'
  ·by_cases hb:b=a
   ·exact hb
   ·exact absurd (if_neg hb) z
end L2
namespace L2
open PySem PySem.Spec PyProof.Rows
theorem walk_of {l:PySem.W.OpenLaw}{n k:Nat}{q:Program}{loose:List Str}{XP:(Str→Option Value)→Heap→Prop}{YP:World→Heap→Prop}{d:DefRec}{K:Params→PySem.W.Frag}{CX:World→CXT}{sp:World→Sp}{x:Str}
  (hn:l.most=some n) (hn2:n≤sizeLine) (hdf:d.params.defaults=[]) (hr:Room k callerA)
  (hY:∀ (w:World) (h:Heap),YP w h→(K w.params).In h)
  (F:∀ (w:World) (mg:Str→Option Value) (fa:Addr) (h:Heap),(K w.params).In h→h.Ns mainGlobals mg→mg d.name=some (.ref fa) →
   ∃ fd:FuncData,(∀ (s:Shared) (u:Value),BindsTo s fd ⟨[u],[]⟩ [(x,u)]) ∧
    ∀ base:Heap,(K w.params).In base→base.Ns mainGlobals mg→FnOk l.prog w (K w.params) mg base (CX w) k fa fd [x] (sp w))
  (hsp:∀ (w:World) (H:Hp) (a:Addr) (ns:List Int),ns.length≤n→Only H→SqL (K w.params) H a (ns.map V.int)→sp w [.ref a] H (fun v _=>v=.bl true) fun _ _ _=>False)
  (hCX:∀ (w:World) (H:Hp) (s:Shared) (e:Value) (s':Shared),CX w [] H s (fun _ _ _=>False) e s'→False) :
  PySem.W.WalkO q loose XP YP l.row.toRowW d [] (fun f vs=>PySem.call f vs):=by
 refine Att.attach_call hn hdf fun w s₀ s₁ mg mb fa o pm cd doc a vs ns G Y ho hd hcd hmg hobj hints hlen hg=>?_
 have KX:=hY w _ Y
 obtain⟨fd,hb,hF⟩:=F w mg fa _ KX G.T.g hmg
 exact law_call KX G.T.g G.T.b G.T.builtins G.T.nolimit hg hobj hints (Nat.le_trans hlen hn2) hr hF hb (fun H hO hS=>hsp w H a ns hlen hO hS) fun H e s'=>hCX w H s₁ e s'
end L2
namespace L2
open PySem PySem.Spec PyProof.Rows
def inClass (s:Stmt) (j:Nat):Stmt:=match s with
 | .ClassDef _ _ _ body _ _ _ _ _ _ _=>body.getD j (.Pass ⟨0,0,0,0⟩)
 | _=>.Pass ⟨0,0,0,0⟩
def defArgs (s:Stmt):Arguments:=match s with
 | .FunctionDef _ a _ _ _ _ _ _ _ _=>a
 | _=>{ posonlyargs:=[],args:=[],vararg:=none,kwonlyargs:=[],kw_defaults:=[],kwarg:=none,defaults:=[] }
def defBody (s:Stmt):List Stmt:=match s with
 | .FunctionDef _ _ b _ _ _ _ _ _ _=>b
 | _=>[]
def defScope (s:Stmt):Scope:=match s with
 | .FunctionDef _ _ _ _ _ _ sc _ _ _=>sc
 | _=>{ kind:=.function,names:=[],isGenerator:=false,isCoroutine:=false }
abbrev CX0:CXT:=fun _ _ _ _ _ _=>False
abbrev E0:XK:=fun _ _ _=>False
structure Fun (K:PySem.W.Frag) (x qual:Str) (st:Stmt) (f:Addr) (fd:FuncData):Prop where
 ex:∃ (oc:Value) (od:Option Addr) (kV doc pm:Value) (an:Option Addr) (cdv ct:Value) (osl:Array (Option Value)),
  fd=PySem.W.fnOf x qual (defArgs st) (defBody st) (defScope st) .none kV doc pm an cdv ct∧K.lookup f=some ⟨oc,od,.func fd,osl⟩∧PySem.W.codeIn K cdv qual=true
 kp:PySem.W.keepIn K (.ref f)=true
section
variable {P:Program}{w:World}{K:PySem.W.Frag}{mg:Str→Option Value}{base:Heap}
theorem Fun.binds {x qual:Str}{st:Stmt}{f:Addr}{fd:FuncData}{ps:List Str} (F:Fun K x qual st f fd)
  (h:∀ (kV doc pm:Value) (an:Option Addr) (cdv ct:Value) (us:List Value),us.length=ps.length→bindArgs (PySem.W.fnOf x qual (defArgs st) (defBody st) (defScope st) .none kV doc pm an cdv ct) ⟨us,[]⟩=pure (ps.zip us)):Binds K fd ps []:=by
 obtain⟨oc,od,kV,doc,pm,an,cdv,ct,osl,rfl,lk,hcd⟩:=F.ex
 exact .all (h kV doc pm an cdv ct)
theorem fun_mk {x qual:Str}{st:Stmt}{f:Addr}{oc:Value}{od an:Option Addr}{osl:Array (Option Value)}{kV doc pm cdv ct:Value} (l:K.lookup f=some ⟨oc,od,.func (PySem.W.fnOf x qual (defArgs st) (defBody st) (defScope st) .none kV doc pm an cdv ct),osl⟩)
  (c:PySem.W.codeIn K cdv qual=true) (k:PySem.W.keepIn K (.ref f)=true):Fun K x qual st f (PySem.W.fnOf x qual (defArgs st) (defBody st) (defScope st) .none kV doc pm an cdv ct):=⟨⟨oc,od,kV,doc,pm,an,cdv,ct,osl,rfl,l,c⟩,k⟩
end
end L2
set_option maxHeartbeats 4000000
namespace L2
open PySem PySem.Spec PyProof.Rows
section
variable {κ:Type} [DecidableEq κ]
noncomputable def valV (kvs:List (κ×V)) (k:κ):Option V:=(kvs.find? fun kv=>decide (kv.1=k)).map (·.2)
noncomputable def putK (kvs:List (κ×V)) (k:κ) (v:V):List (κ×V) :=
 if (kvs.any fun kv=>decide (kv.1=k))=true then kvs.map (fun kv=>if kv.1=k then (kv.1,v) else kv) else kvs++[(k,v)]
noncomputable def dropK (kvs:List (κ×V)) (k:κ):List (κ×V):=kvs.filter fun kv=>decide (kv.1≠k)
theorem valV_pos {p:κ×V}{r:List (κ×V)}{k:κ} (e:p.1=k):valV (p::r) k=some p.2:=by simp[valV,List.find?_cons,e]
theorem valV_neg {p:κ×V}{r:List (κ×V)}{k:κ} (e:¬ p.1=k):valV (p::r) k=valV r k:=by simp[valV,List.find?_cons,e]
theorem valV_any (k:κ):∀ kvs:List (κ×V),(kvs.any fun kv=>decide (kv.1=k))=(valV kvs k).isSome
 | []=>rfl
 | p::r=>by
  rw[List.any_cons]
  by_cases e:p.1=k
  ·simp only[valV_pos e,decide_eq_true e,Bool.true_or,Option.isSome_some]
  ·rw[valV_neg e,decide_eq_false e,Bool.false_or];exact valV_any k r
theorem length_putK (kvs:List (κ×V)) (k:κ) (v:V):(putK kvs k v).length≤kvs.length+1:=by
 unfold putK
 split
 ·rw[List.length_map];omega
 ·rw[List.length_append,List.length_cons,List.length_nil];omega
theorem RelO.isSome_eq {o:Option V}{u:Option Value} (r:RelO o u):o.isSome=u.isSome:=by
 cases o with
 | none=>cases u with
  | none=>rfl
  | some _=>exact (show False from r).elim
 | some _=>cases u with
  | none=>exact (show False from r).elim
  | some _=>rfl
theorem RelO.getD {o:Option V}{u:Option Value}{d:V}{d':Value} (r:RelO o u) (rd:RelV d d'):RelV (o.getD d) (u.getD d'):=by
 cases o with
 | none=>cases u with
  | none=>exact rd
  | some _=>exact (show False from r).elim
 | some _=>cases u with
  | none=>exact (show False from r).elim
  | some _=>exact r
theorem KV.val {kvs:List (κ×V)}{vs:List (κ×Value)} (r:KV kvs vs) (k:κ):RelO (valV kvs k) (valueAt vs k):=by
 unfold KV at r
 induction r with
 | nil=>exact True.intro
 | @cons p q ps qs h t ih =>
  obtain⟨h1,h2⟩:=h
  by_cases e:p.1=k
  ·have e':q.1=k:=h1.symm.trans e
   have b:valueAt (q::qs) k=some q.2:=by simp[valueAt,List.find?_cons,e']
   rw[valV_pos e,b];exact h2
  ·have e':¬ q.1=k:=fun z=>e (h1.trans z)
   have b:valueAt (q::qs) k=valueAt qs k:=by simp[valueAt,List.find?_cons,e']
   rw[valV_neg e,b];exact ih
theorem KV.any {kvs:List (κ×V)}{vs:List (κ×Value)} (r:KV kvs vs) (k:κ):(kvs.any fun kv=>decide (kv.1=k))=vs.any fun kv=>decide (kv.1=k):=by
 unfold KV at r
 induction r with
 | nil=>rfl
 | cons h t ih=>rw[List.any_cons,List.any_cons,ih,h.1]
theorem KV.repl {kvs:List (κ×V)}{vs:List (κ×Value)} (r:KV kvs vs) (k:κ) {y:V}{u:Value} (ry:RelV y u) :
  KV (kvs.map fun kv=>if kv.1=k then (kv.1,y) else kv) (vs.map fun kv=>if kv.1=k then (kv.1,u) else kv):=by
 unfold KV at r ⊢
 induction r with
 | nil=>exact .nil
 | @cons p q ps qs h t ih =>
  rw[List.map_cons,List.map_cons]
  refine .cons ?_ ih
  obtain⟨h1,h2⟩:=h
  by_cases e:p.1=k
  ·rw[if_pos e,if_pos (h1.symm.trans e)];exact⟨h1,ry⟩
  ·rw[if_neg e,if_neg (fun z=>e (h1.trans z))];exact⟨h1,h2⟩
theorem KV.put {kvs:List (κ×V)}{vs:List (κ×Value)} (r:KV kvs vs) (k:κ) {y:V}{u:Value} (ry:RelV y u):KV (putK kvs k y) (stored vs k u):=by
 unfold putK stored
 rw[r.any k]
 by_cases e:(vs.any fun kv=>decide (kv.1=k))=true
 ·rw[if_pos e,if_pos e];exact r.repl k ry
 ·rw[if_neg e,if_neg e];exact Paired.snoc r ⟨rfl,ry⟩
theorem KV.drop {kvs:List (κ×V)}{vs:List (κ×Value)} (r:KV kvs vs) (k:κ):KV (dropK kvs k) (without vs k):=by
 unfold KV at r ⊢
 unfold dropK without
 induction r with
 | nil=>exact .nil
 | @cons p q ps qs h t ih =>
  obtain⟨h1,h2⟩:=h
  rw[List.filter_cons,List.filter_cons]
  by_cases e:p.1=k
  ·have a:¬ decide (p.1≠k)=true:=by simp[e]
   have b:¬ decide (q.1≠k)=true:=by simp[h1.symm.trans e]
   rw[if_neg a,if_neg b];exact ih
  ·have e':¬ q.1=k:=fun z=>e (h1.trans z)
   have a:decide (p.1≠k)=true:=by simp[e]
   have b:decide (q.1≠k)=true:=by simp[e']
   rw[if_pos a,if_pos b];exact .cons ⟨h1,h2⟩ ih
theorem KV.length {kvs:List (κ×V)}{vs:List (κ×Value)} (r:KV kvs vs):kvs.length=vs.length:=Paired.length r
theorem dropK_le (kvs:List (κ×V)) (k:κ):(dropK kvs k).length≤kvs.length:=List.length_filter_le _ _
end
theorem kV_is {P:Program}{w:World}{k:Key}{u:Value} (r:RelV (kV k) u):(mixKind P w).is k u=true:=by
 cases k with
 | inl i=>obtain⟨t,e⟩:=(show ∃ t,u=Value.int i t from r);subst e;exact mixKind_int P w i t
 | inr x=>obtain⟨t,e⟩:=(show ∃ t,u=Value.str x t from r);subst e;exact mixKind_str P w x t
theorem items_are {P:Program}{w:World}:∀ {ks:List Key}{us:List Value},Vals (ks.map kV) us→ItemsAre (mixKind P w) ks us
 | [],_,r=>by rw[List.map_nil] at r;cases r;exact .nil
 | k::ks,_,r=>by
  rw[List.map_cons] at r
  cases r with
  | cons h t=>exact .cons (kV_is h) (items_are t)
abbrev KT (H:Hp):List (List Key×V)→List (List Key×Addr×Value)→Prop:=Paired fun p q=>p.1=q.1∧H q.2.1=some (.tup (p.1.map kV))∧RelV p.2 q.2.2
theorem KT.val {H:Hp}{kvs:List (List Key×V)}{xs:List (List Key×Addr×Value)} (r:KT H kvs xs) (k:List Key):RelO (valV kvs k) ((atKey xs k).map (·.2)):=by
 induction r with
 | nil=>exact True.intro
 | @cons p q ps qs h t ih =>
  obtain⟨h1,_,h2⟩:=h
  by_cases e:p.1=k
  ·have e':q.1=k:=h1.symm.trans e
   have b:atKey (q::qs) k=some q.2:=by simp[atKey,List.find?_cons,e']
   rw[valV_pos e,b];exact h2
  ·have e':¬ q.1=k:=fun z=>e (h1.trans z)
   have b:atKey (q::qs) k=atKey qs k:=by simp[atKey,List.find?_cons,e']
   rw[valV_neg e,b];exact ih
theorem KT.repl {H:Hp}{kvs:List (List Key×V)}{xs:List (List Key×Addr×Value)} (r:KT H kvs xs) (k:List Key) {y:V}{u:Value} (ry:RelV y u) :
  KT H (kvs.map fun kv=>if kv.1=k then (kv.1,y) else kv) (xs.map (putAt k u)):=by
 induction r with
 | nil=>exact .nil
 | @cons p q ps qs h t ih =>
  rw[List.map_cons,List.map_cons]
  refine .cons ?_ ih
  obtain⟨h1,h2,h3⟩:=h
  unfold putAt
  by_cases e:p.1=k
  ·rw[if_pos e,if_pos (h1.symm.trans e)];exact⟨h1,h2,ry⟩
  ·rw[if_neg e,if_neg (fun z=>e (h1.trans z))];exact⟨h1,h2,h3⟩
theorem KT.put {H:Hp}{kvs:List (List Key×V)}{xs:List (List Key×Addr×Value)} (r:KT H kvs xs) (k:List Key) {b:Addr}{y:V}{u:Value} (hb:H b=some (.tup (k.map kV))) (ry:RelV y u) :
  KT H (putK kvs k y) (storedH xs k b u):=by
 have e:(kvs.any fun kv=>decide (kv.1=k))=(atKey xs k).isSome:=by
  rw[valV_any,(r.val k).isSome_eq,Option.isSome_map]
 unfold putK storedH
 rw[e]
 by_cases q:(atKey xs k).isSome=true
 ·rw[if_pos q,if_pos q];exact r.repl k ry
 ·rw[if_neg q,if_neg q];exact Paired.snoc r ⟨rfl,hb,ry⟩
theorem KT.keeps {H H':Hp}{kvs:List (List Key×V)}{xs:List (List Key×Addr×Value)} (r:KT H kvs xs) (ht:∀ b ys,H b=some (.tup ys)→H' b=some (.tup ys)):KT H' kvs xs :=
 Paired.mapP r fun _ _ z=>⟨z.1,ht _ _ z.2.1,z.2.2⟩
section
variable {P:Program}{w:World}{H:Hp}{h:Heap}{a:Addr}
theorem rd_of {u:HO} (ok:HOk P w H h) (e:Rd H a u):ObjOk P w H h a u:=e.ok ok
theorem dk_rd {kvs:List (Key×V)} (ok:HOk P w H h) (e:Rd H a (.dK kvs)):kvs.length≤sizeLine∧(a==sysModules)=false∧∃ vs,KV kvs vs∧h.DictOf (mixKind P w) a vs :=
 show ObjOk P w H h a (.dK kvs) from rd_of ok e
theorem dk_of {kvs:List (Key×V)} (ok:HOk P w H h) (e:H a=some (.dK kvs)):kvs.length≤sizeLine∧(a==sysModules)=false∧∃ vs,KV kvs vs∧h.DictOf (mixKind P w) a vs:=dk_rd ok (.inl e)
theorem key_of {ks:List Key} (ok:HOk P w H h) (e:H a=some (.tup (ks.map kV))):(tupleKind (mixKind P w)).is h ks a:=by
 obtain⟨_,its,r,o,h1,h2,n,h3⟩:=(show ObjOk P w H h a (.tup (ks.map kV)) from ok a _ e)
 exact⟨o,its.toArray,n,h1,h2,h3,by simpa using items_are r⟩
theorem dt_rd {kvs:List (List Key×V)} (ok:HOk P w H h) (e:Rd H a (.dT kvs)):kvs.length≤sizeLine∧(a==sysModules)=false ∧
  ∃ xs,KT H kvs xs∧h.DictOfH (tupleKind (mixKind P w)) a xs:=by
 obtain⟨z,y,xs,r,o,es,ep,h1,h2,h3,h4,h5⟩:=(show ObjOk P w H h a (.dT kvs) from rd_of ok e)
 refine⟨z,y,xs,r,o,es,ep,h1,h2,h3,h4,fun x hx=>?_,h5⟩
 have all:∀ {l:List (List Key×V)}{m:List (List Key×Addr×Value)},KT H l m→∀ x∈m,(tupleKind (mixKind P w)).is h x.1 x.2.1:=by
  intro l m q
  induction q with
  | nil=>intro x hx;exact nomatch hx
  | @cons p q ps qs hq t ih =>
   intro x hx
   rcases List.mem_cons.mp hx with e | hx
   ·subst e
    exact key_of ok (by rw[← hq.1];exact hq.2.1)
   ·exact ih x hx
 exact all r x hx
theorem dt_of {kvs:List (List Key×V)} (ok:HOk P w H h) (e:H a=some (.dT kvs)):kvs.length≤sizeLine∧(a==sysModules)=false ∧
  ∃ xs,KT H kvs xs∧h.DictOfH (tupleKind (mixKind P w)) a xs:=dt_rd ok (.inl e)
end
def DGet (H:Hp) (a:Addr) (y:V) (r:Option V):Prop :=
 (∃ kvs k,Rd H a (.dK kvs)∧y=kV k∧r=valV kvs k)∨∃ kvs k b,Rd H a (.dT kvs)∧y=.ref b∧H b=some (.tup (k.map kV))∧r=valV kvs k
def DPut (H:Hp) (a:Addr) (y v:V) (H':Hp):Prop :=
 (∃ kvs k,H a=some (.dK kvs)∧y=kV k∧kvs.length<sizeLine∧H'=upd H a (.dK (putK kvs k v))) ∨
 ∃ kvs k b,H a=some (.dT kvs)∧y=.ref b∧H b=some (.tup (k.map kV))∧kvs.length<sizeLine∧H'=upd H a (.dT (putK kvs k v))
theorem DPut.k {H:Hp}{a:Addr}{kvs:List (Key×V)}{k:Key}{v:V} (e:H a=some (.dK kvs)) (hl:kvs.length<sizeLine):DPut H a (kV k) v (upd H a (.dK (putK kvs k v))):=.inl ⟨kvs,k,e,rfl,hl,rfl⟩
section
variable {X:Cx}{pins:List (Addr×Obj)}{σ:St}{H:Hp}{s:Shared}{a:Addr}{y v:V}{u r:Value}{o:Option V}{A:Around}{E:Value→Shared→Prop}
theorem Inv.big (I:Inv X pins σ H s):sysModules<s.heap.objs.size:=by
 have h:mainGlobals<s.heap.objs.size:=(I.mod.glob.keeps I.bk).lt
 exact Nat.lt_trans (by decide) h
theorem d_getItem {Q:Value→Shared→Prop} (hu:A.units+1<cLine) (I:Inv X pins σ H s) (g:DGet H a y (some v)) (ry:RelV y u) (h:∀ w' s',Inv X pins σ H s'→RelV v w'→Q w' s') :
  wpAny (model X.prog X.w) A (getItem (.ref a) u) Q E s:=by
 rcases g with ⟨kvs,k,e,ey,l⟩ | ⟨kvs,k,b,e,ey,eb,l⟩
 ·subst ey
  obtain⟨z,hd,vs,rel,dd⟩:=dk_rd I.hok e
  obtain⟨w',hw,rw'⟩:=RelO.some_of (v:=v) (o:=valueAt vs k) (by rw[l];exact rel.val k)
  exact wpAny_getItem_of (kV_is ry) dd.mapOf hw (h w' _ (I.tok _) rw')
 ·subst ey
  cases (show u=Value.ref b from ry)
  obtain⟨z,hd,xs,rel,dd⟩:=dt_rd I.hok e
  obtain⟨w',hw,rw'⟩:=RelO.some_of (v:=v) (o:=(atKey xs k).map (·.2)) (by rw[l];exact rel.val k)
  obtain⟨p,hp,hp2⟩:=Option.map_eq_some_iff.mp hw
  refine wpAny_getItem_heap (tupleKind_room_in1 hu) (key_of I.hok eb) dd hp ?_
  rw[hp2]
  exact h w' _ (I.tok _) rw'
theorem d_in {Q:Value→Shared→Prop} (hu:A.units+1<cLine) (I:Inv X pins σ H s) (g:DGet H a y o) (ry:RelV y u) (h:∀ s',Inv X pins σ H s'→Q (.bool o.isSome) s') :
  wpAny (model X.prog X.w) A (compareOp .In u (.ref a)) Q E s:=by
 rcases g with ⟨kvs,k,e,ey,l⟩ | ⟨kvs,k,b,e,ey,eb,l⟩
 ·subst ey
  obtain⟨z,hd,vs,rel,dd⟩:=dk_rd I.hok e
  refine wpAny_in_of (kV_is ry) hd dd.mapOf ?_
  rw[← (rel.val k).isSome_eq,← l]
  exact h _ (I.tok _)
 ·subst ey
  cases (show u=Value.ref b from ry)
  obtain⟨z,hd,xs,rel,dd⟩:=dt_rd I.hok e
  refine wpAny_in_heap (tupleKind_room_in1 hu) (key_of I.hok eb) hd dd ?_
  have q:=(rel.val k).isSome_eq
  rw[Option.isSome_map] at q
  rw[← q,← l]
  exact h _ (I.tok _)
theorem d_notIn {Q:Value→Shared→Prop} (hu:A.units+1<cLine) (I:Inv X pins σ H s) (g:DGet H a y o) (ry:RelV y u) (h:∀ s',Inv X pins σ H s'→Q (.bool (!o.isSome)) s') :
  wpAny (model X.prog X.w) A (compareOp .NotIn u (.ref a)) Q E s:=by
 rcases g with ⟨kvs,k,e,ey,l⟩ | ⟨kvs,k,b,e,ey,eb,l⟩
 ·subst ey
  obtain⟨z,hd,vs,rel,dd⟩:=dk_rd I.hok e
  refine wpAny_notIn_of (kV_is ry) hd dd.mapOf ?_
  rw[← (rel.val k).isSome_eq,← l]
  exact h _ (I.tok _)
 ·subst ey
  cases (show u=Value.ref b from ry)
  obtain⟨z,hd,xs,rel,dd⟩:=dt_rd I.hok e
  refine wpAny_notIn_heap (tupleKind_room_in1 hu) (key_of I.hok eb) hd dd ?_
  have q:=(rel.val k).isSome_eq
  rw[Option.isSome_map] at q
  rw[← q,← l]
  exact h _ (I.tok _)
theorem d_write {h':Heap}{t':Nat}{ob:HO} (I:Inv X pins σ H s) (mu:Mut (H a)) (hs:Heap.SameBut a s.heap h') (he:∃ q,h'.get? a=some q) (new:ObjOk X.prog X.w (upd H a ob) h' a ob) :
  Inv X pins σ (upd H a ob) { s with heap:=h',toks:=t' } :=
 I.write (x:=a) (e:=a) mu (.inl rfl) (fun b q hb z=>(hs.2 b hb).trans z) he new
theorem dk_new {P:Program}{w:World}{H':Hp}{h':Heap}{kvs:List (Key×V)}{vs:List (Key×Value)} (z:kvs.length≤sizeLine) (hd:(a==sysModules)=false) (rel:KV kvs vs) (dd:h'.DictOf (mixKind P w) a vs) :
  ObjOk P w H' h' a (.dK kvs):=⟨z,hd,vs,rel,dd⟩
theorem d_setItem {H':Hp}{Q:Unit→Shared→Prop} (hu:A.units+1<cLine) (I:Inv X pins σ H s) (g:DPut H a y v H') (ry:RelV y u) (rv:RelV v r) (h:∀ s',Inv X pins σ H' s'→Q () s') :
  wpAny (model X.prog X.w) A (setItem (.ref a) u r) Q E s:=by
 rcases g with ⟨kvs,k,e,ey,l,eH⟩ | ⟨kvs,k,b,e,ey,eb,l,eH⟩
 ·subst ey eH
  obtain⟨z,hd,vs,rel,dd⟩:=dk_of I.hok e
  have hz:vs.length≤sizeLine:=by rw[← rel.length];exact z
  have hl:(putK kvs k v).length≤sizeLine:=by have:=length_putK kvs k v;omega
  refine wpAny_setItem_pairs (hsz:=hz) (kV_is ry) dd fun h' dd' hs=>h _ ?_
  have he:∃ q,h'.get? a=some q:=let ⟨q,_,_,hq,_⟩:=dd';⟨q,hq⟩
  exact d_write I (by rw[e];exact True.intro) hs he (dk_new hl hd (rel.put k rv) dd')
 ·subst ey eH
  cases (show u=Value.ref b from ry)
  obtain⟨z,hd,xs,rel,dd⟩:=dt_of I.hok e
  have hz:xs.length≤sizeLine:=by rw[← Paired.length rel];exact z
  have hl:(putK kvs k v).length≤sizeLine:=by have:=length_putK kvs k v;omega
  refine wpAny_setItem_heap (hsz:=hz) (tupleKind_room_in1 hu) (key_of I.hok eb) dd fun h' dd' hs=>h _ ?_
  obtain⟨q,es,ep,hq,h2,h3,h4,_,h5⟩:=dd'
  refine d_write I (by rw[e];exact True.intro) hs ⟨q,hq⟩ ⟨hl,hd,_,(rel.put k eb rv).keeps fun c ys ec=>?_,q,es,ep,hq,h2,h3,h4,h5⟩
  rw[upd_ne (ne_of ec e (fun z=>nomatch z))]
  exact ec
end
section
variable {X:Cx}{pins:List (Addr×Obj)}{σ:St}{H:Hp}{s:Shared}{a:Addr}{kvs:List (Key×V)}{k:Key}{u:Value}{A:Around}{E:Value→Shared→Prop}
theorem d_pop {v:V}{more:List Value}{Q:Value→Shared→Prop} (I:Inv X pins σ H s) (e:H a=some (.dK kvs)) (ry:RelV (kV k) u) (l:valV kvs k=some v) (hm:more=[]∨∃ x,more=[x])
  (h:∀ w' s',Inv X pins σ (upd H a (.dK (dropK kvs k))) s'→RelV v w'→Q w' s'):wpAny (model X.prog X.w) A (call (.builtin "dict.pop") (.ref a::u::more)) Q E s:=by
 obtain⟨z,hd,vs,rel,dd⟩:=dk_of I.hok e
 obtain⟨w',hw,rw'⟩:=RelO.some_of (v:=v) (o:=valueAt vs k) (by rw[← l];exact rel.val k)
 have hp:(keyPart u).isSome=true:=by
  cases k with
  | inl i=>obtain⟨t,q⟩:=(show ∃ t,u=Value.int i t from ry);subst q;rfl
  | inr x=>obtain⟨t,q⟩:=(show ∃ t,u=Value.str x t from ry);subst q;rfl
 have ha:argsOk "dict.pop" ⟨.ref a::u::more,[]⟩:=by
  rcases hm with q | ⟨x,q⟩
  ·subst q;exact PySem.F.args_dict_pop_2 _ _
  ·subst q;exact PySem.F.args_dict_pop_3 _ _ _
 refine call_meetsIn PySem.F.slot_dict_pop dd.typeIs PySem.F.entry_dict_pop ha (meets_dict_pop_there (mixKind X.prog X.w) a (kV_is ry) more hm hp)
  ⟨vs,w',dd,by rw[← rel.length];exact z,hw,fun h' dd' hs=>h w' _ ?_ rw'⟩
 have he:∃ q,h'.get? a=some q:=let ⟨q,_,_,hq,_⟩:=dd';⟨q,hq⟩
 exact d_write I (by rw[e];exact True.intro) hs he (dk_new (Nat.le_trans (dropK_le kvs k) z) hd (rel.drop k) dd')
theorem d_popD {r:Value}{Q:Value→Shared→Prop} (I:Inv X pins σ H s) (e:H a=some (.dK kvs)) (ry:RelV (kV k) u) (l:valV kvs k=none) (h:∀ s',Inv X pins σ H s'→Q r s') :
  wpAny (model X.prog X.w) A (call (.builtin "dict.pop") [.ref a,u,r]) Q E s:=by
 obtain⟨z,hd,vs,rel,dd⟩:=dk_of I.hok e
 have hn:valueAt vs k=none:=RelO.none_of (by rw[← l];exact rel.val k)
 have hp:(keyPart u).isSome=true:=by
  cases k with
  | inl i=>obtain⟨t,q⟩:=(show ∃ t,u=Value.int i t from ry);subst q;rfl
  | inr x=>obtain⟨t,q⟩:=(show ∃ t,u=Value.str x t from ry);subst q;rfl
 exact call_meetsIn PySem.F.slot_dict_pop dd.typeIs PySem.F.entry_dict_pop (PySem.F.args_dict_pop_3 _ _ _) (meets_dict_pop_default (mixKind X.prog X.w) a (kV_is ry) hd hp r) ⟨vs,dd,hn,h _ (I.tok _)⟩
theorem d_len {Q:Value→Shared→Prop} (I:Inv X pins σ H s) (e:Rd H a (.dK kvs)) (h:∀ t s',Inv X pins σ H s'→Q (.int kvs.length t) s'):wpAny (model X.prog X.w) A (call (.builtin "len") [.ref a]) Q E s:=by
 obtain⟨z,hd,vs,rel,dd⟩:=dk_rd I.hok e
 refine call_len_dict hd dd (by rw[← rel.length];rw[sizeLine_eq] at z;omega) ?_
 rw[← rel.length]
 exact h _ _ (I.tok _)
end
def NoSl (i:Expr):Prop:=∀ ov iv,subscripted i false ov iv=operate [ov,iv] (getItem ov iv)
theorem subD_of {prog:Program}{w:World}{A:Around}{E:Value→Shared→Prop}{s:Shared}{env:Env}{value slice:Expr}{pos:Pos}{T id:String}{Q:Value→Shared→Prop}
  (hl:typeLookup (.type T) "__getitem__"=pure (some (.builtin id))) (hs:NoSl slice)
  (h:wpAny (model prog w) A (eval value env) (fun o s₁=>wpAny (model prog w) A (eval slice env) (fun i s₂=>s₂.TypeIs o T∧wpAny (model prog w) A (getItem o i) Q E s₂) E s₁) E s) :
  wpAny (model prog w) A (eval (.Subscript value slice pos) env) Q E s:=by
 refine Subscript_ (wpAny_mono h (fun o s₁ h₁=>wpAny_mono h₁ (fun i s₂ h₂=>?_) fun _ _ x=>x) fun _ _ x=>x)
 obtain⟨hT,h₂⟩:=h₂
 unfold subscriptTail
 refine wpAny_bind ?_
 rw[getitemInPython_of_ne hT.not_modules]
 refine wpAny_bind (wpAny_specialOf hT hl ?_)
 have fin:wpAny (model prog w) A (subscripted slice false o i) (fun r s₃=>wpAny (model prog w) A (letTemporaryGo value o r>>=fun _=>pure r) Q E s₃) E s₂:=by
  rw[hs o i]
  exact wpAny_operating (wpAny_mono h₂ (fun r s₃ h₃=>wpAny_bind (wpAny_letTemporaryGo (wpAny_pure h₃))) fun _ _ x=>x)
 first
  | exact wpAny_pure (wpAny_bind fin)
  | exact wpAny_bind (wpAny_pure (wpAny_bind fin))
  | exact wpAny_bind fin
theorem dict_typeIs {X:Cx}{pins:List (Addr×Obj)}{σ:St}{H:Hp}{s:Shared}{a:Addr}{y:V}{o:Option V} (I:Inv X pins σ H s) (g:DGet H a y o):s.TypeIs (.ref a) "dict":=by
 rcases g with ⟨kvs,k,e,_,_⟩ | ⟨kvs,k,b,e,_,_,_⟩
 ·obtain⟨_,_,vs,_,dd⟩:=dk_rd I.hok e
  exact dd.typeIs
 ·obtain⟨_,_,xs,_,dd⟩:=dt_rd I.hok e
  exact dd.typeIs
noncomputable def tDGet (td ty:TE):TE:=fun σ H Q=>td σ H fun x H1=>ty σ H1 fun y H2=>∃ a v,x=.ref a∧DGet H2 a y (some v)∧Q v H2
noncomputable def tDIn (ty td:TE):TE:=fun σ H Q=>ty σ H fun y H1=>td σ H1 fun x H2=>∃ a o,x=.ref a∧DGet H2 a y o∧Q (.bl o.isSome) H2
noncomputable def tDNotIn (ty td:TE):TE:=fun σ H Q=>ty σ H fun y H1=>td σ H1 fun x H2=>∃ a o,x=.ref a∧DGet H2 a y o∧Q (.bl (!o.isSome)) H2
noncomputable def sDPut (td ty tv:TE):TS:=fun D σ H=>tv σ H fun v H1=>td σ H1 fun x H2=>ty σ H2 fun y H3=>∃ a H4,x=.ref a∧DPut H3 a y v H4∧D.nx σ H4
section
variable {X:Cx}{o i e value:Expr}{pos pos' tpos:Pos}{td ty tv:TE}
theorem pe_dget (hu:X.A.units+1<cLine) (ho:PE X o td) (hi:PE X i ty) (hs:NoSl i):PE X (.Subscript o i pos) (tDGet td ty):=by
 intro pins s σ H Q I h
 refine subD_of PySem.F.slot_dict_getitem.lookup hs (thn (ho pins s σ H _ I h) fun u s1 ⟨x,H1,I1,rx,q1⟩=>thn (hi pins s1 σ H1 _ I1 q1) fun iv s2 ⟨y,H2,I2,ry,a,v,ex,g,q2⟩=>?_)
 subst ex
 obtain rfl:u=Value.ref a:=rx
 exact⟨dict_typeIs I2 g,d_getItem hu I2 g ry fun w' s3 I3 rw'=>⟨v,H2,I3,rw',q2⟩⟩
theorem pc_din (hu:X.A.units+1<cLine) (hi:PE X i ty) (ho:PE X o td):PC X .In i o (tDIn ty td):=by
 intro pins s σ H Q I h
 refine thn (hi pins s σ H _ I h) fun iv s1 ⟨y,H1,I1,ry,q1⟩=>thn (ho pins s1 σ H1 _ I1 q1) fun u s2 ⟨x,H2,I2,rx,a,ov,ex,g,q2⟩=>?_
 subst ex
 obtain rfl:u=Value.ref a:=rx
 exact d_in hu I2 g ry fun s3 I3=>⟨.bl ov.isSome,H2,I3,rfl,q2⟩
theorem pc_dnotin (hu:X.A.units+1<cLine) (hi:PE X i ty) (ho:PE X o td):PC X .NotIn i o (tDNotIn ty td):=by
 intro pins s σ H Q I h
 refine thn (hi pins s σ H _ I h) fun iv s1 ⟨y,H1,I1,ry,q1⟩=>thn (ho pins s1 σ H1 _ I1 q1) fun u s2 ⟨x,H2,I2,rx,a,ov,ex,g,q2⟩=>?_
 subst ex
 obtain rfl:u=Value.ref a:=rx
 exact d_notIn hu I2 g ry fun s3 I3=>⟨.bl (!ov.isSome),H2,I3,rfl,q2⟩
theorem ps_dput (hu:X.A.units+1<cLine) (ho:PE X o td) (hi:PE X i ty) (hv:PE X value tv) (hs:swapsWith value (some (.Subscript o i pos')) pos.line X.env=pure false) :
  PS X (.Assign [.Subscript o i pos'] value pos) (sDPut td ty tv):=by
 intro pins s σ H D I h
 refine wpAny_Assign_Subscript (thn (hv pins s σ H _ I h) fun r s1 ⟨v,H1,I1,rv,q1⟩=>thn (ho pins s1 σ H1 _ I1 q1) fun u s2 ⟨x,H2,I2,rx,q2⟩=>thn (hi pins s2 σ H2 _ I2 q2) fun iv s3 ⟨y,H3,I3,ry,a,H4,ex,g,q3⟩=>?_) hs
 subst ex
 obtain rfl:u=Value.ref a:=rx
 exact d_setItem hu I3 g ry rv fun s4 I4=>⟨σ,H4,I4,q3⟩
end
theorem dk_empty {P:Program}{w:World}{H:Hp} (h:Heap) (hb:sysModules<h.objs.size):ObjOk P w H (h.push { cls:=.type "dict",data:=.dict #[] }) h.objs.size (.dK []) :=
 ⟨Nat.zero_le _,beq_eq_false_iff_ne.mpr (Ne.symm (Nat.ne_of_lt hb)),[],.nil,Heap.DictOf.new h⟩
structure M1 (X:Cx) (o:Expr) (m:Str) (apos:Pos) (e:Expr) (cpos:Pos):Prop where
 base:attributeBase o m X.env (eval o X.env)=eval o X.env
 few:((backTo cpos (starEach [e] X.env)).all (fun x=>!x.1)&&(backToKw cpos (keywordEach [] X.env)).all (fun x=>x.1.isSome)
  && decide (([e]:List Expr).length+([]:List Keyword).length+(if ([]:List Keyword).isEmpty then 0 else 1)<30))=true
 line:(apos.endLine==cpos.line)=true
 trees:backTo cpos (starEach [e] X.env)=[(false,eval e X.env)]
structure M2 (X:Cx) (o:Expr) (m:Str) (apos:Pos) (e f:Expr) (cpos:Pos):Prop where
 base:attributeBase o m X.env (eval o X.env)=eval o X.env
 few:((backTo cpos (starEach [e,f] X.env)).all (fun x=>!x.1)&&(backToKw cpos (keywordEach [] X.env)).all (fun x=>x.1.isSome)
  && decide (([e,f]:List Expr).length+([]:List Keyword).length+(if ([]:List Keyword).isEmpty then 0 else 1)<30))=true
 line:(apos.endLine==cpos.line)=true
 trees:backTo cpos (starEach [e,f] X.env)=[(false,eval e X.env),(false,eval f X.env)]
def IsD (H:Hp) (a:Addr):Prop:=(∃ kvs,Rd H a (.dK kvs))∨∃ kvs,Rd H a (.dT kvs)
theorem isD_at {X:Cx}{pins:List (Addr×Obj)}{σ:St}{H:Hp}{s:Shared}{a:Addr} (I:Inv X pins σ H s) (d:IsD H a) :
  s.TypeIs (.ref a) "dict"∧(∀ b,Value.ref a=.ref b→∃ ob,s.heap.get? b=some ob∧ob.dict=none)∧(a==sysModules)=false:=by
 rcases d with ⟨kvs,e⟩ | ⟨kvs,e⟩
 ·obtain⟨_,hd,vs,_,dd⟩:=dk_rd I.hok e
  refine⟨dd.typeIs,fun b q=>?_,hd⟩
  cases q
  obtain⟨ob,_,_,h1,h2,_⟩:=dd
  exact⟨ob,h1,h2.2.1⟩
 ·obtain⟨_,hd,xs,_,dd⟩:=dt_rd I.hok e
  refine⟨dd.typeIs,fun b q=>?_,hd⟩
  cases q
  obtain⟨ob,_,_,h1,h2,_⟩:=dd
  exact⟨ob,h1,h2.2.1⟩
section
variable {X:Cx}{pins:List (Addr×Obj)}{σ:St}{H:Hp}{s:Shared}{a:Addr}{y d:V}{u r:Value}{o:Option V}{A:Around}{E:Value→Shared→Prop}
theorem d_get1 {Q:Value→Shared→Prop} (hu:A.units+1<cLine) (I:Inv X pins σ H s) (g:DGet H a y o) (ry:RelV y u) (h:∀ w' s',Inv X pins σ H s'→RelV (o.getD .non) w'→Q w' s') :
  wpAny (model X.prog X.w) A (call (.builtin "dict.get") [.ref a,u]) Q E s:=by
 rcases g with ⟨kvs,k,e,ey,l⟩ | ⟨kvs,k,b,e,ey,eb,l⟩
 ·subst ey
  obtain⟨z,hd,vs,rel,dd⟩:=dk_rd I.hok e
  refine call_meetsIn PySem.F.slot_dict_get dd.typeIs PySem.F.entry_dict_get (PySem.F.args_dict_get_2 _ _) (meets_dict_get (mixKind X.prog X.w) a (kV_is ry) hd) ⟨_,dd.mapOf,h _ _ (I.tok _) ?_⟩
  rw[l]
  exact (rel.val k).getD rfl
 ·subst ey
  cases (show u=Value.ref b from ry)
  obtain⟨z,hd,xs,rel,dd⟩:=dt_rd I.hok e
  refine call_meetsIn PySem.F.slot_dict_get dd.typeIs PySem.F.entry_dict_get (PySem.F.args_dict_get_2 _ _) (meetsH_dict_get (tupleKind (mixKind X.prog X.w)) a b hd) ⟨tupleKind_room_in1 hu,k,xs,key_of I.hok eb,dd,h _ _ (I.tok _) ?_⟩
  rw[l]
  exact (rel.val k).getD rfl
end
noncomputable def tDGet1 (td ty:TE):TE:=fun σ H Q=>td σ H fun x H1=>∃ a,x=.ref a∧IsD H1 a∧ty σ H1 fun y H2=>∃ o,DGet H2 a y o∧Q (o.getD .non) H2
noncomputable def tDPop2 (td ty tx:TE):TE:=fun σ H Q=>td σ H fun x H1=>∃ a,x=.ref a∧IsD H1 a∧ty σ H1 fun y H2=>tx σ H2 fun z H3=>∃ kvs k,H3 a=some (.dK kvs)∧y=kV k ∧
 (∀ v,valV kvs k=some v→Q v (upd H3 a (.dK (dropK kvs k))))∧(valV kvs k=none→Q z H3)
section
variable {X:Cx}{o e f:Expr}{apos cpos:Pos}{td ty tx:TE}
theorem pe_dget1 (hu:X.A.units+1<cLine) (ho:PE X o td) (he:PE X e ty) (m:M1 X o "get" apos e cpos):PE X (.Call (.Attribute o "get" apos) [e] [] cpos) (tDGet1 td ty):=by
 intro pins s σ H Q I h
 refine wpAny_Call_method m.base m.few m.line PySem.F.plainAttrs_dict PySem.F.slot_dict_get PySem.F.type_dict_get (thn (ho pins s σ H _ I h) fun u s1 ⟨x,H1,I1,rx,a,ex,d,q1⟩=>?_)
 subst ex
 obtain rfl:u=Value.ref a:=rx
 obtain⟨t1,t2,_⟩:=isD_at I1 d
 refine⟨t1,t2,?_⟩
 rw[m.trees]
 refine Calls.callWith_builtin rfl (Calls.evalArgs_plain (Calls.spliced_cons (thn (he pins s1 σ H1 _ I1 q1) fun iv s2 ⟨y,H2,I2,ry,ov,g,q2⟩=>Calls.spliced_nil ?_)))
 exact d_get1 hu I2 g ry fun w' s3 I3 rw'=>⟨_,H2,I3,rw',q2⟩
theorem pe_dpop2 (ho:PE X o td) (he:PE X e ty) (hf:PE X f tx) (m:M2 X o "pop" apos e f cpos):PE X (.Call (.Attribute o "pop" apos) [e,f] [] cpos) (tDPop2 td ty tx):=by
 intro pins s σ H Q I h
 refine wpAny_Call_method m.base m.few m.line PySem.F.plainAttrs_dict PySem.F.slot_dict_pop PySem.F.type_dict_pop (thn (ho pins s σ H _ I h) fun u s1 ⟨x,H1,I1,rx,a,ex,d,q1⟩=>?_)
 subst ex
 obtain rfl:u=Value.ref a:=rx
 obtain⟨t1,t2,_⟩:=isD_at I1 d
 refine⟨t1,t2,?_⟩
 rw[m.trees]
 refine Calls.callWith_builtin rfl (Calls.evalArgs_plain (Calls.spliced_cons (thn (he pins s1 σ H1 _ I1 q1) fun iv s2 ⟨y,H2,I2,ry,q2⟩ =>
  Calls.spliced_cons (thn (hf pins s2 σ H2 _ I2 q2) fun fv s3 ⟨z,H3,I3,rz,kvs,k,ea,ey,q3,q4⟩=>Calls.spliced_nil ?_))))
 subst ey
 cases l:valV kvs k with
 | some v=>exact d_pop I3 ea ry l (.inr ⟨fv,rfl⟩) fun w' s4 I4 rw'=>⟨v,_,I4,rw',q3 v l⟩
 | none=>exact d_popD I3 ea ry l fun s4 I4=>⟨z,H3,I4,rz,q4 l⟩
end
end L2
theorem obs {α β:Type _}{f:α→Option β}{o:Option α}{b:β} (h:o.bind f=some b):∃a,o=some a∧f a=some b:=Option.bind_eq_some_iff.mp h
namespace MP
open PySem
inductive D where
 | non | bl (b:Bool) | int (i:Int) | str (s:List Nat)
 | tup (xs:List D) | lst (xs:List D) | ref (n:Nat) | fn (f:Str) | exn (c:Nat)
 deriving Inhabited
inductive O where
 | lst (xs:List D)
 | dct (fz:Bool) (kvs:List (D×D))
 | ins (c:Str) (fs:List (Str×D))
noncomputable abbrev AH:=List O
noncomputable abbrev Ev:=List (Option D)
inductive Out where
 | ok (d:D) (h:AH)
 | exc (c:Nat) (h:AH)
 | bad
noncomputable abbrev Den:=List D→AH→Out
noncomputable abbrev SZ:Nat:=16777216
noncomputable def vw (h:AH):D→D
 | .ref n=>match h[n]? with
  | some (.lst xs)=>.lst xs
  | _=>.ref n
 | d=>d
noncomputable def pureN:Nat→D→Bool
 | _,.non=>true
 | _,.bl _=>true
 | _,.int _=>true
 | _,.str s=>s.all fun c=>decide (c<1114112)
 | n+1,.tup xs=>xs.all (pureN n)
 | n+1,.lst xs=>xs.all (pureN n)
 | _,_=>false
noncomputable abbrev pureD (d:D):Bool:=pureN 16 d
noncomputable abbrev pureDs (ds:List D):Bool:=ds.all (pureN 16)
noncomputable def b2z (b:Bool):Int:=if b then 1 else 0
mutual
noncomputable def eqD:D→D→Bool
 | .non,.non=>true
 | .bl a,.bl b=>a==b
 | .bl a,.int b=>b2z a==b
 | .int a,.bl b=>a==b2z b
 | .int a,.int b=>a==b
 | .str a,.str b=>a==b
 | .tup a,.tup b=>eqDs a b
 | .lst a,.lst b=>eqDs a b
 | _,_=>false
noncomputable def eqDs:List D→List D→Bool
 | [],[]=>true
 | a::as,b::bs=>eqD a b&&eqDs as bs
 | _,_=>false
end
noncomputable def inD (x:D) (ys:List D):Bool:=ys.any fun y=>eqD y x
noncomputable def flatD:D→Bool
 | .non=>true | .bl _=>true | .int _=>true | .str _=>true
 | _=>false
noncomputable def tru (h:AH) (d:D):Option Bool :=
 match vw h d with
 | .non=>some false
 | .bl b=>some b
 | .int i=>some (i != 0)
 | .str s=>if s.length≤SZ then some (!s.isEmpty) else none
 | .tup xs=>some (!xs.isEmpty)
 | .lst xs=>some (!xs.isEmpty)
 | _=>none
noncomputable def mulOk (a b:Int):Bool:=decide (a.natAbs<2 ^ 64)||decide (b.natAbs<2 ^ 64)||(decide (a.natAbs<2 ^ 4096)&&decide (b.natAbs<2 ^ 4096))
noncomputable def rep {α:Type} (k:Nat) (xs:List α):List α:=(List.replicate k xs).flatten
noncomputable def binD:Operator→D→D→Option D
 | .Add,.int a,.int b=>some (.int (a+b))
 | .Sub,.int a,.int b=>some (.int (a - b))
 | .Mult,.int a,.int b=>if mulOk a b then some (.int (a * b)) else none
 | .FloorDiv,.int a,.int b=>if 0<b∧b<2 ^ 100 then some (.int (a / b)) else none
 | .Mod,.int a,.int b=>if 0<b then some (.int (a % b)) else none
 | .Pow,.int a,.int b=>if 0≤b∧b≤1000000∧a.natAbs<2 ^ 64 then some (.int (a ^ b.toNat)) else none
 | .LShift,.int a,.int b=>if 0≤b∧b≤1000000∧a.natAbs<2 ^ 64 then some (.int (a * 2 ^ b.toNat)) else none
 | .Add,.str a,.str b=>if a.length+b.length≤SZ then some (.str (a++b)) else none
 | .Add,.tup a,.tup b=>if a.length+b.length≤SZ then some (.tup (a++b)) else none
 | .Add,.lst a,.lst b=>if a.length+b.length≤SZ then some (.lst (a++b)) else none
 | .Mult,.str a,.int k=>if 2≤k∧(!a.isEmpty)=true∧a.length * k.toNat≤SZ then some (.str (rep k.toNat a)) else none
 | .Mult,.tup a,.int k=>if 2≤k∧(!a.isEmpty)=true∧a.length * k.toNat≤SZ then some (.tup (rep k.toNat a)) else none
 | _,_,_=>none
noncomputable def isNon:D→Bool
 | .non=>true
 | _=>false
noncomputable def cmpD:CmpOp→D→D→Option Bool
 | .Eq,a,b=>if pureD a&&pureD b then some (eqD a b) else none
 | .NotEq,a,b=>if pureD a&&pureD b then some (!eqD a b) else none
 | .Lt,.int a,.int b=>some (decide (a<b))
 | .LtE,.int a,.int b=>some (decide (a≤b))
 | .Gt,.int a,.int b=>some (decide (b<a))
 | .GtE,.int a,.int b=>some (decide (b≤a))
 | .Is,a,.non=>some (isNon a)
 | .IsNot,a,.non=>some (!isNon a)
 | .In,x,.lst ys=>if pureD x&&pureDs ys then some (inD x ys) else none
 | .In,x,.tup ys=>if pureD x&&pureDs ys then some (inD x ys) else none
 | .NotIn,x,.lst ys=>if pureD x&&pureDs ys then some (!inD x ys) else none
 | .NotIn,x,.tup ys=>if pureD x&&pureDs ys then some (!inD x ys) else none
 | _,_,_=>none
noncomputable def ixN (n:Nat) (i:Int):Option Nat:=if 0≤i then (if i<n then some i.toNat else none) else if -(n:Int)≤i then some (i+n).toNat else none
noncomputable def atI {α:Type} (xs:List α) (i:Int):Option α:=(ixN xs.length i).bind fun j=>xs[j]?
noncomputable def idxD:D→D→Option D
 | .lst xs,.int i=>atI xs i
 | .tup xs,.int i=>atI xs i
 | .str s,.int i=>if s.length≤SZ then (atI s i).map fun c=>.str [c] else none
 | _,_=>none
noncomputable def sIx (n d:Nat):Option Int→Nat
 | none=>d
 | some v=>if v<0 then (v+(n:Int)).toNat else min v.toNat n
noncomputable def cut {α:Type} (xs:List α) (lo hi:Option Int):List α:=(xs.drop (sIx xs.length 0 lo)).take (sIx xs.length xs.length hi - sIx xs.length 0 lo)
noncomputable def slD:D→Option Int→Option Int→Option D
 | .lst xs,lo,hi=>some (.lst (cut xs lo hi))
 | .tup xs,lo,hi=>some (.tup (cut xs lo hi))
 | .str s,lo,hi=>if s.length≤SZ then some (.str (cut s lo hi)) else none
 | _,_,_=>none
inductive Bl where
 | len | min2 | max2 | minS | maxS | sum | sorted | list | tuple | int | all | sortedSet | range
 deriving DecidableEq
inductive Mt where
 | join | startswith | index
 deriving DecidableEq
inductive Ty where
 | bool | tuple | list | int | str | valueError | own (c:Nat)
 deriving DecidableEq
mutual
inductive PX where
 | var (i:Nat)
 | con (d:D)
 | bin (op:Operator) (a b:PX)
 | neg (a:PX)
 | cmp (op:CmpOp) (a b:PX)
 | cmp2 (op op':CmpOp) (a b c:PX)
 | and (a b:PX) | or (a b:PX) | not (a:PX)
 | ite (c:PB) (a b:PX)
 | tup (xs:List PX) | lst (xs:List PX) | new (xs:List PX)
 | idx (a b:PX)
 | sl (a:PX) (lo hi:Option PX)
 | call (f:Nat) (xs:List PX)
 | callV (a:Nat) (fs:List Str) (xs:List PX)
 | blt (b:Bl) (xs:List PX)
 | mt (m:Mt) (o:PX) (xs:List PX)
 | app (o:PX) (a:PX)
 | isi (a:PX) (t:Ty)
 | fst (xs:List PX)
 | comp (elt:PX) (cond:Option PB) (src:PI) (keep:List Nat)
 | fld (c:Str) (o:PX) (f:Str)
 | dnew
 | dget (o k:PX) | dgetN (o k:PX) | dpop (o k:PX) | dpopN (o k:PX)
 | din (neg:Bool) (k o:PX)
 | mcall (i:Nat) (c m:Str) (o:PX) (xs:List PX)
 | make (i:Nat) (c:Str) (xs:List PX)
 | dlen (o:PX) | dsrt (o:PX) | srtT (a:PX)
 | lrep (a n:PX) | srtR (a:PX) | minK (i:Nat) (a:PX)
inductive PB where
 | val (p:PX) | not (b:PB) | and (a b:PB) | or (a b:PB)
inductive PI where
 | seq (e:PX)
 | rng (e:PX)
end
inductive PTg where
 | nm (i:Nat) | tp (is:List Nat)
inductive PSt where
 | ret (e:PX) | retN
 | asg (t:PTg) (e:PX)
 | aug (i:Nat) (op:Operator) (e:PX)
 | ex (e:PX)
 | ifs (c:PB) (a b:List PSt)
 | forS (t:PTg) (it:PI) (b:List PSt)
 | brk | cnt | pas
 | rai (c:Nat) (xs:List PX)
 | tryW (b:List PSt) (ws:List (Nat×D))
 | fset (c:Str) (o:PX) (f:Str) (e:PX)
 | dput (o k v:PX)
 | forD (t:PTg) (e:PX) (b:List PSt)
 | forN (t:PTg) (e:PX) (b:List PSt)
 | forE (t:PTg) (it:PI)
noncomputable def ltInt:D→Option Int
 | .int i=>some i
 | _=>none
noncomputable def ints?:List D→Option (List Int)
 | []=>some []
 | .int i::r=>(ints? r).map (i::·)
 | _=>none
noncomputable def strs?:List D→Option (List (List Nat))
 | []=>some []
 | .str i::r=>(strs? r).map (i::·)
 | _=>none
noncomputable def bools?:List D→Option (List Bool)
 | []=>some []
 | .bl i::r=>(bools? r).map (i::·)
 | _=>none
noncomputable def seq?:D→Option (List D)
 | .lst xs=>some xs
 | .tup xs=>some xs
 | _=>none
noncomputable def bestI (lt:Int→Int→Bool):List Int→Int
 | []=>0
 | x::xs=>xs.foldl (fun a b=>if lt b a=true then b else a) x
noncomputable def dedI (l:List Int):List Int:=l.foldl (fun a k=>if a.any (·==k) then a else a++[k]) []
noncomputable def bltD:Bl→List D→Option D
 | .len,[.str s]=>if s.length≤SZ then some (.int s.length) else none
 | .len,[.lst s]=>some (.int s.length)
 | .len,[.tup s]=>some (.int s.length)
 | .min2,[.int a,.int b]=>some (.int (if b<a then b else a))
 | .max2,[.int a,.int b]=>some (.int (if b > a then b else a))
 | .list,[.lst s]=>some (.lst s)
 | .list,[.tup s]=>some (.lst s)
 | .tuple,[.lst s]=>some (.tup s)
 | .tuple,[.tup s]=>some (.tup s)
 | .int,[.int i]=>some (.int i)
 | .int,[.bl i]=>some (.int (b2z i))
 | .all,[.lst xs]=>(bools? xs).bind fun l=>some (.bl (l.all id))
 | .minS,[.tup xs]=>(ints? xs).bind fun l=>if 0<l.length then some (.int (bestI (fun a b=>decide (a<b)) l)) else none
 | .maxS,[.tup xs]=>(ints? xs).bind fun l=>if 0<l.length then some (.int (bestI (fun a b=>decide (a > b)) l)) else none
 | .sortedSet,[.lst xs]=>(ints? xs).bind fun l=>if l.length<64 then some (.lst (((dedI l).mergeSort fun a b=>decide (a≤b)).map .int)) else none
 | .sorted,[.lst xs]=>(ints? xs).bind fun l=>if l.length<64 then some (.lst ((l.mergeSort fun a b=>decide (a≤b)).map .int)) else none
 | _,_=>none
noncomputable def joinD (sep:List Nat):List (List Nat)→List Nat
 | []=>[]
 | [x]=>x
 | x::y::r=>x++sep++joinD sep (y::r)
noncomputable def mtD:Mt→D→List D→Option D
 | .join,.str s,[.lst xs]=>(strs? xs).bind fun l=>if (l.map List.length).sum+l.length * s.length≤SZ then some (.str (joinD s l)) else none
 | .startswith,.str s,[.str p]=>some (.bl (p.isPrefixOf s))
 | _,_,_=>none
noncomputable def isiD:D→Ty→Option Bool
 | .bl _,.bool=>some true
 | .int _,.bool=>some false | .str _,.bool=>some false | .non,.bool=>some false | .tup _,.bool=>some false | .lst _,.bool=>some false
 | .tup _,.tuple=>some true
 | .int _,.tuple=>some false | .str _,.tuple=>some false | .non,.tuple=>some false | .bl _,.tuple=>some false | .lst _,.tuple=>some false
 | .lst _,.list=>some true
 | .int _,.list=>some false | .str _,.list=>some false | .non,.list=>some false | .bl _,.list=>some false | .tup _,.list=>some false
 | _,_=>none
noncomputable def fmtD:D→Option (List Nat)
 | .str s=>if s.length≤SZ then some s else none
 | .int i=>if i.natAbs.log2<1920 then some (Str.ofString (toString i)).cps.toList else none
 | _=>none
noncomputable def fmtDs:List D→Option (List Nat)
 | []=>some []
 | d::ds=>match fmtD d,fmtDs ds with
  | some x,some y=>some (x++y)
  | _,_=>none
noncomputable abbrev Res:=Option (D×AH)
noncomputable abbrev Bnd {α β:Type} (x:Option (α×AH)) (f:α→AH→Option (β×AH)):Option (β×AH):=x.bind fun p=>f p.1 p.2
noncomputable def putO (o:Option D) (r:List D):List D:=match o with
 | some x=>x::r
 | none=>r
noncomputable def compL (f:D→AH→Option (Option D×AH)):List D→AH→Option (List D×AH)
 | [],h=>some ([],h)
 | d::ds,h=>(f d h).bind fun p=>(compL f ds p.2).bind fun q=>some (putO p.1 q.1,q.2)
noncomputable def itD (h:AH) (d:D):Option (List D):=match d with
 | .lst xs=>some xs
 | .tup xs=>some xs
 | .str s=>some (s.map fun c=>.str [c])
 | _=>none
noncomputable def rngD:D→Option (List D)
 | .int n=>if -(2 ^ 62)≤n∧n<2 ^ 62 then some ((List.range n.toNat).map fun i=>.int (i:Nat)) else none
 | _=>none
noncomputable def getV (ρ:Ev) (i:Nat):Option D:=(ρ[i]?).bind id
noncomputable def srtS (l:List (List Nat)):List (List Nat):=l.mergeSort fun a b=>decide (a≤b)
noncomputable def srtK (ks:List D):Option D:=match ints? ks with
 | some l=>if l.length<64 then some (.lst ((l.mergeSort fun a b=>decide (a≤b)).map .int)) else none
 | none=>match strs? ks with
  | some l=>if l.length<64 then some (.lst ((srtS l).map .str)) else none
  | none=>none
noncomputable def eqK:D→D→Bool
 | .int a,.int b=>a==b
 | .str a,.str b=>a==b
 | _,_=>false
noncomputable def isK:D→Bool
 | .int _ | .str _=>true
 | _=>false
noncomputable def lkD (kvs:List (D×D)) (k:D):Option D:=(kvs.find? fun p=>eqK p.1 k).map (·.2)
noncomputable def putD (kvs:List (D×D)) (k v:D):List (D×D):=if (kvs.any fun p=>eqK p.1 k)=true then kvs.map (fun p=>if eqK p.1 k=true then (p.1,v) else p) else kvs++[(k,v)]
noncomputable def dropD (kvs:List (D×D)) (k:D):List (D×D):=kvs.filter fun p=>!eqK p.1 k
noncomputable def dctAt (h:AH):D→Option (Nat×List (D×D))
 | .ref n=>match h[n]? with
  | some (.dct _ kvs)=>some (n,kvs)
  | _=>none
 | _=>none
noncomputable def dctW (h:AH):D→Option (Nat×List (D×D))
 | .ref n=>match h[n]? with
  | some (.dct false kvs)=>some (n,kvs)
  | _=>none
 | _=>none
noncomputable def insAt (h:AH) (c:Str):D→Option (Nat×List (Str×D))
 | .ref n=>match h[n]? with
  | some (.ins c' fs)=>if c'=c then some (n,fs) else none
  | _=>none
 | _=>none
noncomputable def putN (f:Str) (v:D):List (Str×D)→List (Str×D)
 | []=>[(f,v)]
 | (g,x)::r=>if g=f then (g,v)::r else (g,x)::putN f v r
noncomputable def ltL:List Int→List Int→Bool
 | [],[]=>false
 | [],_::_=>true
 | _::_,[]=>false
 | a::as,b::bs=>if a=b then ltL as bs else decide (a<b)
noncomputable def key3:D→Option (List Int)
 | .tup (.int a::.int b::.int c::_)=>some [a,b,c]
 | _=>none
noncomputable def keys3:List D→Option (List (List Int))
 | []=>some []
 | d::ds=>(key3 d).bind fun k=>(keys3 ds).bind fun ks=>some (k::ks)
noncomputable def le3 (a b:D):Bool:=match key3 a,key3 b with
 | some x,some y=>!ltL y x
 | _,_=>true
noncomputable def srtRD (xs:List D):Option (List D):=(keys3 xs).bind fun ks=>if ks.Nodup∧xs.length<64 then some (xs.mergeSort le3) else none
noncomputable def keyO (φ:Den) (h:AH) (x:D):Option (List Int):=match φ [x] h with
 | .ok (.tup ks) h'=>@ite _ (h'=h) (Classical.propDecidable _) (ints? ks) none
 | _=>none
noncomputable def minGo (φ:Den) (h:AH):List D→D→List Int→Option D
 | [],b,_=>some b
 | x::r,b,k=>(keyO φ h x).bind fun k'=>if ltL k' k=true then minGo φ h r x k' else minGo φ h r b k
noncomputable def minD (φ:Den) (h:AH):List D→Option D
 | []=>some .non
 | x::r=>(keyO φ h x).bind fun k=>minGo φ h r x k
noncomputable def dnD:D→Option (List D)
 | .int n=>if 0≤n∧n<2 ^ 62 then some ((List.range (n.toNat+1)).map fun (i:Nat)=>.int (n - i)) else none
 | _=>none
mutual
noncomputable def ev (G:List Den):PX→Ev→AH→Option (D×AH)
 | .var i,ρ,h=>(getV ρ i).bind fun d=>some (d,h)
 | .con d,_,h=>some (d,h)
 | .bin op a b,ρ,h=>(ev G a ρ h).bind fun p=>(ev G b ρ p.2).bind fun q=>(binD op (vw q.2 p.1) (vw q.2 q.1)).bind fun d=>some (d,q.2)
 | .neg a,ρ,h=>(ev G a ρ h).bind fun p=>match p.1 with | .int i=>some (.int (-i),p.2) | _=>none
 | .cmp op a b,ρ,h=>(ev G a ρ h).bind fun p=>(ev G b ρ p.2).bind fun q=>(cmpD op (vw q.2 p.1) (vw q.2 q.1)).bind fun d=>some (.bl d,q.2)
 | .cmp2 op op' a b c,ρ,h=>(ev G a ρ h).bind fun p=>(ev G b ρ p.2).bind fun q=>(cmpD op (vw q.2 p.1) (vw q.2 q.1)).bind fun k =>
   if k=true then (ev G c ρ q.2).bind fun r=>(cmpD op' (vw r.2 q.1) (vw r.2 r.1)).bind fun d=>some (.bl d,r.2) else some (.bl false,q.2)
 | .and a b,ρ,h=>(ev G a ρ h).bind fun p=>match p.1 with
  | .bl k=>if k=true then ev G b ρ p.2 else some (.bl false,p.2)
  | _=>none
 | .or a b,ρ,h=>(ev G a ρ h).bind fun p=>match p.1 with
  | .bl k=>if k=true then some (.bl true,p.2) else ev G b ρ p.2
  | _=>none
 | .not a,ρ,h=>(ev G a ρ h).bind fun p=>match p.1 with
  | .bl k=>some (.bl (!k),p.2)
  | _=>none
 | .ite c a b,ρ,h=>(evB G c ρ h).bind fun p=>if p.1=true then ev G a ρ p.2 else ev G b ρ p.2
 | .tup xs,ρ,h=>(evs G xs ρ h).bind fun p=>if p.1.length≤SZ then some (.tup p.1,p.2) else none
 | .lst xs,ρ,h=>(evs G xs ρ h).bind fun p=>if p.1.length≤SZ then some (.lst p.1,p.2) else none
 | .new xs,ρ,h=>(evs G xs ρ h).bind fun p=>if p.1.length≤SZ then some (.ref p.2.length,p.2++[.lst p.1]) else none
 | .idx a b,ρ,h=>(ev G a ρ h).bind fun p=>(ev G b ρ p.2).bind fun q=>(idxD (vw q.2 p.1) q.1).bind fun d=>some (d,q.2)
 | .sl a lo hi,ρ,h=>(ev G a ρ h).bind fun p=>(evo G lo ρ p.2).bind fun q=>(evo G hi ρ q.2).bind fun r=>(slD (vw r.2 p.1) q.1 r.1).bind fun d=>some (d,r.2)
 | .call f xs,ρ,h=>(evs G xs ρ h).bind fun p=>(G[f]?).bind fun φ=>match φ p.1 p.2 with | .ok d h'=>some (d,h') | _=>none
 | .callV i fs xs,ρ,h=>none
 | .blt b xs,ρ,h=>(evs G xs ρ h).bind fun p=>(bltD b (p.1.map (vw p.2))).bind fun d=>some (d,p.2)
 | .mt m o xs,ρ,h=>(ev G o ρ h).bind fun p=>(evs G xs ρ p.2).bind fun q=>(mtD m p.1 (q.1.map (vw q.2))).bind fun d=>some (d,q.2)
 | .app o a,ρ,h=>(ev G o ρ h).bind fun p=>match p.1 with
  | .ref n=>(match p.2[n]? with
   | some (.lst _)=>(ev G a ρ p.2).bind fun q=>(match q.2[n]? with
    | some (.lst xs)=>if xs.length<SZ then some (.non,q.2.set n (.lst (xs++[q.1]))) else none
    | _=>none)
   | _=>none)
  | _=>none
 | .fst xs,ρ,h=>(evs G xs ρ h).bind fun p=>(fmtDs p.1).bind fun t=>if t.length≤SZ then some (.str t,p.2) else none
 | .isi a t,ρ,h=>(ev G a ρ h).bind fun p=>(isiD (vw p.2 p.1) t).bind fun k=>some (.bl k,p.2)
 | .comp elt cond src keep,ρ,h=>(evI G src ρ h).bind fun p =>
   (compL (fun d h=>match cond with
    | none=>(ev G elt (some d::keep.map (getV ρ)) h).bind fun q=>some (some q.1,q.2)
    | some c=>(evB G c (some d::keep.map (getV ρ)) h).bind fun q =>
      if q.1=true then (ev G elt (some d::keep.map (getV ρ)) q.2).bind fun r=>some (some r.1,r.2) else some (none,q.2)) p.1 p.2).bind fun q =>
    if q.1.length≤SZ then some (.lst q.1,q.2) else none
 | .fld c o f,ρ,h=>(ev G o ρ h).bind fun p=>(insAt p.2 c p.1).bind fun q=>(q.2.lookup f).bind fun d=>some (d,p.2)
 | .dnew,_,h=>some (.ref h.length,h++[.dct false []])
 | .dget o k,ρ,h=>(ev G o ρ h).bind fun p=>(ev G k ρ p.2).bind fun q=>(dctAt q.2 p.1).bind fun r=>if isK q.1=true then (lkD r.2 q.1).bind fun d=>some (d,q.2) else none
 | .dgetN o k,ρ,h=>(ev G o ρ h).bind fun p=>(dctAt p.2 p.1).bind fun _=>(ev G k ρ p.2).bind fun q=>(dctAt q.2 p.1).bind fun r=>if isK q.1=true then some ((lkD r.2 q.1).getD .non,q.2) else none
 | .dpop o k,ρ,h=>(ev G o ρ h).bind fun p=>(dctAt p.2 p.1).bind fun _=>(ev G k ρ p.2).bind fun q=>(dctW q.2 p.1).bind fun r=>if isK q.1=true then (lkD r.2 q.1).bind fun d=>some (d,q.2.set r.1 (.dct false (dropD r.2 q.1))) else none
 | .dpopN o k,ρ,h=>(ev G o ρ h).bind fun p=>(dctAt p.2 p.1).bind fun _=>(ev G k ρ p.2).bind fun q=>(dctW q.2 p.1).bind fun r=>if isK q.1=true then (match lkD r.2 q.1 with
   | some d=>some (d,q.2.set r.1 (.dct false (dropD r.2 q.1)))
   | none=>some (.non,q.2)) else none
 | .din g k o,ρ,h=>(ev G k ρ h).bind fun p=>(ev G o ρ p.2).bind fun q=>(dctAt q.2 q.1).bind fun r=>if isK p.1=true then some (.bl (xor g (lkD r.2 p.1).isSome),q.2) else none
 | .mcall i c m o xs,ρ,h=>(ev G o ρ h).bind fun p=>(insAt p.2 c p.1).bind fun q=>if (q.2.lookup m).isNone=true then (evs G xs ρ p.2).bind fun r=>(G[i]?).bind fun φ=>match φ (p.1::r.1) r.2 with | .ok d h'=>some (d,h') | _=>none else none
 | .make i c xs,ρ,h=>(evs G xs ρ h).bind fun p=>(G[i]?).bind fun φ=>match φ (.ref p.2.length::p.1) (p.2++[.ins c []]) with | .ok .non h'=>some (.ref p.2.length,h') | _=>none
 | .dlen o,ρ,h=>(ev G o ρ h).bind fun p=>(dctAt p.2 p.1).bind fun r=>some (.int r.2.length,p.2)
 | .dsrt o,ρ,h=>(ev G o ρ h).bind fun p=>(dctAt p.2 p.1).bind fun r=>(srtK (r.2.map (·.1))).bind fun d=>some (d,p.2)
 | .srtT a,ρ,h=>(ev G a ρ h).bind fun p=>match vw p.2 p.1 with
  | .lst xs=>(strs? xs).bind fun l=>if l.length<64 then some (.lst ((srtS l).map .str),p.2) else none
  | _=>none
 | .lrep a n,ρ,h=>(ev G a ρ h).bind fun p=>(ev G n ρ p.2).bind fun q=>match vw q.2 p.1,q.1 with
  | .lst xs,.int i=>if i=0 then some (.lst [],q.2) else if i=1 then some (.lst xs,q.2) else none
  | _,_=>none
 | .srtR a,ρ,h=>(ev G a ρ h).bind fun p=>match vw p.2 p.1 with
  | .lst xs=>(srtRD xs).bind fun l=>some (.lst l,p.2)
  | _=>none
 | .minK i a,ρ,h=>(ev G a ρ h).bind fun p=>(G[i]?).bind fun φ=>match vw p.2 p.1 with
  | .lst xs=>(minD φ p.2 xs).bind fun d=>some (d,p.2)
  | _=>none
noncomputable def evB (G:List Den):PB→Ev→AH→Option (Bool×AH)
 | .val p,ρ,h=>(ev G p ρ h).bind fun p=>(tru p.2 p.1).bind fun k=>some (k,p.2)
 | .not b,ρ,h=>(evB G b ρ h).bind fun p=>some (!p.1,p.2)
 | .and a b,ρ,h=>(evB G a ρ h).bind fun p=>if p.1=true then evB G b ρ p.2 else some (false,p.2)
 | .or a b,ρ,h=>(evB G a ρ h).bind fun p=>if p.1=true then some (true,p.2) else evB G b ρ p.2
noncomputable def evs (G:List Den):List PX→Ev→AH→Option (List D×AH)
 | [],_,h=>some ([],h)
 | x::xs,ρ,h=>(ev G x ρ h).bind fun p=>(evs G xs ρ p.2).bind fun q=>some (p.1::q.1,q.2)
noncomputable def evo (G:List Den):Option PX→Ev→AH→Option (Option Int×AH)
 | none,_,h=>some (none,h)
 | some x,ρ,h=>(ev G x ρ h).bind fun p=>match p.1 with | .int i=>some (some i,p.2) | _=>none
noncomputable def evI (G:List Den):PI→Ev→AH→Option (List D×AH)
 | .seq e,ρ,h=>(ev G e ρ h).bind fun p=>(itD p.2 p.1).bind fun l=>some (l,p.2)
 | .rng e,ρ,h=>(ev G e ρ h).bind fun p=>(rngD p.1).bind fun l=>some (l,p.2)
end
noncomputable def evR (G:List Den) (e:PX) (ρ:Ev) (h:AH):Out:=match e with
 | .call f xs=>(match evs G xs ρ h with
  | some p=>(match G[f]? with
   | some φ=>φ p.1 p.2
   | none=>.bad)
  | none=>.bad)
 | .callV i fs xs=>(match getV ρ i with
  | some (.fn x)=>(match evs G xs ρ h with
   | some p=>(match fs.findIdx? (·==x) with
    | some n=>(match G[n]? with
     | some φ=>φ p.1 p.2
     | none=>.bad)
    | none=>.bad)
   | none=>.bad)
  | _=>.bad)
 | .mcall i c m o xs=>(match ev G o ρ h with
  | some p=>(match insAt p.2 c p.1 with
   | some q=>if (q.2.lookup m).isNone=true then (match evs G xs ρ p.2 with
    | some r=>(match G[i]? with
     | some φ=>φ (p.1::r.1) r.2
     | none=>.bad)
    | none=>.bad) else .bad
   | none=>.bad)
  | none=>.bad)
 | e=>(match ev G e ρ h with
  | some p=>.ok p.1 p.2
  | none=>.bad)
inductive R where
 | nx (ρ:Ev) (h:AH) | rt (d:D) (h:AH) | bk (ρ:Ev) (h:AH) | ct (ρ:Ev) (h:AH) | exc (c:Nat) (ρ:Ev) (h:AH) | bad
noncomputable def augD:Operator→D→D→Option D
 | .Add,.int a,.int b=>some (.int (a+b))
 | .Sub,.int a,.int b=>some (.int (a - b))
 | _,_,_=>none
noncomputable def setT:PTg→D→Ev→Option Ev
 | .nm i,d,ρ=>some (ρ.set i (some d))
 | .tp is,.tup xs,ρ=>if is.length=xs.length then some ((is.zip xs).foldl (fun r p=>r.set p.1 (some p.2)) ρ) else none
 | _,_,_=>none
noncomputable def thaw (n:Nat) (h:AH):Option AH:=match h[n]? with
 | some (.dct true kvs)=>some (h.set n (.dct false kvs))
 | _=>none
noncomputable def thawR (n:Nat):R→R
 | .nx ρ h=>match thaw n h with | some h'=>.nx ρ h' | none=>.bad
 | .rt d h=>match thaw n h with | some h'=>.rt d h' | none=>.bad
 | _=>.bad
noncomputable def forL (f:D→Ev→AH→R):List D→Ev→AH→R
 | [],ρ,h=>.nx ρ h
 | d::ds,ρ,h=>match f d ρ h with
  | .nx ρ' h'=>forL f ds ρ' h'
  | .ct ρ' h'=>forL f ds ρ' h'
  | .bk ρ' h'=>.nx ρ' h'
  | .rt d h'=>.rt d h'
  | .exc c ρ' h'=>.exc c ρ' h'
  | .bad=>.bad
mutual
noncomputable def exS (G:List Den):PSt→Ev→AH→R
 | .ret e,ρ,h=>match evR G e ρ h with | .ok d h'=>.rt d h' | .exc c h'=>.exc c ρ h' | .bad=>.bad
 | .retN,ρ,h=>.rt .non h
 | .asg t e,ρ,h=>match evR G e ρ h with
  | .ok d h'=>(match setT t d ρ with | some ρ'=>.nx ρ' h' | none=>.bad)
  | .exc c h'=>.exc c ρ h'
  | .bad=>.bad
 | .aug i op e,ρ,h=>match getV ρ i,ev G e ρ h with
  | some x,some p=>(match augD op x p.1 with
   | some z=>.nx (ρ.set i (some z)) p.2
   | none=>.bad)
  | _,_=>.bad
 | .ex e,ρ,h=>match evR G e ρ h with | .ok d h'=>.nx ρ h' | .exc c h'=>.exc c ρ h' | .bad=>.bad
 | .ifs c a b,ρ,h=>match evB G c ρ h with
  | some p=>if p.1=true then exSs G a ρ p.2 else exSs G b ρ p.2
  | none=>.bad
 | .forS t it b,ρ,h=>match evI G it ρ h with
  | some p=>forL (fun d ρ h=>match setT t d ρ with | some ρ'=>exSs G b ρ' h | none=>.bad) p.1 ρ p.2
  | none=>.bad
 | .brk,ρ,h=>.bk ρ h
 | .cnt,ρ,h=>.ct ρ h
 | .pas,ρ,h=>.nx ρ h
 | .rai c xs,ρ,h=>match evs G xs ρ h with | some p=>.exc c ρ p.2 | none=>.bad
 | .tryW b ws,ρ,h=>match exSs G b ρ h with
  | .exc c ρ' h'=>(match ws.lookup c with | some (.str t)=>.rt (.str t) h' | _=>.bad)
  | .nx ρ' h'=>.nx ρ' h'
  | .rt d h'=>.rt d h'
  | .bk ρ' h'=>.bk ρ' h'
  | .ct ρ' h'=>.ct ρ' h'
  | .bad=>.bad
 | .fset c o f e,ρ,h=>match evR G e ρ h with
  | .ok d h'=>(match ev G o ρ h' with
   | some p=>(match insAt p.2 c p.1 with
    | some q=>if q.2.length<1000 then .nx ρ (p.2.set q.1 (.ins c (putN f d q.2))) else .bad
    | none=>.bad)
   | none=>.bad)
  | .exc x h'=>.exc x ρ h'
  | .bad=>.bad
 | .dput o k v,ρ,h=>match evR G v ρ h with
  | .ok d h'=>(match ev G o ρ h' with
   | some p=>(match ev G k ρ p.2 with
    | some q=>(match dctW q.2 p.1 with
     | some r=>if isK q.1=true∧r.2.length<SZ then .nx ρ (q.2.set r.1 (.dct false (putD r.2 q.1 d))) else .bad
     | none=>.bad)
    | none=>.bad)
   | none=>.bad)
  | .exc x h'=>.exc x ρ h'
  | .bad=>.bad
 | .forD t e b,ρ,h=>match ev G e ρ h with
  | some p=>(match dctW p.2 p.1 with
   | some r=>thawR r.1 (forL (fun d ρ h=>match setT t d ρ with | some ρ'=>exSs G b ρ' h | none=>.bad) (r.2.map (·.1)) ρ (p.2.set r.1 (.dct true r.2)))
   | none=>.bad)
  | none=>.bad
 | .forN t e b,ρ,h=>match ev G e ρ h with
  | some p=>(match dnD p.1 with
   | some l=>forL (fun d ρ h=>match setT t d ρ with | some ρ'=>exSs G b ρ' h | none=>.bad) l ρ p.2
   | none=>.bad)
  | none=>.bad
 | .forE t it,ρ,h=>match evI G it ρ h with
  | some p=>(match p.1 with
   | []=>.nx ρ p.2
   | _=>.bad)
  | none=>.bad
noncomputable def exSs (G:List Den):List PSt→Ev→AH→R
 | [],ρ,h=>.nx ρ h
 | s::r,ρ,h=>match exS G s ρ h with
  | .nx ρ' h'=>exSs G r ρ' h'
  | .rt d h'=>.rt d h'
  | .bk ρ' h'=>.bk ρ' h'
  | .ct ρ' h'=>.ct ρ' h'
  | .exc c ρ' h'=>.exc c ρ' h'
  | .bad=>.bad
end
mutual
noncomputable def nrf:D→Bool
 | .ref _=>false
 | .tup xs=>nrfs xs
 | .lst xs=>nrfs xs
 | _=>true
noncomputable def nrfs:List D→Bool
 | []=>true
 | x::xs=>nrf x&&nrfs xs
end
noncomputable def startE (n:Nat) (args:List D):Ev:=args.map some++List.replicate (n - args.length) none
noncomputable def runF (G:List Den) (np n:Nat) (b:List PSt):Den:=fun args h=>if args.length=np then (match exSs G b (startE n args) h with
 | .rt d h'=>.ok d h'
 | .nx _ h'=>.ok .non h'
 | .exc c _ h'=>.exc c h'
 | _=>.bad) else .bad
noncomputable def cutDen (f:Den):Den:=fun ds h=>match f ds h with
 | .ok d h'=>@ite _ (nrf d=true∧h'.take h.length=h) (Classical.propDecidable _) (.ok d h) (.ok d h')
 | .exc c h'=>@ite _ (h'.take h.length=h) (Classical.propDecidable _) (.exc c h) (.exc c h')
 | r=>r
theorem cutDen_ok {f:Den}{ds:List D}{h h':AH}{d:D} (e:f ds h=.ok d h') (n:nrf d=true) (t:h'.take h.length=h):cutDen f ds h=.ok d h:=by
 unfold cutDen
 rw[e]
 simp[n,t]
theorem cutDen_same {f:Den}{ds:List D}{h:AH}{d:D} (e:f ds h=.ok d h):cutDen f ds h=.ok d h:=by
 unfold cutDen
 rw[e]
 simp
theorem cutDen_exc {f:Den}{ds:List D}{h h':AH}{c:Nat} (e:f ds h=.exc c h') (t:h'.take h.length=h):cutDen f ds h=.exc c h:=by
 unfold cutDen
 rw[e]
 simp[t]
noncomputable def errs:List Str:=["BadRoute","BadRule","NoNeighbour","NoLine"]
end MP
namespace MP
open PySem
structure CC where
 N:List Str
 nm:List (Str×NameKind)
 ct:List (Str×D)
 fs:List Str
 bl:List Str
 mu:List Nat
 er:List Nat:=[]
 tw:Option (Str×Str×List (Nat×D)):=none
 fd:List (Str×Str):=[]
 ms:List (Nat×Str×Str):=[]
 mn:List (Nat×Str):=[]
noncomputable def lk (nm:List (Str×NameKind)) (x:Str):Option NameKind:=nm.lookup x
noncomputable def plainName (x:Str):Bool:=!(x==("__debug__":Str))&&!(x==("__classdict__":Str))&&!(x==("__name__":Str))
noncomputable def isVis:Option NameKind→Bool
 | some .local=>true | some .cell=>true | some .free=>true | _=>false
noncomputable def isLoc:Option NameKind→Bool
 | some .local=>true | some .cell=>true | _=>false
noncomputable def CC.var (C:CC) (x:Str):Option Nat:=if isVis (lk C.nm x)&&plainName x then C.N.findIdx? (·==x) else none
noncomputable def CC.isGl (C:CC) (x:Str):Bool:=(lk C.nm x==some .globalImplicit)&&plainName x
noncomputable def CC.isBl (C:CC) (x:Str):Bool:=C.isGl x&&C.bl.contains x
noncomputable def reNames (C:CC) (names:List (Str×NameKind)):List (Str×NameKind) :=
 names.map fun (n,k)=>if (k==.free&&lk C.nm n==some .cell) then (n,.cell) else (n,k)
noncomputable def freeNames (names:List (Str×NameKind)):List Str:=names.filterMap fun (n,k)=>if k==.free then some n else none
noncomputable def varsOf (C:CC):List Str→Option (List Nat)
 | []=>some []
 | x::r=>match C.var x,varsOf C r with
  | some i,some l=>some (i::l)
  | _,_=>none
noncomputable def compOk (C:CC) (x:Str) (sc:Scope):Bool :=
 (sc.kind==.function)&&(sc.names.lookup x==some .local)&&plainName x&&sc.names.all (fun y=>!(y.2==.cell)) &&
 sc.names.all (fun y=>!(y.2==.local)||(sc.names.lookup y.1==some .local))&&(sc.names.map (·.1)).Nodup &&
 sc.names.all (fun y=>!(y.2==.free)||(lk C.nm y.1==some .cell||lk C.nm y.1==some .free))
noncomputable def bltOf (x:Str) (as:List PX):Option PX :=
 if x=="len" then some (.blt .len as)
 else if x=="min"&&as.length==2 then some (.blt .min2 as)
 else if x=="max"&&as.length==2 then some (.blt .max2 as)
 else if x=="min"&&as.length==1 then some (.blt .minS as)
 else if x=="max"&&as.length==1 then some (.blt .maxS as)
 else if x=="sorted" then some (.blt .sorted as)
 else if x=="sum" then some (.blt .sum as)
 else if x=="all" then some (.blt .all as)
 else if x=="list" then some (.blt .list as)
 else if x=="tuple" then some (.blt .tuple as)
 else if x=="int" then some (.blt .int as)
 else if x=="range"&&as.length==1 then some (.blt .range as)
 else none
noncomputable def tyOf (C:CC) (t:Str):Option Ty :=
 if C.isBl t then
  (if t=="bool" then some .bool else if t=="tuple" then some .tuple else if t=="list" then some .list else none)
 else none
noncomputable def noSuper:Expr→Bool
 | .Call _ [] [] _=>false
 | _=>true
noncomputable def kCon:Const→Option PX
 | .none=>some (.con .non)
 | .bool b=>some (.con (.bl b))
 | .int i=>some (.con (.int i))
 | .str s=>some (.con (.str s.cps.toList))
 | _=>none
noncomputable def kName (C:CC) (x:Str):Option PX:=match C.var x with
 | some i=>some (.var i)
 | none=>if C.isGl x then (match C.ct.lookup x with
  | some d=>some (.con d)
  | none=>if C.fs.contains x then some (.con (.fn x)) else none) else none
end MP
namespace MP
open PySem PySem.Spec PyProof.Rows L2
noncomputable abbrev Th:=List Addr
noncomputable abbrev St:=L2.St
noncomputable abbrev SS (s:List Nat):Str:=⟨s.toArray⟩
mutual
inductive RepV (K:PySem.W.Frag) (H:Hp) (th:Th):D→V→Prop
 | non:RepV K H th .non .non
 | bl (b:Bool):RepV K H th (.bl b) (.bl b)
 | int (i:Int):RepV K H th (.int i) (.int i)
 | str (s:List Nat):RepV K H th (.str s) (.str (SS s))
 | tup {ds:List D}{vs:List V}{a:Addr}:SqT K H a vs→RepVs K H th ds vs→RepV K H th (.tup ds) (.ref a)
 | lst {ds:List D}{vs:List V}{a:Addr}:SqL K H a vs→a ∉ th→RepVs K H th ds vs→RepV K H th (.lst ds) (.ref a)
 | ref {n:Nat}{a:Addr}:th[n]?=some a→RepV K H th (.ref n) (.ref a)
 | fn {x:Str}{a:Addr}:PySem.W.nsIn K mainGlobals x=some (some (.ref a))→RepV K H th (.fn x) (.ref a)
inductive RepVs (K:PySem.W.Frag) (H:Hp) (th:Th):List D→List V→Prop
 | nil:RepVs K H th [] []
 | cons {d:D}{v:V}{ds:List D}{vs:List V}:RepV K H th d v→RepVs K H th ds vs→RepVs K H th (d::ds) (v::vs)
end
noncomputable def keyD:D→Option Key
 | .int i=>some (Sum.inl i)
 | .str x=>some (Sum.inr (SS x))
 | _=>none
noncomputable def DAt (H:Hp) (a:Addr):Bool→List (Key×V)→Prop
 | false,us=>H a=some (.dK us)
 | true,us=>∃ ob,H a=some (.frz ob (.dK us))
theorem DAt.rd {H:Hp}{a:Addr}{us:List (Key×V)}:∀ {fz:Bool},DAt H a fz us→Rd H a (.dK us)
 | false,e=>.inl e
 | true,e=>.inr e
theorem DAt.eq {H H':Hp}{a:Addr}{us:List (Key×V)} (e:H' a=H a):∀ {fz:Bool},DAt H a fz us→DAt H' a fz us
 | false,q=>e.trans q
 | true,⟨ob,q⟩=>⟨ob,e.trans q⟩
noncomputable def RepO (K:PySem.W.Frag) (H:Hp) (th:Th) (a:Addr):O→Prop
 | .lst ds=>∃ vs,H a=some (.lst vs)∧RepVs K H th ds vs
 | .dct fz kvs=>∃ us,DAt H a fz us∧kvs.map (fun p=>keyD p.1)=us.map (fun p=>some p.1)∧RepVs K H th (kvs.map (·.2)) (us.map (·.2))
 | .ins c fs=>∃ C dx us,PySem.W.nsIn K mainGlobals c=some (some (.ref C))∧H a=some (.ins C dx us)∧fs.map (·.1)=us.map (·.1)∧RepVs K H th (fs.map (·.2)) (us.map (·.2))
structure Wd (K:PySem.W.Frag) (th:Th) (h:AH) (H:Hp):Prop where
 nd:th.Nodup
 len:th.length=h.length
 kd:∀ a∈th,K.lookup a=none
 obj:∀ (n:Nat) (a:Addr) (o:O),th[n]?=some a→h[n]?=some o→RepO K H th a o
structure Gr (th th':Th) (H H':Hp):Prop where
 pre:∃ t,th'=th++t
 keep:∀ a o,H a=some o→a ∉ th→H' a=some o
 tups:∀ a xs,Rd H a (.tup xs)→Rd H' a (.tup xs)
 new:∀ a,a∈th'→a ∉ th→H a=none
 frz:∀ a o u,H a=some (.frz o u)→H' a=some (.frz o u)
theorem Gr.refl (th:Th) (H:Hp):Gr th th H H:=⟨⟨[],by simp⟩,fun _ _ h _=>h,fun _ _ h=>h,fun a h1 h2=>absurd h1 h2,fun _ _ _ h=>h⟩
theorem Gr.trans {th th1 th2:Th}{H H1 H2:Hp} (a:Gr th th1 H H1) (b:Gr th1 th2 H1 H2):Gr th th2 H H2 where
 pre:=by
  obtain⟨t,rfl⟩:=a.pre
  obtain⟨u,rfl⟩:=b.pre
  exact⟨t++u,by simp⟩
 keep:=fun c o h n=>b.keep c o (a.keep c o h n) fun z=>by
  have:=a.new c z n
  rw[h] at this
  cases this
 tups:=fun c xs h=>b.tups c xs (a.tups c xs h)
 new:=fun c z n=>by
  by_cases z1:c∈th1
  ·exact a.new c z1 n
  ·have e:=b.new c z z1
   cases q:H c with
   | none=>rfl
   | some o =>
    rw[a.keep c o q n] at e
    cases e
 frz:=fun c o u h=>b.frz c o u (a.frz c o u h)
theorem nodup_ixA {N:List Addr} (hN:N.Nodup) {i j:Nat}{x:Addr} (a:N[i]?=some x) (b:N[j]?=some x):i=j:=by
 obtain⟨hi,ha⟩:=List.getElem?_eq_some_iff.mp a
 obtain⟨hj,hb⟩:=List.getElem?_eq_some_iff.mp b
 rcases Nat.lt_trichotomy i j with h | h | h
 ·exact absurd (ha.trans hb.symm) ((List.pairwise_iff_getElem.mp hN) i j hi hj h)
 ·exact h
 ·exact absurd (hb.trans ha.symm) ((List.pairwise_iff_getElem.mp hN) j i hj hi h)
theorem RepVs.length {K:PySem.W.Frag}{H:Hp}{th:Th}:∀ {ds:List D}{vs:List V},RepVs K H th ds vs→ds.length=vs.length
 | _,_,.nil=>rfl
 | _,_,.cons _ t=>by simp[RepVs.length t]
section
variable {K:PySem.W.Frag}{th th':Th}{h:AH}{H H':Hp}
theorem RepO.some {a:Addr}{o:O} (r:RepO K H th a o):H a≠none:=by
 cases o with
 | lst ds=>obtain⟨vs,e,_⟩:=r;rw[e];simp
 | dct _ _ =>
  obtain⟨us,e,_⟩:=r
  rcases e.rd with e | ⟨ob,e⟩
  ·rw[e];simp
  ·rw[e];simp
 | ins _ _=>obtain⟨_,_,us,_,e,_⟩:=r;rw[e];simp
theorem Wd.there (w:Wd K th h H) {a:Addr} (m:a∈th):H a≠none:=by
 obtain⟨n,hn,e⟩:=List.mem_iff_getElem.mp m
 have hh:n<h.length:=by rw[← w.len];exact hn
 exact (w.obj n a h[n] (by rw[List.getElem?_eq_getElem hn,e]) (List.getElem?_eq_getElem hh)).some
theorem Wd.notin (w:Wd K th h H) {a:Addr} (e:H a=none):a ∉ th:=fun m=>w.there m e
theorem SqT.mono {a:Addr}{xs:List V} (g:Gr th th' H H') (q:SqT K H a xs):SqT K H' a xs:=by
 rcases q with q | q
 ·exact .inl (g.tups a xs q)
 ·exact .inr q
theorem SqL.mono {a:Addr}{xs:List V} (g:Gr th th' H H') (n:a ∉ th) (q:SqL K H a xs):SqL K H' a xs:=by
 rcases q with (q | ⟨o,q⟩) | q
 ·exact .inl (.inl (g.keep a _ q n))
 ·exact .inl (.inr ⟨o,g.keep a _ q n⟩)
 ·exact .inr q
theorem notin_mono {a:Addr}{xs:List V} (g:Gr th th' H H') (kd:∀ a∈th',K.lookup a=none) (n:a ∉ th) (q:SqL K H a xs):a ∉ th':=fun m=>by
 have e:=g.new a m n
 rcases q with (q | ⟨o,q⟩) | ⟨o,its,k,q,_⟩
 ·rw[q] at e;cases e
 ·rw[q] at e;cases e
 ·rw[kd a m] at q;cases q
mutual
theorem RepV.mono (g:Gr th th' H H') (kd:∀ a∈th',K.lookup a=none):∀ {d:D}{v:V},RepV K H th d v→RepV K H' th' d v
 | _,_,.non=>.non
 | _,_,.bl b=>.bl b
 | _,_,.int i=>.int i
 | _,_,.str s=>.str s
 | _,_,.tup q r=>.tup (SqT.mono g q) (RepVs.mono g kd r)
 | _,_,.lst q n r=>.lst (SqL.mono g n q) (notin_mono g kd n q) (RepVs.mono g kd r)
 | _,_,.ref (n:=n) e=>.ref (by
   obtain⟨t,rfl⟩:=g.pre
   have hn:n<th.length:=(List.getElem?_eq_some_iff.mp e).1
   rw[List.getElem?_append_left hn]
   exact e)
 | _,_,.fn e=>.fn e
theorem RepVs.mono (g:Gr th th' H H') (kd:∀ a∈th',K.lookup a=none):∀ {ds:List D}{vs:List V},RepVs K H th ds vs→RepVs K H' th' ds vs
 | _,_,.nil=>.nil
 | _,_,.cons a b=>.cons (RepV.mono g kd a) (RepVs.mono g kd b)
end
theorem RepVs.get:∀ {ds:List D}{vs:List V}{i:Nat}{d:D},RepVs K H th ds vs→ds[i]?=some d→∃ v,vs[i]?=some v∧RepV K H th d v
 | _,_,_,_,.nil,e=>by simp at e
 | _,_,0,_,.cons r _,e=>by simp at e;subst e;exact⟨_,rfl,r⟩
 | _,_,i+1,d,.cons _ t,e=>by
  obtain⟨v,h1,h2⟩:=RepVs.get (i:=i) (d:=d) t (by simpa using e)
  exact⟨v,by simpa using h1,h2⟩
theorem RepVs.append:∀ {xs ys:List D}{us ws:List V},RepVs K H th xs us→RepVs K H th ys ws→RepVs K H th (xs++ys) (us++ws)
 | _,_,_,_,.nil,s=>s
 | _,_,_,_,.cons r t,s=>.cons r (RepVs.append t s)
theorem RepVs.take:∀ {xs:List D}{us:List V} (n:Nat),RepVs K H th xs us→RepVs K H th (xs.take n) (us.take n)
 | _,_,0,_=>by simp;exact .nil
 | _,_,_+1,.nil=>.nil
 | _,_,n+1,.cons r t=>.cons r (RepVs.take n t)
theorem RepVs.drop:∀ {xs:List D}{us:List V} (n:Nat),RepVs K H th xs us→RepVs K H th (xs.drop n) (us.drop n)
 | _,_,0,r=>r
 | _,_,_+1,.nil=>.nil
 | _,_,n+1,.cons _ t=>RepVs.drop n t
theorem RepO.mono {a:Addr}{o:O} (g:Gr th th' H H') (kd:∀ a∈th',K.lookup a=none) (e:H' a=H a) (r:RepO K H th a o):RepO K H' th' a o:=by
 cases o with
 | lst ds=>obtain⟨vs,q,r⟩:=r;exact⟨vs,by rw[e];exact q,r.mono g kd⟩
 | dct _ _=>obtain⟨us,q,k,r⟩:=r;exact⟨us,q.eq e,k,r.mono g kd⟩
 | ins _ _=>obtain⟨C,dx,us,c,q,k,r⟩:=r;exact⟨C,dx,us,c,by rw[e];exact q,k,r.mono g kd⟩
theorem Gr.laid {p:Addr}{o:HO} (th:Th) (hp:H p=none):Gr th th H (upd H p o) where
 pre:=⟨[],by simp⟩
 keep:=fun a u e _=>by rw[upd_ne (ne_of_none e hp)];exact e
 tups:=fun a xs r=>by
  rcases r with r | ⟨u,r⟩
  ·exact .inl (by rw[upd_ne (ne_of_none r hp)];exact r)
  ·exact .inr ⟨u,by rw[upd_ne (ne_of_none r hp)];exact r⟩
 new:=fun a h1 h2=>absurd h1 h2
 frz:=fun a o u h=>by rw[upd_ne (ne_of_none h hp)];exact h
theorem Wd.mono0 {H':Hp} (w:Wd K th h H) (g:Gr th th H H') (s:∀ a∈th,H' a=H a):Wd K th h H' :=
 ⟨w.nd,w.len,w.kd,fun n a o e1 e2=>(w.obj n a o e1 e2).mono g w.kd (s a (List.mem_of_getElem? e1))⟩
theorem Wd.laid {p:Addr}{o:HO} (w:Wd K th h H) (hp:H p=none):Wd K th h (upd H p o) :=
 w.mono0 (Gr.laid th hp) fun a m=>upd_ne fun e=>w.there m (e▸hp)
theorem Gr.added {p:Addr}{o:HO} (th:Th) (hp:H p=none):Gr th (th++[p]) H (upd H p o) where
 pre:=⟨[p],rfl⟩
 keep:=(Gr.laid th hp).keep
 tups:=(Gr.laid th hp).tups
 new:=fun a h1 h2=>by
  rcases List.mem_append.mp h1 with z | z
  ·exact absurd z h2
  ·have:a=p:=by simpa using z
   rw[this];exact hp
 frz:=(Gr.laid th hp).frz
theorem Wd.added {p:Addr}{o:HO}{u:O} (w:Wd K th h H) (hp:H p=none) (hk:K.lookup p=none) (r:RepO K (upd H p o) (th++[p]) p u):Wd K (th++[p]) (h++[u]) (upd H p o):=by
 have hn:p ∉ th:=w.notin hp
 have kd:∀ a∈th++[p],K.lookup a=none:=fun a m=>by
  rcases List.mem_append.mp m with z | z
  ·exact w.kd a z
  ·have:a=p:=by simpa using z
   rw[this];exact hk
 refine⟨?_,by simp[w.len],kd,fun n a x e1 e2=>?_⟩
 ·rw[List.nodup_append]
  refine⟨w.nd,by simp,?_⟩
  intro a ha b hb
  have:b=p:=by simpa using hb
  rw[this]
  exact fun e=>hn (e▸ha)
 ·by_cases hlt:n<th.length
  ·rw[List.getElem?_append_left hlt] at e1
   rw[List.getElem?_append_left (by rw[← w.len];exact hlt)] at e2
   have m:a∈th:=List.mem_of_getElem? e1
   exact (w.obj n a x e1 e2).mono (Gr.added th hp) kd (upd_ne fun e=>hn (e▸m))
  ·have h1:th.length≤n:=Nat.le_of_not_lt hlt
   have hn':n<(th++[p]).length:=(List.getElem?_eq_some_iff.mp e1).1
   have:n=th.length:=by simp at hn';omega
   subst this
   rw[List.getElem?_append_right (Nat.le_refl _)] at e1
   rw[w.len,List.getElem?_append_right (Nat.le_refl _)] at e2
   simp at e1 e2
   subst e1 e2
   exact r
theorem Gr.wroteO {a:Addr}{o:HO} (hm:a∈th) (nt:∀ xs,¬ Rd H a (.tup xs)) (nf:∀ u x,H a≠some (.frz u x)):Gr th th H (upd H a o) where
 pre:=⟨[],by simp⟩
 keep:=fun c u q n=>by
  have:c≠a:=fun z=>n (z▸hm)
  rw[upd_ne this];exact q
 tups:=fun c ys r=>by
  have hc:c≠a:=fun z=>nt ys (z▸r)
  rcases r with r | ⟨u,r⟩
  ·exact .inl (by rw[upd_ne hc];exact r)
  ·exact .inr ⟨u,by rw[upd_ne hc];exact r⟩
 new:=fun c h1 h2=>absurd h1 h2
 frz:=fun c u x q=>by
  have hc:c≠a:=fun z=>nf u x (by rw[← z];exact q)
  rw[upd_ne hc]
  exact q
theorem Wd.wroteO {a:Addr}{n:Nat}{o:HO}{u:O} (w:Wd K th h H) (hn:th[n]?=some a) (nt:∀ xs,¬ Rd H a (.tup xs)) (nf:∀ u x,H a≠some (.frz u x)) (r:RepO K (upd H a o) th a u):Wd K th (h.set n u) (upd H a o):=by
 have hm:=List.mem_of_getElem? hn
 refine⟨w.nd,by simp[w.len],w.kd,fun m b x e1 e2=>?_⟩
 by_cases hmn:m=n
 ·subst hmn
  rw[hn] at e1
  cases e1
  have hlt:m<h.length:=by rw[← w.len];exact (List.getElem?_eq_some_iff.mp hn).1
  rw[List.getElem?_set_self hlt] at e2
  cases e2
  exact r
 ·rw[List.getElem?_set_ne (Ne.symm hmn)] at e2
  have hba:b≠a:=fun z=>by
   subst z
   exact hmn (nodup_ixA w.nd e1 hn)
  exact (w.obj m b x e1 e2).mono (Gr.wroteO hm nt nf) w.kd (upd_ne hba)
theorem nt_of {a:Addr}{o:HO} (e:H a=some o) (h1:∀ xs,o≠.tup xs) (h2:∀ u x,o≠.frz u x) (xs:List V):¬ Rd H a (.tup xs):=fun r=>by
 rcases r with r | ⟨u,r⟩
 ·rw[e] at r;exact h1 xs (Option.some.inj r)
 ·rw[e] at r;exact h2 _ _ (Option.some.inj r)
theorem nf_of {a:Addr}{o:HO} (e:H a=some o) (h2:∀ u x,o≠.frz u x) (u:Obj) (x:HO):H a≠some (.frz u x):=fun z=>by rw[e] at z;exact h2 u x (Option.some.inj z)
theorem Gr.wrote {a:Addr}{o:HO}{xs:List V} (hm:a∈th) (e:H a=some (.lst xs)):Gr th th H (upd H a o):=Gr.wroteO hm (nt_of e (fun _ z=>nomatch z) fun _ _ z=>nomatch z) (nf_of e fun _ _ z=>nomatch z)
theorem Wd.wrote {a:Addr}{n:Nat}{o:HO}{u:O}{xs:List V} (w:Wd K th h H) (hn:th[n]?=some a) (e:H a=some (.lst xs)) (r:RepO K (upd H a o) th a u):Wd K th (h.set n u) (upd H a o):=w.wroteO hn (nt_of e (fun _ z=>nomatch z) fun _ _ z=>nomatch z) (nf_of e fun _ _ z=>nomatch z) r
def RepW (K:PySem.W.Frag) (H:Hp) (th:Th) (d:D) (v:V):Prop:=match d with
 | .lst ds=>∃ a vs,v=.ref a∧SqL K H a vs∧RepVs K H th ds vs
 | d=>RepV K H th d v
theorem RepV.view {d:D}{v:V} (w:Wd K th h H) (r:RepV K H th d v):RepW K H th (vw h d) v:=by
 cases r with
 | non=>exact .non
 | bl b=>exact .bl b
 | int i=>exact .int i
 | str s=>exact .str s
 | tup q r=>exact .tup q r
 | lst q n r=>exact⟨_,_,rfl,q,r⟩
 | fn e=>exact RepV.fn e
 | @ref n a e =>
  have hn:n<h.length:=by rw[← w.len];exact (List.getElem?_eq_some_iff.mp e).1
  have ro:=w.obj n a h[n] e (List.getElem?_eq_getElem hn)
  have ev:vw h (.ref n)=(match h[n]? with | some (.lst xs)=>.lst xs | _=>.ref n):=rfl
  rw[ev,List.getElem?_eq_getElem hn]
  cases q:h[n] with
  | lst xs =>
   rw[q] at ro
   obtain⟨vs,e2,r2⟩:=ro
   exact⟨a,vs,rfl,SqL.of e2,r2⟩
  | dct _=>exact RepV.ref e
  | ins _ _=>exact RepV.ref e
end
structure EnvR (K:PySem.W.Frag) (H:Hp) (th:Th) (ρ:Ev) (σ:St):Prop where
 len:ρ.length=σ.length
 val:∀ i d,getV ρ i=some d→∃ v,σ[i]?=some (some v)∧RepV K H th d v
theorem EnvR.mono {K:PySem.W.Frag}{th th':Th}{H H':Hp}{ρ:Ev}{σ:St} (g:Gr th th' H H') (kd:∀ a∈th',K.lookup a=none) (r:EnvR K H th ρ σ):EnvR K H' th' ρ σ :=
 ⟨r.len,fun i d e=>let ⟨v,e1,r1⟩:=r.val i d e;⟨v,e1,r1.mono g kd⟩⟩
theorem getV_set_self {ρ:Ev}{i:Nat}{d:D}{x:Option D} (h:getV (ρ.set i x) i=some d):x=some d:=by
 unfold getV at h
 by_cases hi:i<ρ.length
 ·rw[List.getElem?_set_self hi] at h;simpa using h
 ·rw[List.getElem?_eq_none (by simp;omega)] at h;simp at h
theorem getV_set_ne {ρ:Ev}{i j:Nat}{x:Option D} (h:i≠j):getV (ρ.set i x) j=getV ρ j:=by
 unfold getV
 rw[List.getElem?_set_ne h]
theorem EnvR.set {K:PySem.W.Frag}{th:Th}{H:Hp}{ρ:Ev}{σ:St}{d:D}{v:V} (r:EnvR K H th ρ σ) (i:Nat) (q:RepV K H th d v):EnvR K H th (ρ.set i (some d)) (σ.set i (some v)):=by
 refine⟨by simp[r.len],fun j e hj=>?_⟩
 by_cases hij:i=j
 ·subst hij
  have:=getV_set_self hj
  cases this
  have hi:i<σ.length:=by
   rw[← r.len]
   unfold getV at hj
   by_cases hi:i<ρ.length
   ·exact hi
   ·rw[List.getElem?_eq_none (by simp;omega)] at hj;simp at hj
  exact⟨v,List.getElem?_set_self hi,q⟩
 ·rw[getV_set_ne hij] at hj
  obtain⟨u,e1,r1⟩:=r.val j e hj
  exact⟨u,by rw[List.getElem?_set_ne hij];exact e1,r1⟩
noncomputable def rdE (K:PySem.W.Frag) (G:List Den) (p:PX):TE:=fun σ H Q=>∃ th ρ h d h',Wd K th h H∧EnvR K H th ρ σ∧ev G p ρ h=some (d,h') ∧
 ∀ v H' th',RepV K H' th' d v→Wd K th' h' H'→Gr th th' H H'→Q v H'
noncomputable def rdA (K:PySem.W.Frag) (G:List Den) (ps:List PX):TA:=fun σ H Q=>∃ th ρ h ds h',Wd K th h H∧EnvR K H th ρ σ∧evs G ps ρ h=some (ds,h') ∧
 ∀ vs H' th',RepVs K H' th' ds vs→Wd K th' h' H'→Gr th th' H H'→Q vs H'
theorem _root_.L2.PE.imp {X:Cx}{e:Expr}{t t':TE} (p:PE X e t) (h:∀ σ H Q,t' σ H Q→t σ H Q):PE X e t':=fun pins s σ H Q I q=>p pins s σ H Q I (h σ H Q q)
theorem _root_.L2.PA.imp {X:Cx}{e:List Expr}{t t':TA} (p:PA X e t) (h:∀ σ H Q,t' σ H Q→t σ H Q):PA X e t':=fun pos pins s σ H Q I q=>p pos pins s σ H Q I (h σ H Q q)
theorem _root_.L2.PT.imp {X:Cx}{e:Expr}{t t':TT} (p:PT X e t) (h:∀ σ H Q,t' σ H Q→t σ H Q):PT X e t':=fun pins s σ H Q I q=>p pins s σ H Q I (h σ H Q q)
theorem _root_.L2.PW.imp {X:Cx}{e:Expr}{t t':TT} (p:PW X e t) (h:∀ σ H Q,t' σ H Q→t σ H Q):PW X e t':=fun wh pins s σ H Q I q=>p wh pins s σ H Q I (h σ H Q q)
theorem _root_.L2.PS.imp {X:Cx}{e:Stmt}{t t':TS} (p:PS X e t) (h:∀ D σ H,t' D σ H→t D σ H):PS X e t':=fun pins s σ H D I q=>p pins s σ H D I (h D σ H q)
theorem _root_.L2.PSs.imp {X:Cx}{e:List Stmt}{t t':TS} (p:PSs X e t) (h:∀ D σ H,t' D σ H→t D σ H):PSs X e t':=fun pins s σ H D I q=>p pins s σ H D I (h D σ H q)
noncomputable def rdOp (K:PySem.W.Frag) (f:D→D→Option D):R2:=fun x y H Q=>∃ th h dx dy d,Wd K th h H∧RepW K H th dx x∧RepW K H th dy y∧f dx dy=some d ∧
 ∀ v H',RepV K H' th d v→Wd K th h H'→Gr th th H H'→Q v H'
theorem rd2 {K:PySem.W.Frag}{G:List Den}{p q:PX}{σ:St}{H:Hp}{Q:V→V→Hp→Prop}{th:Th}{ρ:Ev}{h h1 h2:AH}{d1 d2:D}
  (w:Wd K th h H) (e:EnvR K H th ρ σ) (e1:ev G p ρ h=some (d1,h1)) (e2:ev G q ρ h1=some (d2,h2))
  (k:∀ x y H' th',RepV K H' th' d1 x→RepV K H' th' d2 y→Wd K th' h2 H'→Gr th th' H H'→Q x y H') :
  rdE K G p σ H fun x H1=>rdE K G q σ H1 fun y H2=>Q x y H2 :=
 ⟨th,ρ,h,d1,h1,w,e,e1,fun x H1 th1 r1 w1 g1=>⟨th1,ρ,h1,d2,h2,w1,e.mono g1 w1.kd,e2,fun y H2 th2 r2 w2 g2=>k x y H2 th2 (r1.mono g2 w2.kd) r2 w2 (g1.trans g2)⟩⟩
theorem noFill_tup_mul:fillsNumberSlot (.type "tuple") "mul"=pure false :=
 PySem.fillsNumberSlot_seq (id:="tuple.__mul__") (r:=some (.builtin "tuple.__rmul__")) PySem.F.slot_tuple_mul.lookup (by decide +kernel) PySem.F.slot_tuple_rmul.lookup (by decide +kernel)
theorem repeat_tup:seqRepeat? (.type "tuple")=pure (some (.builtin "tuple.__mul__")):=by
 unfold seqRepeat?
 rw[PySem.seqSlot_of (T:="tuple") (name:="__mul__") (id:="tuple.__mul__") PySem.F.slot_tuple_mul.lookup (by decide +kernel),PySem.seqSlot_of (T:="tuple") (name:="__rmul__") (id:="tuple.__rmul__") PySem.F.slot_tuple_rmul.lookup (by decide +kernel)]
 rfl
section
variable {X:Cx}
theorem rmul_tup {prog:Program}{w:World}{A:Around}{E:Value→Shared→Prop}{s:Shared}{k:Int}{t:Tok}{l:Addr}{its:Array Value}{Q:Value→Shared→Prop} (ht:IsTup s.heap l its) (h:Q .notImplemented s):wpAny (model prog w) A (call (.builtin "int.__rmul__") [.int k t,.ref l]) Q E s:=by
 refine wpAny_call_entry PySem.F.slot_int_rmul (typeIs_int s k t) PySem.F.entry_int_rmul ?_ (PySem.F.args_int_rmul_2 _ _)
 obtain⟨o,ho,hc,n,hd⟩:=ht
 obtain⟨hp,g,d,tk,os⟩:=s
 obtain⟨c,od,dt,sl⟩:=o
 dsimp only at hc ho hd ⊢
 subst hc hd
 wp_walk
 exact⟨_,rfl,h⟩
theorem op_repT : OpR X (binaryOp .Mult) (fun x y H Q => ∃ l k xs, x = .ref l ∧ y = .int k ∧ SqT X.K H l xs ∧ xs ≠ [] ∧ 2 ≤ k ∧ xs.length * k.toNat ≤ sizeLine ∧ ∀ p, H p = none → Q (.ref p) (upd H p (.tup (List.replicate k.toNat xs).flatten))) := by
  intro pins s σ H x y v u Q I rx ry h
  obtain ⟨l, k, xs, rfl, rfl, hq, hne, hk, hz, q⟩ := h
  cases rx
  obtain ⟨t, rfl⟩ := ry
  obtain ⟨its, r, ht, hz0⟩ := I.tuple hq
  have hl := r.length
  have hb : its.length * k.toNat ≤ 16777216 := by
    have : sizeLine = 16777216 := by decide
    rw [← hl, ← this]; exact hz
  have hne' : its ≠ [] := fun e => hne (by rw [e] at hl; exact List.length_eq_zero_iff.mp hl)
  have hpos : 0 < its.length := List.length_pos_iff.mpr hne'
  have hk2 : k.toNat ≤ 16777216 := Nat.le_trans (Nat.le_mul_of_pos_left _ hpos) hb
  have hkc : (k.toNat : Int) = k := Int.toNat_of_nonneg (by omega)
  have hbz : (its.length : Int) * k ≤ 16777216 := by
    have := Int.ofNat_le.mpr hb
    rw [Int.natCast_mul, hkc] at this
    exact this
  have f0 : ∀ m : Nat, List.foldl (fun x1 x2 => x1 ++ x2) #[] (List.replicate m its.toArray) = (List.replicate m its).flatten.toArray := fun m => by
    have := foldl_rep its m []
    rw [List.nil_append] at this
    exact this
  refine wpAny_binaryOp_repeat_ref (T := "tuple") (U := "int") (by decide) ht.typeIs (fun s' => typeIs_int s' k t) noFill_tup_mul PySem.F.fills_int_mul PySem.F.slot_int_rmul repeat_tup PySem.F.slot_int_index.lookup (rmul_tup ht ⟨rfl, ht.typeIs, ?_⟩)
  refine wpAny_call_entry PySem.F.slot_tuple_mul ht.typeIs PySem.F.entry_tuple_mul ?_ (PySem.F.args_tuple_mul_2 _ _)
  show wpAny _ _ (asIndex (.int k t) >>= _) _ _ s
  refine wpAny_bind (wpAny_of_eq (a := k) rfl ?_)
  dsimp only
  rw [if_neg (by simp; omega)]
  refine wpAny_bind (tupleItemsOf_ ht ?_)
  have hem : its.toArray.isEmpty = false := by cases its with | nil => exact absurd rfl hne' | cons _ _ => rfl
  rw [hem]
  rw [if_neg (by simp; omega)]
  rw [if_neg (by simp; omega)]
  rw [if_neg (by rw [List.size_toArray]; omega)]
  rw [if_neg (by unfold Builtin.Tuple.tupleTooMany; rw [List.size_toArray]; simp; have : (sizeLine : Int) = 16777216 := by decide
                 omega)]
  rw [f0]
  have hfl : (List.replicate k.toNat xs).flatten.length ≤ sizeLine := by rw [len_rep, Nat.mul_comm]; exact hz
  have hfi : (List.replicate k.toNat its).flatten.length = (List.replicate k.toNat xs).flatten.length := by rw [len_rep, len_rep, hl]
  refine wpAny_bind (m := Builtin.Tuple.tupleExact _) (wpAny_newObj_type (wpAny_pure ⟨_, rfl, ?_⟩) (by show (List.replicate k.toNat its).flatten.toArray.size ≤ sizeLine; rw [List.size_toArray, hfi]; exact hfl))
  exact ⟨.ref s.heap.objs.size, _, I.laid (t' := s.toks) (fun b o e => Heap.get?_push_of_some _ e) (Nat.le_refl _) (show ObjOk X.prog X.w _ _ _ (.tup (List.replicate k.toNat xs).flatten) from ⟨hfl, _, r.rep k.toNat, IsTup.new _ _⟩), rfl, q _ (I.hok.fresh (Nat.le_refl _))⟩
theorem foldl_repN (its:List Nat):∀ (k:Nat) (acc:List Nat),List.foldl (fun x1 x2=>x1++x2) acc.toArray (List.replicate k its.toArray)=(acc++(List.replicate k its).flatten).toArray
 | 0,acc=>by simp
 | k+1,acc=>by
  rw[List.replicate_succ,List.foldl_cons,List.append_toArray,foldl_repN its k (acc++its),List.replicate_succ,List.flatten_cons,List.append_assoc]
theorem op_repS:OpR X (binaryOp .Mult) (fun x y H Q=>∃ z k,x=.str (SS z)∧y=.int k∧2≤k∧z≠[]∧z.length * k.toNat≤16777216∧Q (.str (SS (List.replicate k.toNat z).flatten)) H):=by
 intro pins s σ H x y v u Q I rx ry h
 obtain⟨z,k,rfl,rfl,hk,hne,hb,q⟩:=h
 obtain⟨t,rfl⟩:=rx
 obtain⟨t',rfl⟩:=ry
 have hl:(SS z).length=z.length:=by simp[SS,Str.length]
 have hpos:0<z.length:=List.length_pos_iff.mpr hne
 have hk2:k.toNat≤16777216:=Nat.le_trans (Nat.le_mul_of_pos_left _ hpos) hb
 have hkc:(k.toNat:Int)=k:=Int.toNat_of_nonneg (by omega)
 have hbz:(z.length:Int) * k≤16777216:=by
  have:=Int.ofNat_le.mpr hb
  rw[Int.natCast_mul,hkc] at this
  exact this
 have hc:(k==1||(SS z).length==0)=false:=by
  rw[hl]
  have h1:(k==1)=false:=by simp;omega
  have h2:(z.length==0)=false:=by simp;exact hne
  rw[h1,h2]
  rfl
 have e:Txt.mul (SS z) k=SS (List.replicate k.toNat z).flatten:=by
  unfold Txt.mul
  rw[if_neg (by omega),hc]
  have:=foldl_repN z k.toNat []
  rw[List.nil_append] at this
  show Str.mk (List.foldl (fun x1 x2=>x1++x2) [].toArray (List.replicate k.toNat z.toArray))=_
  rw[this]
 refine SB.mul ⟨by simp;omega,fun _ _=>?_,fun _ _=>?_⟩ fun t2 k2=>⟨.str (SS (List.replicate k.toNat z).flatten),H,I.tok k2,⟨t2,by rw[e]⟩,q⟩
 ·rw[hl]
  have:(z.length:Int)≤(2 ^ 63 - 1) / k:=Int.le_ediv_of_mul_le (by omega) (by omega)
  omega
 ·rw[hl]
  unfold Builtin.Str.tooLong
  have:sizeLine=16777216:=by decide
  simp
  omega
end
section
variable {K:PySem.W.Frag}{H:Hp}{th:Th}{v:V}
theorem RepW.inon (r:RepW K H th .non v):v=.non:=by cases (show RepV K H th .non v from r);rfl
theorem RepW.ibl {b:Bool} (r:RepW K H th (.bl b) v):v=.bl b:=by cases (show RepV K H th (.bl b) v from r);rfl
theorem RepW.iint {i:Int} (r:RepW K H th (.int i) v):v=.int i:=by cases (show RepV K H th (.int i) v from r);rfl
theorem RepW.istr {s:List Nat} (r:RepW K H th (.str s) v):v=.str (SS s):=by cases (show RepV K H th (.str s) v from r);rfl
theorem RepW.itup {ds:List D} (r:RepW K H th (.tup ds) v):∃ a vs,v=.ref a∧SqT K H a vs∧RepVs K H th ds vs:=by
 cases (show RepV K H th (.tup ds) v from r) with
 | tup q r'=>exact⟨_,_,rfl,q,r'⟩
theorem RepW.ilst {ds:List D} (r:RepW K H th (.lst ds) v):∃ a vs,v=.ref a∧SqL K H a vs∧RepVs K H th ds vs:=r
end
theorem SS_append (a b:List Nat):(SS a++SS b:Str)=SS (a++b):=by
 show (⟨a.toArray++b.toArray⟩:Str)=⟨(a++b).toArray⟩
 simp
theorem SS_length (a:List Nat):(SS a).length=a.length:=by
 show a.toArray.size=a.length
 simp
theorem SZ_eq:sizeLine=SZ:=by decide
theorem log2_lt_of {n k:Nat} (hk:0<k) (h:n<2 ^ k):n.log2<k:=by
 by_cases h0:n=0
 ·subst h0
  have:Nat.log2 0=0:=by decide
  omega
 ·exact (Nat.log2_lt h0).mpr h
theorem mulOk_ok {a b:Int} (h:mulOk a b=true):IntMulOk a b:=by
 unfold mulOk at h
 rw[Bool.or_eq_true,Bool.or_eq_true,Bool.and_eq_true] at h
 rcases h with (h | h) | ⟨h1,h2⟩
 ·have h:=of_decide_eq_true h
  exact .of_left (intBits_le_64 (by omega) (by omega))
 ·have h:=of_decide_eq_true h
  exact .of_right (intBits_le_64 (by omega) (by omega))
 ·have h1:=of_decide_eq_true h1
  have h2:=of_decide_eq_true h2
  have b1:Builtin.Int.intBits a≤4096:=by
   unfold Builtin.Int.intBits
   split
   ·omega
   ·have:=log2_lt_of (by decide) h1
    omega
  have b2:Builtin.Int.intBits b≤4096:=by
   unfold Builtin.Int.intBits
   split
   ·omega
   ·have:=log2_lt_of (by decide) h2
    omega
  unfold IntMulOk
  have hb:Builtin.Int.intTooBig ((Builtin.Int.intBits a:Int)+(Builtin.Int.intBits b:Int))=false:=by
   unfold Builtin.Int.intTooBig
   have:¬ (((Builtin.Int.intBits a:Int)+(Builtin.Int.intBits b:Int)) > (bitsLine:Int)):=by
    have:(bitsLine:Int)=134217728:=by decide
    omega
   simpa using this
  simp[hb]
section
variable {X:Cx}
theorem op_mulM:OpR X (binaryOp .Mult) (rI (fun a b=>mulOk a b=true) fun i j=>.int (i * j)):=opI fun _ _ _ _ _ _ _ hc q=>mul_int q (mulOk_ok hc)
theorem op_fdivM:OpR X (binaryOp .FloorDiv) (rI (fun _ b=>0<b∧b<2 ^ 100) fun i j=>.int (i / j)):=opI fun i j _ _ _ _ _ hc q=>by
 have h1:(0:Int)<j:=hc.1
 have h2:j<2 ^ 100:=hc.2
 have h3:j.natAbs<2 ^ 100:=by omega
 have h4:=log2_lt_of (by decide) h3
 exact floordiv_int (by omega) (by rw[Int.fdiv_eq_ediv_of_nonneg i (by omega)];exact q) (.inl (PyProof.noPylong_of_log2 (by omega)))
theorem op_catS:OpR X (binaryOp .Add) (fun x y H Q=>∃ l b xs zs,x=.ref l∧y=.ref b∧SqL X.K H l xs∧SqL X.K H b zs∧xs.length+zs.length≤sizeLine∧∀ p,H p=none→Q (.ref p) (upd H p (.lst (xs++zs)))):=by
 intro pins s σ H x y v u Q I rx ry h
 obtain⟨l,b,xs,zs,rfl,rfl,hH,hB,hz,q⟩:=h
 cases rx
 cases ry
 obtain⟨its,r,pl,hz1⟩:=I.list hH
 obtain⟨its2,r2,pl2,hz2⟩:=I.list hB
 have e1:=r.length
 have e2:=r2.length
 obtain⟨⟨cls,dd,data,sl⟩,ho,hc,n,hd⟩:=pl.isList
 obtain⟨⟨cls2,dd2,data2,sl2⟩,ho2,hc2,n2,hd2⟩:=pl2.isList
 simp only at hc hd hc2 hd2
 subst hc hd hc2 hd2
 have e:its.toArray++its2.toArray=(its++its2).toArray:=by simp
 refine concat_meets ⟨_,ho,rfl⟩ ⟨_,ho2,rfl⟩ noFill_list_add seq_list_add PySem.F.slot_list_add PySem.F.entry_list_add (PySem.F.args_list_add_2 _ _) (list_addW l b its.toArray its2.toArray n n2 dd dd2 sl sl2 (by rw[List.size_toArray,List.size_toArray];omega)) ⟨ho,ho2,?_⟩
 rw[e]
 exact⟨.ref _,_,I.lnew (t':=s.toks) (r.append r2) (by rw[List.length_append];omega),rfl,q _ I.fresh⟩
theorem op_catTS:OpR X (binaryOp .Add) (fun x y H Q=>∃ l b xs zs,x=.ref l∧y=.ref b∧SqT X.K H l xs∧SqT X.K H b zs∧xs.length+zs.length≤sizeLine ∧
  (xs=[]→Q (.ref b) H)∧(zs=[]→Q (.ref l) H)∧∀ p,H p=none→Q (.ref p) (upd H p (.tup (xs++zs)))):=by
 intro pins s σ H x y v u Q I rx ry h
 obtain⟨l,b,xs,zs,rfl,rfl,hH,hB,hz,q1,q2,q3⟩:=h
 cases rx
 cases ry
 obtain⟨its,r,pl,hz1⟩:=I.tuple hH
 obtain⟨its2,r2,pl2,hz2⟩:=I.tuple hB
 have e1:=r.length
 have e2:=r2.length
 by_cases hv:its=[]
 ·obtain⟨⟨cls,dd,data,sl⟩,ho,hc,n,hd⟩:=id pl
  obtain⟨⟨cls2,dd2,data2,sl2⟩,ho2,hc2,n2,hd2⟩:=id pl2
  simp only at hc hd hc2 hd2
  subst hc hd hc2 hd2
  exact concat_meets ⟨_,ho,rfl⟩ ⟨_,ho2,rfl⟩ noFill_tuple_add seq_tuple_add PySem.F.slot_tuple_add PySem.F.entry_tuple_add (PySem.F.args_tuple_add_2 _ _)
   (tuple_addW0 l b its.toArray its2.toArray n n2 dd dd2 sl sl2 (by simp[hv])) ⟨ho,ho2,⟨.ref b,H,I,rfl,q1 (r.nil_iff.mp hv)⟩⟩
 ·refine HT.cat_tup pl pl2 hv (fun e=>?_) (fun _=>?_) (by omega)
  ·exact⟨.ref l,H,I,rfl,q2 (r2.nil_iff.mp e)⟩
  ·refine⟨.ref s.heap.objs.size,_,I.laid (t':=s.toks) (o:=.tup (xs++zs)) (fun b ob q=>Heap.get?_push_of_some _ q) (Nat.le_refl _) ?_,rfl,q3 _ (I.hok.fresh (Nat.le_refl _))⟩
   exact⟨by rw[List.length_append];exact hz,_,r.append r2,IsTup.new _ _⟩
theorem RepVs.rep {K:PySem.W.Frag}{H:Hp}{th:Th}{ds:List D}{vs:List V}:∀ k:Nat,RepVs K H th ds vs→RepVs K H th (MP.rep k ds) (List.replicate k vs).flatten
 | 0,_=>.nil
 | k+1,r=>by
  show RepVs K H th (List.replicate (k+1) ds).flatten _
  rw[List.replicate_succ,List.replicate_succ,List.flatten_cons,List.flatten_cons]
  exact r.append (RepVs.rep k r)
theorem op_binD (op:Operator):OpR X (binaryOp op) (rdOp X.K (binD op)):=by
 intro pins s σ H x y v u Q I rx ry h
 obtain⟨th,ah,dx,dy,d,w,wx,wy,e,k⟩:=h
 have kk:∀ v,RepV X.K H th d v→Q v H:=fun v r=>k v H r w (Gr.refl _ _)
 have kx:=k
 unfold binD at e
 split at e
 ·cases e;cases wx.iint;cases wy.iint
  exact op_add pins s σ H _ _ v u Q I rx ry ⟨_,_,rfl,rfl,kk _ (.int _)⟩
 ·cases e;cases wx.iint;cases wy.iint
  exact op_sub pins s σ H _ _ v u Q I rx ry ⟨_,_,rfl,rfl,kk _ (.int _)⟩
 ·split at e
  ·rename_i hc
   cases e;cases wx.iint;cases wy.iint
   exact op_mulM pins s σ H _ _ v u Q I rx ry ⟨_,_,rfl,rfl,hc,kk _ (.int _)⟩
  ·cases e
 ·split at e
  ·rename_i hc
   cases e;cases wx.iint;cases wy.iint
   exact op_fdivM pins s σ H _ _ v u Q I rx ry ⟨_,_,rfl,rfl,hc,kk _ (.int _)⟩
  ·cases e
 ·split at e
  ·rename_i hc
   cases e;cases wx.iint;cases wy.iint
   exact op_mod pins s σ H _ _ v u Q I rx ry ⟨_,_,rfl,rfl,hc,kk _ (.int _)⟩
  ·cases e
 ·split at e
  ·rename_i hc
   cases e;cases wx.iint;cases wy.iint
   exact op_pow pins s σ H _ _ v u Q I rx ry ⟨_,_,rfl,rfl,hc,kk _ (.int _)⟩
  ·cases e
 ·split at e
  ·rename_i hc
   cases e;cases wx.iint;cases wy.iint
   exact op_shl pins s σ H _ _ v u Q I rx ry ⟨_,_,rfl,rfl,hc,kk _ (.int _)⟩
  ·cases e
 ·split at e
  ·rename_i hc
   cases e;cases wx.istr;cases wy.istr
   exact op_add_str pins s σ H _ _ v u Q I rx ry ⟨_,_,rfl,rfl,by rw[SS_length,SS_length,SZ_eq];exact hc,by rw[SS_append];exact kk _ (.str _)⟩
  ·cases e
 ·split at e
  ·rename_i a b hc
   cases e
   obtain⟨l,xs,rfl,qx,r1⟩:=wx.itup
   obtain⟨m,ys,rfl,qy,r2⟩:=wy.itup
   have l1:=r1.length
   have l2:=r2.length
   refine op_catTS pins s σ H _ _ v u Q I rx ry ⟨l,m,xs,ys,rfl,rfl,qx,qy,by rw[SZ_eq];omega,fun z=>?_,fun z=>?_,fun p hp=>?_⟩
   ·subst z
    cases r1
    exact kk _ (.tup qy (by simpa using r2))
   ·subst z
    cases r2
    exact kk _ (.tup qx (by simpa using r1))
   ·have g:=Gr.laid (H:=H) (o:=.tup (xs++ys)) th hp
    exact k _ _ (.tup (SqT.of upd_same) ((r1.append r2).mono g w.kd)) (w.laid hp) g
  ·cases e
 ·split at e
  ·rename_i a b hc
   cases e
   obtain⟨l,xs,rfl,qx,r1⟩:=wx.ilst
   obtain⟨m,ys,rfl,qy,r2⟩:=wy.ilst
   have l1:=r1.length
   have l2:=r2.length
   refine op_catS pins s σ H _ _ v u Q I rx ry ⟨l,m,xs,ys,rfl,rfl,qx,qy,by rw[SZ_eq];omega,fun p hp=>?_⟩
   have g:=Gr.laid (H:=H) (o:=.lst (xs++ys)) th hp
   exact k _ _ (.lst (SqL.of upd_same) (w.notin hp) ((r1.append r2).mono g w.kd)) (w.laid hp) g
  ·cases e
 ·split at e
  ·rename_i a kz hc
   cases e;cases wx.istr;cases wy.iint
   exact op_repS pins s σ H _ _ v u Q I rx ry ⟨a,kz,rfl,rfl,hc.1,fun z=>by rw[z] at hc;simp at hc,hc.2.2,kk _ (.str _)⟩
  ·cases e
 ·split at e
  ·rename_i a kz hc
   cases e
   cases wy.iint
   obtain⟨l,xs,rfl,qx,r1⟩:=wx.itup
   have l1:=r1.length
   refine op_repT pins s σ H _ _ v u Q I rx ry ⟨l,kz,xs,rfl,rfl,qx,fun z=>?_,hc.1,by rw[SZ_eq,← l1];exact hc.2.2,fun p hp=>?_⟩
   ·rw[z] at l1
    have:a=[]:=List.length_eq_zero_iff.mp l1
    rw[this] at hc
    simp at hc
   ·have g:=Gr.laid (H:=H) (o:=.tup (List.replicate kz.toNat xs).flatten) th hp
    exact kx _ _ (.tup (SqT.of upd_same) ((RepVs.rep kz.toNat r1).mono g w.kd)) (w.laid hp) g
  ·cases e
 ·cases e
end
mutual
noncomputable def toPy:D→PyData
 | .non=>.none
 | .bl b=>.bool b
 | .int i=>.int i
 | .str s=>.str (SS s)
 | .tup xs=>.tuple (toPys xs)
 | .lst xs=>.list (toPys xs)
 | _=>.none
noncomputable def toPys:List D→List PyData
 | []=>[]
 | x::xs=>toPy x::toPys xs
end
theorem strOk_SS {s:List Nat} (h:(s.all fun c=>decide (c<1114112))=true):PyData.strOk (SS s)=true:=by
 unfold PyData.strOk
 show s.toArray.all _=true
 rw[List.all_toArray]
 simpa using h
theorem canLay_py:∀ (n:Nat) (d:D),pureN n d=true→(toPy d).canLay0=true∧(toPy d).depth≤n:=by
 have lists:∀ n:Nat,(∀ d,pureN n d=true→(toPy d).canLay0=true∧(toPy d).depth≤n)→∀ ds:List D,ds.all (pureN n)=true→PyData.canLayAll0 (toPys ds)=true∧PyData.depthAll (toPys ds)≤n:=by
  intro n ih ds
  induction ds with
  | nil=>intro _;exact⟨rfl,Nat.zero_le _⟩
  | cons d ds ih2 =>
   intro h
   rw[List.all_cons,Bool.and_eq_true] at h
   obtain⟨h1,h2⟩:=h
   obtain⟨a1,a2⟩:=ih d h1
   obtain⟨b1,b2⟩:=ih2 h2
   exact⟨by show (PyData.canLay0 (toPy d)&&PyData.canLayAll0 (toPys ds))=true;rw[a1,b1];rfl,by show max (PyData.depth (toPy d)) (PyData.depthAll (toPys ds))≤n;omega⟩
 intro n
 induction n with
 | zero =>
  intro d h
  cases d with
  | str s=>exact⟨strOk_SS h,Nat.zero_le _⟩
  | non=>exact⟨rfl,Nat.zero_le _⟩
  | bl b=>exact⟨rfl,Nat.zero_le _⟩
  | int i=>exact⟨rfl,Nat.zero_le _⟩
  | _=>cases h
 | succ n ih =>
  intro d h
  cases d with
  | str s=>exact⟨strOk_SS h,Nat.zero_le _⟩
  | non=>exact⟨rfl,Nat.zero_le _⟩
  | bl b=>exact⟨rfl,Nat.zero_le _⟩
  | int i=>exact⟨rfl,Nat.zero_le _⟩
  | tup xs=>obtain⟨a,b⟩:=lists n ih xs h;exact⟨a,Nat.succ_le_succ b⟩
  | lst xs=>obtain⟨a,b⟩:=lists n ih xs h;exact⟨a,Nat.succ_le_succ b⟩
  | _=>cases h
theorem canLayAll_py {n:Nat}:∀ (ds:List D),ds.all (pureN n)=true→PyData.canLayAll0 (toPys ds)=true∧PyData.depthAll (toPys ds)≤n
 | [],_=>⟨rfl,Nat.zero_le _⟩
 | d::ds,h=>by
  rw[List.all_cons,Bool.and_eq_true] at h
  obtain⟨a1,a2⟩:=canLay_py n d h.1
  obtain⟨b1,b2⟩:=canLayAll_py ds h.2
  exact⟨by show (PyData.canLay0 (toPy d)&&PyData.canLayAll0 (toPys ds))=true;rw[a1,b1];rfl,by show max (PyData.depth (toPy d)) (PyData.depthAll (toPys ds))≤n;omega⟩
theorem SS_beq (a b:List Nat):(SS a==SS b)=(a==b):=by
 by_cases h:a=b
 ·subst h;simp
 ·have h':¬ SS a=SS b:=fun e=>h (by
   have:=congrArg (fun z:Str=>z.cps.toList) e
   simpa using this)
  rw[beq_eq_false_iff_ne.mpr h,beq_eq_false_iff_ne.mpr h']
mutual
theorem eqv_py:∀ (n:Nat) (a b:D),pureN n a=true→pureN n b=true→PyData.eqv (toPy a) (toPy b)=eqD a b
 | n,.non,b,_,hb=>by cases b<;>first | rfl | (cases n<;>cases hb)
 | n,.bl x,b,_,hb=>by cases b<;>first | rfl | (cases n<;>cases hb)
 | n,.int x,b,_,hb=>by cases b<;>first | rfl | (cases n<;>cases hb)
 | n,.str x,b,_,hb=>by
  cases b with
  | str y=>exact SS_beq x y
  | _=>first | rfl | (cases n<;>cases hb)
 | 0,.tup x,b,ha,hb=>by cases ha
 | 0,.lst x,b,ha,hb=>by cases ha
 | n+1,.tup x,b,ha,hb=>by
  cases b with
  | tup y=>exact eqvs_py n x y ha hb
  | _=>first | rfl | cases hb
 | n+1,.lst x,b,ha,hb=>by
  cases b with
  | lst y=>exact eqvs_py n x y ha hb
  | _=>first | rfl | cases hb
 | n,.ref x,b,ha,hb=>by cases n<;>cases ha
 | n,.fn x,b,ha,hb=>by cases n<;>cases ha
 | n,.exn x,b,ha,hb=>by cases n<;>cases ha
theorem eqvs_py:∀ (n:Nat) (a b:List D),a.all (pureN n)=true→b.all (pureN n)=true→PyData.eqvAll (toPys a) (toPys b)=eqDs a b
 | _,[],[],_,_=>rfl
 | _,[],_::_,_,_=>rfl
 | _,_::_,[],_,_=>rfl
 | n,a::as,b::bs,ha,hb=>by
  rw[List.all_cons,Bool.and_eq_true] at ha hb
  show (PyData.eqv (toPy a) (toPy b)&&PyData.eqvAll (toPys as) (toPys bs))=(eqD a b&&eqDs as bs)
  rw[eqv_py n a b ha.1 hb.1,eqvs_py n as bs ha.2 hb.2]
end
section
variable {X:Cx}{pins:List (Addr×Obj)}{σ:St}{H:Hp}{s:Shared}{th:Th}
theorem reads_go (I:Inv X pins σ H s) (n:Nat) (ih:∀ (d:D) (x:V) (v:Value),RepV X.K H th d x→pureN n d=true→RelV x v→∃ as,Reads s.heap v (toPy d) as) :
  ∀ (ds:List D) (xs:List V) (vs:List Value),RepVs X.K H th ds xs→ds.all (pureN n)=true→Vals xs vs→∃ as,ReadsAll s.heap vs (toPys ds) as
 | _,_,_,.nil,_,.nil=>⟨_,.nil⟩
 | _,_,_,.cons r rs,h,.cons v vs=>by
  rw[List.all_cons,Bool.and_eq_true] at h
  obtain⟨a,ra⟩:=ih _ _ _ r h.1 v
  obtain⟨b,rb⟩:=reads_go I n ih _ _ _ rs h.2 vs
  exact⟨_,.cons ra rb⟩
theorem RepV.reads (I:Inv X pins σ H s):∀ (n:Nat) (d:D) (x:V) (v:Value),RepV X.K H th d x→pureN n d=true→RelV x v→∃ as,Reads s.heap v (toPy d) as:=by
 intro n
 induction n with
 | zero =>
  intro d x v r h rv
  cases r with
  | non=>cases rv;exact⟨_,.none⟩
  | bl b=>cases rv;exact⟨_,.bool b⟩
  | int i=>obtain⟨t,rfl⟩:=rv;exact⟨_,.int i t⟩
  | str z=>obtain⟨t,rfl⟩:=rv;exact⟨_,.str _ t⟩
  | tup _ _=>cases h
  | lst _ _ _=>cases h
  | ref _=>cases h
  | fn _=>cases h
 | succ n ih =>
  intro d x v r h rv
  cases r with
  | non=>cases rv;exact⟨_,.none⟩
  | bl b=>cases rv;exact⟨_,.bool b⟩
  | int i=>obtain⟨t,rfl⟩:=rv;exact⟨_,.int i t⟩
  | str z=>obtain⟨t,rfl⟩:=rv;exact⟨_,.str _ t⟩
  | tup q rs =>
   cases rv
   obtain⟨its,vv,⟨o,ho,hc,k,hd⟩,hz⟩:=I.tuple q
   obtain⟨as,ra⟩:=reads_go I n ih _ _ its rs h vv
   exact⟨_,.tuple ho hc hd (by simpa using ra)⟩
  | lst q _ rs =>
   cases rv
   obtain⟨its,vv,pl,hz⟩:=I.list q
   obtain⟨o,ho,hc,k,hd⟩:=pl.isList
   obtain⟨as,ra⟩:=reads_go I n ih _ _ its rs h vv
   exact⟨_,.list ho hc hd (by simpa using ra)⟩
  | ref _=>cases h
  | fn _=>cases h
theorem RepW.reads (I:Inv X pins σ H s) (d:D) (x:V) (v:Value) (r:RepW X.K H th d x) (h:pureD d=true) (rv:RelV x v):∃ as,Reads s.heap v (toPy d) as:=by
 cases d with
 | lst ds =>
  obtain⟨a,vs,rfl,q,rs⟩:=r
  cases rv
  obtain⟨its,vv,pl,hz⟩:=I.list q
  obtain⟨o,ho,hc,k,hd⟩:=pl.isList
  obtain⟨as,ra⟩:=reads_go I 15 (RepV.reads I 15) _ _ its rs h vv
  exact⟨_,.list ho hc hd (by simpa using ra)⟩
 | _=>exact RepV.reads I 16 _ x v r h rv
theorem RepVs.reads (I:Inv X pins σ H s) (ds:List D) (xs:List V) (vs:List Value) (r:RepVs X.K H th ds xs) (h:pureDs ds=true) (rv:Vals xs vs):∃ as,ReadsAll s.heap vs (toPys ds) as :=
 reads_go I 16 (RepV.reads I 16) ds xs vs r h rv
theorem any_py (x:D) (hx:pureD x=true):∀ ys:List D,pureDs ys=true→((toPys ys).any fun y=>PyData.eqv y (toPy x))=inD x ys
 | [],_=>rfl
 | y::ys,h=>by
  have h:(pureN 16 y&&ys.all (pureN 16))=true:=h
  rw[Bool.and_eq_true] at h
  show (PyData.eqv (toPy y) (toPy x)||(toPys ys).any fun y=>PyData.eqv y (toPy x))=(eqD y x||inD x ys)
  rw[eqv_py 16 y x h.1 hx,any_py x hx ys h.2]
noncomputable def cmpV (op:CmpOp) (a b:D):Option D:=(cmpD op a b).map .bl
theorem op_cmpD (hu:X.A.units+65<cLine) (op:CmpOp):OpR X (compareOp op) (rdOp X.K (cmpV op)):=by
 intro pins s σ H x y v u Q I rx ry h
 obtain⟨th,ah,dx,dy,d,w,wx,wy,e,k⟩:=h
 unfold cmpV at e
 cases e1:cmpD op dx dy with
 | none=>rw[e1] at e;cases e
 | some b =>
  rw[e1] at e
  cases e
  have kk:Q (.bl b) H:=k _ H (.bl b) w (Gr.refl _ _)
  unfold cmpD at e1
  split at e1
  ·split at e1
   ·rename_i hp
    rw[Bool.and_eq_true] at hp
    cases e1
    obtain⟨as,ra⟩:=wx.reads I _ _ _ hp.1 rx
    obtain⟨bs,rb⟩:=wy.reads I _ _ _ hp.2 ry
    obtain⟨c1,d1⟩:=canLay_py 16 _ hp.1
    obtain⟨c2,d2⟩:=canLay_py 16 _ hp.2
    refine SeqAt.compareEq_reads ra rb c1 c2 (by omega) ?_
    rw[eqv_py 16 _ _ hp.1 hp.2]
    exact⟨.bl _,H,I,rfl,kk⟩
   ·cases e1
  ·split at e1
   ·rename_i hp
    rw[Bool.and_eq_true] at hp
    cases e1
    obtain⟨as,ra⟩:=wx.reads I _ _ _ hp.1 rx
    obtain⟨bs,rb⟩:=wy.reads I _ _ _ hp.2 ry
    obtain⟨c1,d1⟩:=canLay_py 16 _ hp.1
    obtain⟨c2,d2⟩:=canLay_py 16 _ hp.2
    refine SeqAt.compareNe_reads ra rb c1 c2 (by omega) ?_
    rw[eqv_py 16 _ _ hp.1 hp.2]
    exact⟨.bl _,H,I,rfl,kk⟩
   ·cases e1
  ·cases e1;cases wx.iint;cases wy.iint
   exact op_lt pins s σ H _ _ v u Q I rx ry ⟨_,_,rfl,rfl,kk⟩
  ·cases e1;cases wx.iint;cases wy.iint
   exact op_le pins s σ H _ _ v u Q I rx ry ⟨_,_,rfl,rfl,kk⟩
  ·cases e1;cases wx.iint;cases wy.iint
   exact op_gt pins s σ H _ _ v u Q I rx ry ⟨_,_,rfl,rfl,kk⟩
  ·cases e1;cases wx.iint;cases wy.iint
   exact op_ge pins s σ H _ _ v u Q I rx ry ⟨_,_,rfl,rfl,kk⟩
  ·cases e1;cases wy.inon
   refine op_isN pins s σ H _ _ v u Q I rx ry ⟨rfl,?_⟩
   have e:decide (x=V.non)=isNon dx:=by
    cases dx with
    | non=>cases wx.inon;simp[isNon]
    | lst ds=>obtain⟨a,vs,rfl,_⟩:=wx;simp[isNon]
    | _=>cases (show RepV X.K H th _ x from wx)<;>simp[isNon]
   rw[e];exact kk
  ·cases e1;cases wy.inon
   refine op_notN pins s σ H _ _ v u Q I rx ry ⟨rfl,?_⟩
   have e:(!decide (x=V.non))=!isNon dx:=by
    cases dx with
    | non=>cases wx.inon;simp[isNon]
    | lst ds=>obtain⟨a,vs,rfl,_⟩:=wx;simp[isNon]
    | _=>cases (show RepV X.K H th _ x from wx)<;>simp[isNon]
   rw[e];exact kk
  ·split at e1
   ·rename_i hp
    rw[Bool.and_eq_true] at hp
    cases e1
    obtain⟨as,ra⟩:=wx.reads I _ _ _ hp.1 rx
    obtain⟨a,vs,rfl,q,rs⟩:=wy.ilst
    cases ry
    obtain⟨its,vv,pl,hz⟩:=I.list q
    obtain⟨o,ho,hc,n,hd⟩:=pl.isList
    obtain⟨bs,rb⟩:=rs.reads I _ _ its hp.2 vv
    obtain⟨c1,d1⟩:=canLay_py 16 _ hp.1
    obtain⟨c2,d2⟩:=canLayAll_py _ hp.2
    refine SeqAt.in_list_reads (.list ho hc hd (by simpa using rb)) ra c2 c1 (by omega) ?_
    rw[any_py _ hp.1 _ hp.2]
    exact⟨.bl _,H,I,rfl,kk⟩
   ·cases e1
  ·split at e1
   ·rename_i hp
    rw[Bool.and_eq_true] at hp
    cases e1
    obtain⟨as,ra⟩:=wx.reads I _ _ _ hp.1 rx
    obtain⟨a,vs,rfl,q,rs⟩:=wy.itup
    cases ry
    obtain⟨its,vv,⟨o,ho,hc,n,hd⟩,hz⟩:=I.tuple q
    obtain⟨bs,rb⟩:=rs.reads I _ _ its hp.2 vv
    obtain⟨c1,d1⟩:=canLay_py 16 _ hp.1
    obtain⟨c2,d2⟩:=canLayAll_py _ hp.2
    refine SeqAt.in_tuple_reads (.tuple ho hc hd (by simpa using rb)) ra c2 c1 (by omega) ?_
    rw[any_py _ hp.1 _ hp.2]
    exact⟨.bl _,H,I,rfl,kk⟩
   ·cases e1
  ·split at e1
   ·rename_i hp
    rw[Bool.and_eq_true] at hp
    cases e1
    obtain⟨as,ra⟩:=wx.reads I _ _ _ hp.1 rx
    obtain⟨a,vs,rfl,q,rs⟩:=wy.ilst
    cases ry
    obtain⟨its,vv,pl,hz⟩:=I.list q
    obtain⟨o,ho,hc,n,hd⟩:=pl.isList
    obtain⟨bs,rb⟩:=rs.reads I _ _ its hp.2 vv
    obtain⟨c1,d1⟩:=canLay_py 16 _ hp.1
    obtain⟨c2,d2⟩:=canLayAll_py _ hp.2
    refine SeqAt.notIn_list_reads (.list ho hc hd (by simpa using rb)) ra c2 c1 (by omega) ?_
    rw[any_py _ hp.1 _ hp.2]
    exact⟨.bl _,H,I,rfl,kk⟩
   ·cases e1
  ·split at e1
   ·rename_i hp
    rw[Bool.and_eq_true] at hp
    cases e1
    obtain⟨as,ra⟩:=wx.reads I _ _ _ hp.1 rx
    obtain⟨a,vs,rfl,q,rs⟩:=wy.itup
    cases ry
    obtain⟨its,vv,⟨o,ho,hc,n,hd⟩,hz⟩:=I.tuple q
    obtain⟨bs,rb⟩:=rs.reads I _ _ its hp.2 vv
    obtain⟨c1,d1⟩:=canLay_py 16 _ hp.1
    obtain⟨c2,d2⟩:=canLayAll_py _ hp.2
    refine SeqAt.notIn_tuple_reads (.tuple ho hc hd (by simpa using rb)) ra c2 c1 (by omega) ?_
    rw[any_py _ hp.1 _ hp.2]
    exact⟨.bl _,H,I,rfl,kk⟩
   ·cases e1
  ·cases e1
end
def Tra (h base:Heap) (e:Addr) (cls fl:Value):Prop :=
 ∃ oe vs T oT ts,h.get? e=some oe∧oe.cls=cls∧oe.data=.fields vs∧vs[1]?=some (.ref T)∧vs[2]?=some .none∧base.get? T=none∧T≠e∧h.get? T=some oT∧oT.data=.fields ts∧ts[3]?=some fl
def Fly (base:Heap) (l:List Env) (e:Addr) (cls fl:Value) (h:Heap):Prop:=base.StaysIn h∧base.get? e=none∧h.FunFrames base l∧Tra h base e cls fl
section
variable {M:Model}{A:Around}{E:Value→Shared→Prop}{s:Shared}{base:Heap}{env:Env}{outer:List Env}{L e:Addr}
theorem fly_entry {ob:Obj}{rec:Array Value}{head:Value}{nx:Bool}{Q:Unit→Shared→Prop} (fr:A.frames=some (env::outer)) (ff:s.heap.FunFrames base (env::outer)) (ef:env.frame=some L)
  (eo:s.heap.get? e=some ob) (kb:base.StaysIn s.heap) (ne:base.get? e=none) (da:ob.data=.fields rec) (c2:rec[2]?=some .none)
  (k:∀ h',Fly base (env::outer) e ob.cls (rawInt L) h'→s.heap.UpToSlots h'→Q () { s with heap:=h' }) :
  wpAny M A (do let a ← frameOf env;let pl ← entryPlaceOf L nx;let b ← EntryCells.newEntry head a .none (rawInt L) .none pl;setField (.ref e) 1 b) Q E s:=by
 have sz:2<rec.size:=(Array.getElem?_eq_some_iff.mp c2).1
 have notFr:e ∉ (env::outer).filterMap (·.frame):=fun m=>by
  obtain⟨_,o,g1,g2⟩:=ff.mem m
  rw[eo] at g1
  cases g1
  exact g2 rec da
 refine wpAny_bind (wpAny_frameOf_fun fr ff ef fun h1 so=>wpAny_bind (wpAny_entryPlaceOf fun pl isp=>?_))
 unfold EntryCells.newEntry newFields
 refine wpAny_bind (wpAny_newObj_type ?_ (isp.sizeOk5 _ _ _ _ _))
 generalize hTb:({ cls:=.type "traceback",dict:=none,data:=.fields ([head,.ref L,.none,rawInt L,.none]++(if pl.isEmpty then List.replicate 6 Value.none else pl)).toArray }:Obj)=tb
 have tbd:tb.data=.fields ([head,.ref L,.none,rawInt L,.none]++(if pl.isEmpty then List.replicate 6 Value.none else pl)).toArray:=by rw[← hTb]
 have tbf:tb.isFreed=false:=by rw[← hTb];rfl
 have e1:h1.get? e=some ob:=(so.2.1 e notFr).trans eo
 have kb1:base.StaysIn h1:=fun b o q=>(so.2.1 b fun m=>by rw[(ff.mem m).1] at q;cases q).trans (kb b o q)
 have e2:(h1.push tb).get? e=some ob:=Heap.get?_push_of_some _ e1
 have tE:h1.objs.size≠e:=Nat.ne_of_gt (Heap.lt_size e1)
 refine wpAny_setField e2 da (by omega) ?_
 have da3:=Obj.data_mapFields da (·.setIfInBounds 1 (Value.ref h1.objs.size))
 have e3:=Heap.get?_update_self (Obj.mapFields (·.setIfInBounds 1 (Value.ref h1.objs.size))) e2 (Obj.isFreed_of_fields da3)
 have t3:((h1.push tb).update e (Obj.mapFields (·.setIfInBounds 1 (Value.ref h1.objs.size)))).get? h1.objs.size=some tb:=(Heap.get?_update_other _ _ (Ne.symm tE)).trans (Heap.get?_push_size h1 tbf)
 have kp:∀ b o,b≠e→h1.get? b=some o→((h1.push tb).update e (Obj.mapFields (·.setIfInBounds 1 (Value.ref h1.objs.size)))).get? b=some o:=fun b o nb q=>by
  rw[Heap.get?_update_other _ _ (Ne.symm nb)]
  exact Heap.get?_push_of_some _ q
 have nr:∀ b o,s.heap.get? b=some o→(∀ vs,o.data≠.fields vs)→b≠e:=fun b o q nf z=>by
  rw[z,eo] at q
  cases q
  exact nf rec da
 refine k _ ⟨fun b o q=>kp b o (fun z=>by rw[z,ne] at q;cases q) (kb1 b o q),ne,ff.of_keeps fun b o q nf=>?_,?_⟩ fun b o q nf=>?_
 ·obtain⟨sl,q2⟩:=so.2.2 b o q
  exact⟨_,kp b _ (nr b o q nf) q2,rfl⟩
 ·have s1:1<rec.size:=by omega
  refine⟨_,rec.setIfInBounds 1 (.ref h1.objs.size),h1.objs.size,tb,_,e3,Obj.cls_mapFields _ _,da3,by simp[s1],by rw[Array.getElem?_setIfInBounds_ne (by decide)];exact c2,kb1.fresh,tE,t3,tbd,?_⟩
  first | (simp;done) | (rcases isp with rfl | ⟨_,_,_,_,_,_,_,rfl⟩<;>simp)
 ·obtain⟨sl,q2⟩:=so.2.2 b o q
  exact⟨sl,kp b _ (nr b o q nf) q2⟩
theorem fly_note0 {ob:Obj}{rec:Array Value}{Q:Unit→Shared→Prop} (fr:A.frames=some (env::outer)) (ff:s.heap.FunFrames base (env::outer)) (ef:env.frame=some L)
  (eo:s.heap.get? e=some ob) (kb:base.StaysIn s.heap) (ne:base.get? e=none) (da:ob.data=.fields rec) (c1:rec[1]?=some .none) (c2:rec[2]?=some .none)
  (k:∀ h',Fly base (env::outer) e ob.cls (rawInt L) h'→s.heap.UpToSlots h'→Q () { s with heap:=h' }):wpAny M A (noteFrame (.ref e) env) Q E s:=by
 unfold noteFrame
 simp only[ef]
 refine wpAny_bind (wpAny_field eo da c1 ?_)
 rw[if_neg (by decide)]
 exact fly_entry fr ff ef eo kb ne da c2 k
theorem fly_note {cls:Value}{Q:Unit→Shared→Prop} (fr:A.frames=some (env::outer)) (ef:env.frame=some L) (fl:Fly base (env::outer) e cls .none s.heap)
  (k:∀ h',Fly base (env::outer) e cls (rawInt L) h'→s.heap.UpToSlots h'→Q () { s with heap:=h' }):wpAny M A (noteFrame (.ref e) env) Q E s:=by
 obtain⟨kb,ne,ff,ob,rec,T,oT,ts,eo,rfl,da,c1,c2,nT,tE,eT,dT,c3⟩:=fl
 unfold noteFrame
 simp only[ef]
 refine wpAny_bind (wpAny_field eo da c1 ?_)
 rw[if_pos (show (Value.ref T != Value.none)=true by simp)]
 refine wpAny_bind (wpAny_field eT dT c3 ?_)
 rw[if_neg (show ¬ ((Value.none==rawInt L)=true) by simp[rawInt])]
 refine wpAny_bind (wpAny_setField eT dT (Array.getElem?_eq_some_iff.mp c3).1 ?_)
 have ot:∀ b,b≠T→(s.heap.update T (Obj.mapFields (·.setIfInBounds 3 Value.none))).get? b=s.heap.get? b:=fun b nb=>Heap.get?_update_other _ _ (Ne.symm nb)
 have nr:∀ b o,s.heap.get? b=some o→(∀ vs,o.data≠.fields vs)→b≠T:=fun b o q nf z=>by
  rw[z,eT] at q
  cases q
  exact nf ts dT
 refine fly_entry (s:={ s with heap:=s.heap.update T (Obj.mapFields (·.setIfInBounds 3 Value.none)) }) fr (ff.of_keeps fun b o q nf=>⟨o,(ot b (nr b o q nf)).trans q,rfl⟩) ef ((ot e (Ne.symm tE)).trans eo) (fun b o q=>(ot b fun z=>by rw[z,nT] at q;cases q).trans (kb b o q)) ne da c2 fun h' f' u=>?_
 exact k h' f' fun b o q nf=>u b o ((ot b (nr b o q nf)).trans q) nf
theorem fly_land {l:List Env}{cls fl:Value}{Q:Unit→Shared→Prop} (x:Fly base l e cls fl s.heap) (k:∀ h',Fly base l e cls .none h'→s.heap.UpToSlots h'→Q () { s with heap:=h' }):wpAny M A (setFlight (.ref e) none) Q E s:=by
 obtain⟨kb,ne,ff,ob,rec,T,oT,ts,eo,ec,da,c1,c2,nT,tE,eT,dT,c3⟩:=x
 have sz:3<ts.size:=(Array.getElem?_eq_some_iff.mp c3).1
 unfold setFlight
 refine wpAny_bind (wpAny_field eo da c1 ?_)
 rw[if_pos (show (Value.ref T != Value.none)=true by simp)]
 refine wpAny_setField eT dT sz ?_
 have ot:∀ b,b≠T→(s.heap.update T (Obj.mapFields (·.setIfInBounds 3 ((none:Option Addr).elim Value.none fun f=>rawInt f)))).get? b=s.heap.get? b:=fun b nb=>Heap.get?_update_other _ _ (Ne.symm nb)
 have nr:∀ b o,s.heap.get? b=some o→(∀ vs,o.data≠.fields vs)→b≠T:=fun b o q nf z=>by
  rw[z,eT] at q
  cases q
  exact nf ts dT
 refine k _ ⟨fun b o q=>(ot b fun z=>by rw[z,nT] at q;cases q).trans (kb b o q),ne,ff.of_keeps fun b o q nf=>⟨o,(ot b (nr b o q nf)).trans q,rfl⟩,?_⟩ fun b o q nf=>⟨o.slots,(ot b (nr b o q nf)).trans q⟩
 exact⟨ob,rec,T,_,_,(ot e (Ne.symm tE)).trans eo,ec,da,c1,c2,nT,tE,Heap.get?_update_self _ eT (Obj.isFreed_of_fields (Obj.data_mapFields dT _)),Obj.data_mapFields dT _,by simp[sz]⟩
theorem Fly.inner {cls fl:Value}{h:Heap} (x:Fly base (env::outer) e cls fl h):Fly base outer e cls fl h:=⟨x.1,x.2.1,x.2.2.1.2.2,x.2.2.2⟩
theorem fly_leave {cls:Value}{Q:Unit→Shared→Prop} (fr:A.frames=some (env::outer)) (ef:env.frame=some L) (fl:Fly base (env::outer) e cls .none s.heap)
  (k:∀ h',Fly base outer e cls .none h'→s.heap.UpToSlots h'→Q () { s with heap:=h' }):wpAny M A (leaving env (.ref e)) Q E s:=by
 unfold leaving
 exact wpAny_bind (fly_note fr ef fl fun h' f1 u1=>fly_land f1 fun h'' f2 u2=>k h'' f2.inner (u1.trans u2))
theorem fly_leave0 {h0:Heap}{cls:Value}{args:List Value}{Q:Unit→Shared→Prop} (fr:A.frames=some (env::outer)) (ef:env.frame=some L) (kb:base.StaysIn h0) (ff:h0.FunFrames base (env::outer)) (mx:Heap.MadeExcOf h0 s.heap e cls args)
  (k:∀ h',Fly base outer e cls .none h'→s.heap.UpToSlots h'→Q () { s with heap:=h' }):wpAny M A (leaving env (.ref e)) Q E s:=by
 obtain⟨t,eo,_,_⟩:=mx.there
 have ne:base.get? e=none:=by
  cases q:base.get? e with
  | none=>rfl
  | some o=>have:=kb e o q;rw[mx.new] at this;cases this
 unfold leaving
 exact wpAny_bind (fly_note0 fr (ff.of_keeps fun b o q _=>⟨o,mx.keeps b o q,rfl⟩) ef eo (fun b o q=>mx.keeps b o (kb b o q)) ne rfl rfl rfl fun h' f1 u1=>fly_land f1 fun h'' f2 u2=>k h'' f2.inner (u1.trans u2))
end
noncomputable def CXM (P:Program) (w:World):CXT:=fun outer H s E e s' =>
 ∃ (ea C:Addr) (B:Heap) (H':Hp),e=.ref ea∧s'.os=s.os∧AllBare s'.gens∧Un (frs outer) [] H H' s.heap s'.heap∧HOk P w H' B ∧
  (∀ b o,s.heap.get? b=some o→H b=none→b ∉ frs outer→B.get? b=some o)∧(∀ b o,s.heap.get? b=some o→b ∉ frs outer→∃ o',B.get? b=some o') ∧
  Fly B outer ea (.ref C) .none s'.heap∧E (.ref C) none H'
theorem passX0 {P:Program}{w:World}{X:Cx}:Passes (CXM P w) X E0:=fun _ _ _ _ _ _ _ h=>by
 obtain⟨_,_,_,_,_,_,_,_,_,_,_,_,z⟩:=h
 exact z.elim
theorem hok_hide {P:Program}{w:World}{H:Hp}{h:Heap}{fs:List Addr} (x:HOk P w H h) (hf:∀ b∈fs,H b=none):HOk P w H (PySem.W.hideAll h fs):=fun a o e =>
 (x a o e).stay (fun b u hb q=>PySem.W.hideAll_get _ q fun m=>by
  have n:=hf b m
  rcases hb with rfl | hb
  ·rw[e] at n;cases n
  ·rw[hb] at n;cases n) (fun _ q=>q) fun _ _ q=>q
section
variable {X:Cx}{pins:List (Addr×Obj)}{σ:L2.St}{H H':Hp}{s s':Shared}{E:XK}
theorem frs_cons {env:Env}{outer:List Env}{L:Addr} (hf:env.frame=some L):frs (env::outer)=L::frs outer:=by
 unfold frs
 rw[List.filterMap_cons,hf]
theorem leave_made {h1:Heap}{e C:Addr}{vs:List Value}{E':Value→Shared→Prop} (hst:X.stack=X.env::X.outer) (hf:X.env.frame=some X.env.locals) (hex:X.ex=[]) (I:Inv X pins σ H s) (hx:Heap.MadeExcOf s.heap h1 e (.ref C) vs) (q:E (.ref C) none H) :
  wpAny (model X.prog X.w) X.A (leaving X.env (.ref e)) (fun _ s''=>CXM X.prog X.w X.outer X.H₀ X.s₀ E (.ref e) s'') E' { s with heap:=h1 }:=by
 have hfr:X.A.frames=some (X.env::X.outer):=by rw[← hst];exact I.ok.frames
 have stk:=I.stack
 have free:∀ b∈frs X.stack,H b=none:=I.stkFree
 rw[hst] at stk free
 have efs:=frs_cons (outer:=X.outer) hf
 have hin:∀ env∈(X.env::X.outer),∀ b,env.frame=some b→b∈frs (X.env::X.outer):=fun env he b hb=>List.mem_filterMap.mpr ⟨env,he,hb⟩
 refine fly_leave0 (base:=PySem.W.hideAll s.heap (frs (X.env::X.outer))) (h0:=s.heap) hfr hf (fun b o q=>PySem.W.of_hideAll _ q) (PySem.W.funFrames_hide stk hin) hx fun h' fl us=>?_
 have hB:∀ b o,s.heap.get? b=some o→b ∉ frs (X.env::X.outer)→(PySem.W.hideAll s.heap (frs (X.env::X.outer))).get? b=some o:=fun b o q n=>PySem.W.hideAll_get _ q n
 have old:∀ b o,X.s₀.heap.get? b=some o→b≠X.env.locals:=fun b o q z=>by
  have:=Heap.lt_size q
  rw[z] at this
  exact absurd (Nat.lt_of_lt_of_le this I.ok.above) (Nat.lt_irrefl _)
 have nin:∀ b,b ∉ frs X.outer→b≠X.env.locals→b ∉ frs (X.env::X.outer):=fun b h1 h2 h3=>by
  rw[efs] at h3
  rcases List.mem_cons.mp h3 with z | z
  ·exact h2 z
  ·exact h1 z
 have ub:=I.base
 rw[hex] at ub
 have stay:=fl.1
 refine⟨e,C,_,H,rfl,I.os,I.bare,?_,hok_hide I.hok free,fun b o q1 q2 q3=>?_,fun b o q1 q3=>?_,fl,q⟩
 ·refine⟨fun b o q1 q2 q3 q4=>?_,fun b o q1 q2 q3 q4=>?_,ub.free,fun b o q1 q4=>?_,ub.tups,ub.frzs,ub.tbls⟩
  ·exact stay b o (hB b o (ub.keep b o q1 q2 q3 q4) (nin b q3 (old b o q1)))
  ·obtain⟨sl,e1⟩:=ub.slot b o q1 q2 q3 q4
   have m:b∈frs (X.env::X.outer):=by rw[efs];exact List.mem_cons_of_mem _ q3
   obtain⟨_,ob,e2,e3⟩:=stk.mem m
   rw[e1] at e2
   cases e2
   obtain⟨sl',e4⟩:=us b _ (hx.keeps _ _ e1) e3
   exact⟨sl',e4⟩
  ·by_cases m:b∈frs X.outer
   ·obtain⟨o1,e1⟩:=ub.there b o q1 q4
    have m':b∈frs (X.env::X.outer):=by rw[efs];exact List.mem_cons_of_mem _ m
    obtain⟨_,ob,e2,e3⟩:=stk.mem m'
    rw[e1] at e2
    cases e2
    obtain⟨sl',e4⟩:=us b _ (hx.keeps _ _ e1) e3
    exact⟨_,e4⟩
   ·obtain⟨o1,e1⟩:=ub.there b o q1 q4
    exact⟨o1,stay b o1 (hB b o1 e1 (nin b m (old b o q1)))⟩
 ·exact hB b o (ub.keep b o q1 q2 q3 (by simp)) (nin b q3 (old b o q1))
 ·obtain⟨o1,e1⟩:=ub.there b o q1 (by simp)
  exact⟨o1,hB b o1 e1 (nin b q3 (old b o q1))⟩
theorem leave_on {e:Value}{E':Value→Shared→Prop} (hst:X.stack=X.env::X.outer) (hf:X.env.frame=some X.env.locals) (hex:X.ex=[]) (I:Inv X pins σ H s) (q:CXM X.prog X.w X.stack H s E e s') :
  wpAny (model X.prog X.w) X.A (leaving X.env e) (fun _ s''=>CXM X.prog X.w X.outer X.H₀ X.s₀ E e s'') E' s':=by
 obtain⟨ea,C,B,H',rfl,os,bare,un,hok,kB,tB,fl,q⟩:=q
 have hfr:X.A.frames=some (X.env::X.outer):=by rw[← hst];exact I.ok.frames
 have efs:=frs_cons (outer:=X.outer) hf
 have hoks:HOk X.prog X.w H' s'.heap:=hok.kept fl.1
 have I':Inv X pins σ H' s':=I.call' os un hoks bare fun b z=>absurd z (by simp)
 rw[hst] at fl kB tB
 refine fly_leave hfr hf fl fun h' fl' us=>?_
 have old:∀ b o,X.s₀.heap.get? b=some o→b≠X.env.locals:=fun b o q z=>by
  have:=Heap.lt_size q
  rw[z] at this
  exact absurd (Nat.lt_of_lt_of_le this I.ok.above) (Nat.lt_irrefl _)
 have nin:∀ b,b ∉ frs X.outer→b≠X.env.locals→b ∉ frs (X.env::X.outer):=fun b h1 h2 h3=>by
  rw[efs] at h3
  rcases List.mem_cons.mp h3 with z | z
  ·exact h2 z
  ·exact h1 z
 have ub:=I.base
 have ub':=I'.base
 rw[hex] at ub ub'
 have stay:=fl'.1
 have kB':∀ b o,X.s₀.heap.get? b=some o→X.H₀ b=none→b ∉ frs X.outer→B.get? b=some o:=fun b o q1 q2 q3 =>
  kB b o (ub.keep b o q1 q2 q3 (by simp)) (ub.free b o q1 q2 (by simp)) (nin b q3 (old b o q1))
 have tB':∀ b o,X.s₀.heap.get? b=some o→b ∉ frs X.outer→∃ o',B.get? b=some o':=fun b o q1 q3=>by
  obtain⟨o1,e1⟩:=ub.there b o q1 (by simp)
  exact tB b o1 e1 (nin b q3 (old b o q1))
 refine⟨ea,C,B,H',rfl,os.trans I.os,bare,?_,hok,kB',tB',fl',q⟩
 refine⟨fun b o q1 q2 q3 q4=>stay b o (kB' b o q1 q2 q3),fun b o q1 q2 q3 q4=>?_,ub'.free,fun b o q1 q4=>?_,ub'.tups,ub'.frzs,ub'.tbls⟩
 ·obtain⟨sl,e1⟩:=ub'.slot b o q1 q2 q3 q4
  have m:b∈frs (X.env::X.outer):=by rw[efs];exact List.mem_cons_of_mem _ q3
  obtain⟨_,ob,e2,e3⟩:=fl.2.2.1.mem m
  rw[e1] at e2
  cases e2
  obtain⟨sl',e4⟩:=us b _ e1 e3
  exact⟨sl',e4⟩
 ·by_cases m:b∈frs X.outer
  ·obtain⟨o1,e1⟩:=ub'.there b o q1 q4
   have m':b∈frs (X.env::X.outer):=by rw[efs];exact List.mem_cons_of_mem _ m
   obtain⟨_,ob,e2,e3⟩:=fl.2.2.1.mem m'
   rw[e1] at e2
   cases e2
   obtain⟨sl',e4⟩:=us b _ e1 e3
   exact⟨_,e4⟩
  ·obtain⟨o1,e1⟩:=tB' b o q1 m
   exact⟨o1,stay b o1 e1⟩
end
def XM (X:Cx) (E:XK):Prop:=∀ {pins:List (Addr×Obj)}{σ:L2.St}{H:Hp}{s:Shared}{h1:Heap}{e C:Addr}{vs:List Value},Inv X pins σ H s→Heap.MadeExcOf s.heap h1 e (.ref C) vs→E (.ref C) none H→X.xe (.ref e) { s with heap:=h1 }
def XC (X:Cx) (E:XK):Prop:=Passes (CXM X.prog X.w) X E
theorem xm_def {P:Program}{w:World}{K:PySem.W.Frag}{mg:Str→Option Value}{base:Heap}{N:List Str}{qual:Str}{scope:Scope}{f:Addr}{cd:Value}{A:Around}{outer:List Env}{s:Shared}{H:Hp}{E:XK} :
  XM (cxOf (CXM P w) P w K mg base N qual scope f cd A outer s H E) E :=
 fun I hx q=>leave_made (X:=cxOf (CXM P w) P w K mg base N qual scope f cd A outer s H E) rfl rfl rfl I hx q
theorem xc_def {P:Program}{w:World}{K:PySem.W.Frag}{mg:Str→Option Value}{base:Heap}{N:List Str}{qual:Str}{scope:Scope}{f:Addr}{cd:Value}{A:Around}{outer:List Env}{s:Shared}{H:Hp}{E:XK} :
  XC (cxOf (CXM P w) P w K mg base N qual scope f cd A outer s H E) E :=
 fun pins σ H' s' e s'' I q=>leave_on (X:=cxOf (CXM P w) P w K mg base N qual scope f cd A outer s H E) rfl rfl rfl I q
theorem xc_own {P:Program}{w:World}{K:PySem.W.Frag}{mg:Str→Option Value}{base:Heap}{N:List Str}{qual:Str}{scope:Scope}{f:Addr}{cd:Value}{A:Around}{outer:List Env}{s:Shared}{H:Hp}{E:XK} :
  PassesOwn (model P w) (cxOf (CXM P w) P w K mg base N qual scope f cd A outer s H E).A (cxOf (CXM P w) P w K mg base N qual scope f cd A outer s H E).env (cxOf (CXM P w) P w K mg base N qual scope f cd A outer s H E).xe:=PassesOwn.leaving
noncomputable def ecV (mg:Str→Option Value) (c:Nat):Value:=match errs[c]? with
 | some x=>(mg x).getD .none
 | none=>.none
noncomputable def spOf (K:PySem.W.Frag) (mg:Str→Option Value) (n:Nat) (f:Den):Sp:=fun vs H Q E=>vs.length=n∧∃ th h ds,Wd K th h H∧RepVs K H th ds vs ∧
 match f ds h with
 | .ok d h'=>∀ v H' th',RepV K H' th' d v→Wd K th' h' H'→Gr th th' H H'→Q v H'
 | .exc c h'=>∀ H' th',Wd K th' h' H'→Gr th th' H H'→E (ecV mg c) none H'
 | .bad=>False
noncomputable def toE (mg:Str→Option Value) (EX:Nat→Hp→Prop):XK:=fun cls _ H=>∃ c,cls=ecV mg c∧EX c H
structure FnM (X:Cx) (k:Nat) (x:Str) (f:Den):Prop where
 ex:∃ (fa:Addr) (fd:FuncData) (ps:List Str),X.mg x=some (.ref fa)∧PySem.W.keepIn X.K (.ref fa)=true ∧
  FnOk X.prog X.w X.K X.mg X.base (CXM X.prog X.w) k fa fd ps (spOf X.K X.mg ps.length f)∧Binds X.K fd ps []∧∀ ds h,f ds h≠.bad→ds.length=ps.length
def FldOk (X:Cx) (c f:Str):Prop:=∃ Ca,PySem.W.nsIn X.K mainGlobals c=some (some (.ref Ca))∧Cls X.K Ca∧NoAttr X.K Ca f
structure MethM (X:Cx) (k:Nat) (c m:Str) (f:Den):Prop where
 ex:∃ (Ca fa:Addr) (fd:FuncData) (ps:List Str),PySem.W.nsIn X.K mainGlobals c=some (some (.ref Ca))∧Cls X.K Ca∧Meth X.K Ca m fa ∧
  FnOk X.prog X.w X.K X.mg X.base (CXM X.prog X.w) k fa fd ps (spOf X.K X.mg ps.length f)∧Binds X.K fd ps []∧∀ ds h,f ds h≠.bad→ds.length=ps.length
structure MakeM (X:Cx) (k:Nat) (c:Str) (f:Den):Prop where
 ex:∃ (Ca fa:Addr) (fd:FuncData) (ps:List Str),PySem.W.nsIn X.K mainGlobals c=some (some (.ref Ca))∧X.mg c=some (.ref Ca)∧Mk X.K Ca fa ∧
  FnOk X.prog X.w X.K X.mg X.base (CXM X.prog X.w) k fa fd ps (spOf X.K X.mg ps.length f)∧Binds X.K fd ps []∧∀ ds h,f ds h≠.bad→ds.length=ps.length
structure CtxOk (X:Cx) (C:CC) (G:List Den) (k:Nat):Prop where
 N:X.N=C.N
 nm:X.env.scope.names=C.nm
 nd:C.N.Nodup
 calm:X.calm=true
 room:Room k X.A
 ct:∀ x d,C.ct.lookup x=some d→∃ u v,X.mg x=some u∧RelV v u∧∀ H th,RepV X.K H th d v
 fs:∀ (i:Nat) x f,C.fs[i]?=some x→plainName x=true→G[i]?=some f→∃ j,j+1≤k∧FnM X j x f
 bl:∀ x,C.bl.contains x=true→X.mg x=none
 gl:∀ x a,PySem.W.nsIn X.K mainGlobals x=some (some (.ref a))→X.mg x=some (.ref a)
 fa:∀ x,C.fs.contains x=true→plainName x=true→∃ a,PySem.W.nsIn X.K mainGlobals x=some (some (.ref a))
 fd:∀ c f,C.fd.contains (c,f)=true→FldOk X c f
 ms:∀ i c m φ,C.ms.contains (i,c,m)=true→G[i]?=some φ→MethM X k c m φ
 mn:∀ i c φ,C.mn.contains (i,c)=true→G[i]?=some φ→∃ j,j+1≤k∧MakeM X j c φ
def ErrOk (mg:Str→Option Value) (base:Heap) (c:Nat):Prop:=∃ x C bm nid B iid,errs[c]?=some x∧OwnCls x C bm nid mg base∧ExcBaseFacts B nid iid bm
structure CtxS (X:Cx) (C:CC) (G:List Den) (k:Nat) (EX:Nat→Hp→Prop):Prop where
 ok:CtxOk X C G k
 xc:XC X (toE X.mg EX)
 xm:C.er=[]∨XM X (toE X.mg EX)
 st:X.stack=X.env::X.outer∧X.env.frame=some X.env.locals∧X.ex=[]
 af:∀ x,X.fn x=true
 er:∀ c,C.er.contains c=true→ErrOk X.mg X.base c
 fn:∀ x,isLoc (lk C.nm x)=true→X.fn x=true∨X.env.scope.names.lookup x=some .local
 own:PassesOwn (model X.prog X.w) X.A X.env X.xe
section
variable {X:Cx}{C:CC}{G:List Den}{k:Nat}
theorem CtxOk.units (O:CtxOk X C G k):X.A.units+65<cLine:=by have:=O.room.un;omega
theorem lookupEq {x:Str} (O:CtxOk X C G k):X.env.scope.names.lookup x=lk C.nm x:=by rw[O.nm];rfl
theorem isVis_vis {x:Str} (O:CtxOk X C G k) (h:isVis (lk C.nm x)=true):Vis X.env.scope x:=by
 unfold Vis
 rw[lookupEq O]
 cases e:lk C.nm x with
 | none=>rw[e] at h;cases h
 | some q =>
  rw[e] at h
  cases q with
  | «local»=>exact .inl rfl
  | cell=>exact .inr (.inl rfl)
  | free=>exact .inr (.inr rfl)
  | globalExplicit=>cases h
  | globalImplicit=>cases h
theorem isLoc_loc {x:Str} (O:CtxOk X C G k) (h:isLoc (lk C.nm x)=true):L2.Loc X.env.scope x:=by
 unfold L2.Loc
 rw[lookupEq O]
 cases e:lk C.nm x with
 | none=>rw[e] at h;cases h
 | some q =>
  rw[e] at h
  cases q with
  | «local»=>exact .inl rfl
  | cell=>exact .inr rfl
  | free=>cases h
  | globalExplicit=>cases h
  | globalImplicit=>cases h
theorem plain_debug {x:Str} (h:plainName x=true):(x==("__debug__":Str))=false∧(x==("__classdict__":Str))=false∧x≠"__name__":=by
 unfold plainName at h
 rw[Bool.and_eq_true,Bool.and_eq_true] at h
 obtain⟨⟨h1,h2⟩,h3⟩:=h
 refine⟨by simpa using h1,by simpa using h2,?_⟩
 intro e
 rw[e] at h3
 simp at h3
theorem findIdx_get {x:Str}{i:Nat}:∀ {l:List Str},l.findIdx? (·==x)=some i→l[i]?=some x:=by
 intro l h
 obtain⟨h1,h2,_⟩:=List.findIdx?_eq_some_iff_getElem.mp h
 rw[List.getElem?_eq_getElem h1]
 simpa using h2
theorem var_ok {x:Str}{i:Nat} (O:CtxOk X C G k) (h:C.var x=some i):X.N[i]?=some x∧Vis X.env.scope x∧plainName x=true:=by
 unfold CC.var at h
 split at h
 ·rename_i hc
  rw[Bool.and_eq_true] at hc
  rw[O.N]
  exact⟨findIdx_get h,isVis_vis O hc.1,hc.2⟩
 ·cases h
theorem isGl_ok {x:Str} (O:CtxOk X C G k) (h:C.isGl x=true):Gl X x∧plainName x=true:=by
 unfold CC.isGl at h
 rw[Bool.and_eq_true] at h
 refine⟨?_,h.2⟩
 show X.env.scope.names.lookup x=some .globalImplicit
 rw[lookupEq O]
 simpa using h.1
theorem e_con {c:Const}{j:Nat}{pos:Pos}{d:D}{v:V} (hp:PE X (.Constant c j pos) (tC v)) (r:∀ H th,RepV X.K H th d v):PE X (.Constant c j pos) (rdE X.K G (.con d)):=by
 refine hp.imp fun σ H Q ⟨th,ρ,h,d',h',w,e,q,kk⟩=>?_
 cases q
 exact kk v H th (r H th) w (Gr.refl _ _)
theorem e_var {x:Str}{i:Nat}{pos:Pos} (O:CtxOk X C G k) (h:C.var x=some i):PE X (.Name x pos) (rdE X.K G (.var i)):=by
 obtain⟨h1,h2,h3⟩:=var_ok O h
 obtain⟨h4,h5,_⟩:=plain_debug h3
 refine (pe_var h1 h2 h4 h5).imp fun σ H Q ⟨th,ρ,ah,d',h',w,e,q,kk⟩=>?_
 unfold ev at q
 cases g:getV ρ i with
 | none=>rw[g] at q;cases q
 | some d =>
  rw[g] at q
  cases q
  obtain⟨v,e1,r1⟩:=e.val i _ g
  exact⟨v,e1,kk v H th r1 w (Gr.refl _ _)⟩
theorem e_glob {x:Str}{d:D}{pos:Pos} (O:CtxOk X C G k) (hg:C.isGl x=true) (h:C.ct.lookup x=some d):PE X (.Name x pos) (rdE X.K G (.con d)):=by
 obtain⟨g,pl⟩:=isGl_ok O hg
 obtain⟨h4,h5,_⟩:=plain_debug pl
 obtain⟨u,v,hm,r,rr⟩:=O.ct x d h
 refine (pe_glob g hm r h4).imp fun σ H Q ⟨th,ρ,ah,d',h',w,e,q,kk⟩=>?_
 cases q
 exact kk v H th (rr H th) w (Gr.refl _ _)
theorem e_bin {a b:Expr}{p q:PX}{op:Operator}{pos:Pos} (ha:PE X a (rdE X.K G p)) (hb:PE X b (rdE X.K G q)):PE X (.BinOp a op b pos) (rdE X.K G (.bin op p q)):=by
 refine (pe_op (op_binD op) ha hb).imp fun σ H Q ⟨th,ρ,h,d,h',w,e,e1,kk⟩=>?_
 unfold ev at e1
 obtain⟨⟨d1,h1⟩,q1,e1⟩:=obs e1
 obtain⟨⟨d2,h2⟩,q2,e1⟩:=obs e1
 obtain⟨d3,q3,e1⟩:=obs e1
 cases e1
 exact rd2 w e q1 q2 fun x y H' th' r1 r2 w' g=>⟨th',_,_,_,_,w',r1.view w',r2.view w',q3,fun v H2 r w2 g2=>kk v H2 th' r w2 (g.trans g2)⟩
theorem e_cmp {a b:Expr}{p q:PX}{op:CmpOp}{pos:Pos} (O:CtxOk X C G k) (ha:PE X a (rdE X.K G p)) (hb:PE X b (rdE X.K G q)) (hm:behindInMarks op b=false):PE X (.Compare a [op] [b] pos) (rdE X.K G (.cmp op p q)):=by
 refine (pe_cmpR (op_cmpD O.units op) ha hb hm).imp fun σ H Q ⟨th,ρ,h,d,h',w,e,e1,kk⟩=>?_
 unfold ev at e1
 obtain⟨⟨d1,h1⟩,q1,e1⟩:=obs e1
 obtain⟨⟨d2,h2⟩,q2,e1⟩:=obs e1
 obtain⟨d3,q3,e1⟩:=obs e1
 cases e1
 exact rd2 w e q1 q2 fun x y H' th' r1 r2 w' g=>⟨th',_,_,_,_,w',r1.view w',r2.view w',by unfold cmpV;rw[q3];rfl,fun v H2 r w2 g2=>kk v H2 th' r w2 (g.trans g2)⟩
noncomputable def rdB (K:PySem.W.Frag) (G:List Den) (b:PB):TT:=fun σ H Q=>∃ th ρ h c h',Wd K th h H∧EnvR K H th ρ σ∧evB G b ρ h=some (c,h')∧∀ H' th',Wd K th' h' H'→Gr th th' H H'→Q c H'
theorem t_cmp {a b:Expr}{p q:PX}{op:CmpOp}{pos:Pos} (O:CtxOk X C G k) (ha:PE X a (rdE X.K G p)) (hb:PE X b (rdE X.K G q)) (hm:behindInMarks op b=false):PT X (.Compare a [op] [b] pos) (rdB X.K G (.val (.cmp op p q))):=by
 refine (pt_cmpR (op_cmpD O.units op) ha hb hm).imp fun σ H Q ⟨th,ρ,h,c,h',w,e,e1,kk⟩=>?_
 unfold evB at e1
 obtain⟨⟨d0,h0⟩,e0,e1⟩:=obs e1
 obtain⟨c0,e2,e1⟩:=obs e1
 cases e1
 unfold ev at e0
 obtain⟨⟨d1,h1⟩,q1,e0⟩:=obs e0
 obtain⟨⟨d2,h2⟩,q2,e0⟩:=obs e0
 obtain⟨d3,q3,e0⟩:=obs e0
 cases e0
 have:c=d3:=by simpa [tru,vw] using e2.symm
 subst this
 refine rd2 w e q1 q2 fun x y H' th' r1 r2 w' g=>⟨th',_,_,_,_,w',r1.view w',r2.view w',by unfold cmpV;rw[q3];rfl,fun v H2 r w2 g2=>?_⟩
 cases r
 exact⟨_,rfl,kk H2 th' w2 (g.trans g2)⟩
theorem rd_chain {p q r:PX}{op op':CmpOp}{σ:St}{H:Hp}{Q:VK}{th:Th}{ρ:Ev}{h h':AH}{d:D} (w:Wd X.K th h H) (e:EnvR X.K H th ρ σ) (e1:ev G (.cmp2 op op' p q r) ρ h=some (d,h'))
  (kk:∀ v H' th',RepV X.K H' th' d v→Wd X.K th' h' H'→Gr th th' H H'→Q v H') :
  tChain (rdOp X.K (cmpV op)) (rdOp X.K (cmpV op')) (rdE X.K G p) (rdE X.K G q) (rdE X.K G r) σ H Q:=by
 unfold ev at e1
 obtain⟨⟨d1,h1⟩,q1,e1⟩:=obs e1
 obtain⟨⟨d2,h2⟩,q2,e1⟩:=obs e1
 obtain⟨b,q3,e1⟩:=obs e1
 refine rd2 w e q1 q2 fun x y H' th' r1 r2 w' g=>⟨th',_,_,_,_,w',r1.view w',r2.view w',by unfold cmpV;rw[q3];rfl,fun v H2 rv w2 g2=>?_⟩
 cases rv
 refine⟨b,rfl,?_⟩
 cases b with
 | false =>
  rw[if_neg Bool.false_ne_true] at e1 ⊢
  cases e1
  exact kk _ H2 th' (.bl _) w2 (g.trans g2)
 | true =>
  rw[if_pos rfl] at e1 ⊢
  obtain⟨⟨d4,h4⟩,q4,e1⟩:=obs e1
  obtain⟨b5,q5,e1⟩:=obs e1
  cases e1
  refine⟨th',ρ,h2,d4,h4,w2,e.mono (g.trans g2) w2.kd,q4,fun z H4 th4 r4 w4 g4=>?_⟩
  exact⟨th4,_,_,_,_,w4,((r2.mono g2 w2.kd).mono g4 w4.kd).view w4,r4.view w4,by unfold cmpV;rw[q5];rfl,fun v H5 r5 w5 g5=>kk v H5 th4 r5 w5 (((g.trans g2).trans g4).trans g5)⟩
theorem e_cmp2 {a b c:Expr}{p q r:PX}{op op':CmpOp}{pos:Pos} (O:CtxOk X C G k) (ha:PE X a (rdE X.K G p)) (hb:PE X b (rdE X.K G q)) (hc:PE X c (rdE X.K G r)) (hm:lastMarks [op,op'] [b,c]=false) :
  PE X (.Compare a [op,op'] [b,c] pos) (rdE X.K G (.cmp2 op op' p q r)) :=
 (pe_chain (op_cmpD O.units op) (op_cmpD O.units op') ha hb hc hm).imp fun σ H Q ⟨th,ρ,h,d,h',w,e,e1,kk⟩=>rd_chain w e e1 kk
theorem t_cmp2 {a b c:Expr}{p q r:PX}{op op':CmpOp}{pos:Pos} (O:CtxOk X C G k) (ha:PE X a (rdE X.K G p)) (hb:PE X b (rdE X.K G q)) (hc:PE X c (rdE X.K G r)) (hm:lastMarks [op,op'] [b,c]=false) :
  PT X (.Compare a [op,op'] [b,c] pos) (rdB X.K G (.val (.cmp2 op op' p q r))):=by
 refine (pt_chain (op_cmpD O.units op) (op_cmpD O.units op') ha hb hc hm).imp fun σ H Q ⟨th,ρ,h,b,h',w,e,e1,kk⟩=>?_
 unfold evB at e1
 obtain⟨⟨d0,h0⟩,e0,e1⟩:=obs e1
 obtain⟨c0,e2,e1⟩:=obs e1
 cases e1
 have hb:∃ z,d0=.bl z:=by
  unfold ev at e0
  obtain⟨⟨d1,h1⟩,q1,e0⟩:=obs e0
  obtain⟨⟨d2,h2⟩,q2,e0⟩:=obs e0
  obtain⟨z,q3,e0⟩:=obs e0
  split at e0
  ·obtain⟨⟨d4,h4⟩,q4,e0⟩:=obs e0
   obtain⟨b5,q5,e0⟩:=obs e0
   cases e0
   exact⟨_,rfl⟩
  ·cases e0
   exact⟨_,rfl⟩
 obtain⟨z,rfl⟩:=hb
 have:b=z:=by simpa [tru,vw] using e2.symm
 subst this
 exact rd_chain w e e0 fun v H' th' rv w' g=>by cases rv;exact⟨_,rfl,kk H' th' w' g⟩
theorem e_neg {a:Expr}{p:PX}{pos:Pos} (ha:PE X a (rdE X.K G p)):PE X (.UnaryOp .USub a pos) (rdE X.K G (.neg p)):=by
 refine (pe_un un_neg ha).imp fun σ H Q ⟨th,ρ,h,d,h',w,e,e1,kk⟩=>?_
 unfold ev at e1
 obtain⟨⟨d1,h1⟩,q1,e1⟩:=obs e1
 refine⟨th,ρ,h,d1,h1,w,e,q1,fun v H' th' r w' g=>?_⟩
 cases d1 with
 | int i=>cases e1;cases r;exact⟨_,rfl,kk _ H' th' (.int _) w' g⟩
 | _=>cases e1
theorem e_and {a b:Expr}{rest:List Expr}{p q:PX}{pos:Pos} (ha:PE X a (rdE X.K G p)) (hb:PE X (.BoolOp .And (b::rest) pos) (rdE X.K G q)):PE X (.BoolOp .And (a::b::rest) pos) (rdE X.K G (.and p q)):=by
 refine (pe_and ha hb).imp fun σ H Q ⟨th,ρ,h,d,h',w,e,e1,kk⟩=>?_
 unfold ev at e1
 obtain⟨⟨d1,h1⟩,q1,e1⟩:=obs e1
 refine⟨th,ρ,h,d1,h1,w,e,q1,fun v H' th' r w' g=>?_⟩
 cases d1 with
 | bl i =>
  cases r
  refine⟨i,rfl,?_⟩
  cases i with
  | true=>exact⟨th',ρ,h1,d,h',w',e.mono g w'.kd,e1,fun v H2 th2 r2 w2 g2=>kk v H2 th2 r2 w2 (g.trans g2)⟩
  | false =>
   have e1:some (D.bl false,h1)=some (d,h'):=e1
   cases e1
   exact kk _ H' th' (.bl _) w' g
 | _=>cases e1
theorem t_not {a:Expr}{b:PB}{pos:Pos} (ha:PT X a (rdB X.K G b)):PT X (.UnaryOp .Not a pos) (rdB X.K G (.not b)):=by
 refine (pt_not ha).imp fun σ H Q ⟨th,ρ,h,c,h',w,e,e1,kk⟩=>?_
 unfold evB at e1
 obtain⟨⟨d1,h1⟩,q1,e1⟩:=obs e1
 cases e1
 exact⟨th,ρ,h,d1,_,w,e,q1,fun H' th' w' g=>kk H' th' w' g⟩
theorem w_and {a b:Expr}{rest:List Expr}{p q:PB}{pos:Pos} (ha:PT X a (rdB X.K G p)) (hb:PW X (.BoolOp .And (b::rest) pos) (rdB X.K G q)):PW X (.BoolOp .And (a::b::rest) pos) (rdB X.K G (.and p q)):=by
 refine (pw_and ha hb).imp fun σ H Q ⟨th,ρ,h,c,h',w,e,e1,kk⟩=>?_
 unfold evB at e1
 obtain⟨⟨d1,h1⟩,q1,e1⟩:=obs e1
 refine⟨th,ρ,h,d1,h1,w,e,q1,fun H' th' w' g=>?_⟩
 cases d1 with
 | true=>exact⟨th',ρ,h1,c,h',w',e.mono g w'.kd,e1,fun H2 th2 w2 g2=>kk H2 th2 w2 (g.trans g2)⟩
 | false =>
  have e1:some (false,h1)=some (c,h'):=e1
  cases e1
  exact kk H' th' w' g
theorem w_or {a b:Expr}{rest:List Expr}{p q:PB}{pos:Pos} (ha:PT X a (rdB X.K G p)) (hb:PW X (.BoolOp .Or (b::rest) pos) (rdB X.K G q)):PW X (.BoolOp .Or (a::b::rest) pos) (rdB X.K G (.or p q)):=by
 refine (pw_or ha hb).imp fun σ H Q ⟨th,ρ,h,c,h',w,e,e1,kk⟩=>?_
 unfold evB at e1
 obtain⟨⟨d1,h1⟩,q1,e1⟩:=obs e1
 refine⟨th,ρ,h,d1,h1,w,e,q1,fun H' th' w' g=>?_⟩
 cases d1 with
 | false=>exact⟨th',ρ,h1,c,h',w',e.mono g w'.kd,e1,fun H2 th2 w2 g2=>kk H2 th2 w2 (g.trans g2)⟩
 | true =>
  have e1:some (true,h1)=some (c,h'):=e1
  cases e1
  exact kk H' th' w' g
theorem tru_V {H:Hp}{th:Th}{h:AH}{d:D}{v:V}{c:Bool} (w:Wd X.K th h H) (r:RepV X.K H th d v) (e:tru h d=some c):TruV X.K v H c:=by
 have rw':=r.view w
 unfold tru at e
 split at e
 ·rename_i hv;rw[hv] at rw';cases rw'.inon;cases e;rfl
 ·rename_i hv;rw[hv] at rw';cases rw'.ibl;cases e;rfl
 ·rename_i hv;rw[hv] at rw';cases rw'.iint;cases e;rfl
 ·rename_i s hv
  rw[hv] at rw';cases rw'.istr
  split at e
  ·rename_i hl
   cases e
   refine⟨by rw[SS_length,SZ_eq];exact hl,?_⟩
   rw[SS_length]
   cases s<;>simp
   omega
  ·cases e
 ·rename_i xs hv
  rw[hv] at rw'
  cases e
  obtain⟨a,vs,rfl,q,rs⟩:=rw'.itup
  refine .inr (.inl ⟨vs,q,?_⟩)
  cases rs<;>rfl
 ·rename_i xs hv
  rw[hv] at rw'
  cases e
  obtain⟨a,vs,rfl,q,rs⟩:=rw'.ilst
  refine .inl ⟨vs,q,?_⟩
  cases rs<;>rfl
 ·cases e
theorem t_val {a:Expr}{p:PX} (ha:PE X a (rdE X.K G p)) (he:∀ whole,isTrue a X.env whole=(do let v ← whole;standAt a.pos;holding [v] (truthy v))):PT X a (rdB X.K G (.val p)):=by
 refine (pt_truth ha he).imp fun σ H Q ⟨th,ρ,h,c,h',w,e,e1,kk⟩=>?_
 unfold evB at e1
 obtain⟨⟨d1,h1⟩,q1,e1⟩:=obs e1
 obtain⟨c1,q2,e1⟩:=obs e1
 cases e1
 exact⟨th,ρ,h,d1,_,w,e,q1,fun v H' th' r w' g=>⟨_,tru_V w' r q2,kk H' th' w' g⟩⟩
theorem a_nil:PA X [] (rdA X.K G []):=by
 refine pa_nil.imp fun σ H Q ⟨th,ρ,h,ds,h',w,e,e1,kk⟩=>?_
 cases e1
 exact kk [] H th .nil w (Gr.refl _ _)
theorem a_cons {e:Expr}{es:List Expr}{p:PX}{ps:List PX} (ha:PE X e (rdE X.K G p)) (hr:PA X es (rdA X.K G ps)) (hs:starEach (e::es) X.env=(false,eval e X.env)::starEach es X.env):PA X (e::es) (rdA X.K G (p::ps)):=by
 refine (pa_cons ha hr hs).imp fun σ H Q ⟨th,ρ,h,ds,h',w,e,e1,kk⟩=>?_
 unfold evs at e1
 obtain⟨⟨d1,h1⟩,q1,e1⟩:=obs e1
 obtain⟨⟨d2,h2⟩,q2,e1⟩:=obs e1
 cases e1
 exact⟨th,ρ,h,d1,h1,w,e,q1,fun v H1 th1 r1 w1 g1=>⟨th1,ρ,h1,d2,_,w1,e.mono g1 w1.kd,q2,fun vs H2 th2 r2 w2 g2=>kk _ H2 th2 (.cons (r1.mono g2 w2.kd) r2) w2 (g1.trans g2)⟩⟩
theorem e_tup {es:List Expr}{ps:List PX}{j:Nat}{pos:Pos} (ha:PA X es (rdA X.K G ps)):PE X (.Tuple es j pos) (rdE X.K G (.tup ps)):=by
 refine (pe_tup ha).imp fun σ H Q ⟨th,ρ,h,d,h',w,e,e1,kk⟩=>?_
 unfold ev at e1
 obtain⟨⟨ds,h1⟩,q1,e1⟩:=obs e1
 refine⟨th,ρ,h,ds,h1,w,e,q1,fun vs H' th' r w' g=>?_⟩
 have hl:=r.length
 split at e1
 ·rename_i hz
  cases e1
  refine⟨by rw[← hl,SZ_eq];exact hz,fun p hp=>?_⟩
  have g2:=Gr.laid (H:=H') (o:=.tup vs) th' hp
  exact kk _ _ th' (.tup (SqT.of upd_same) (r.mono g2 w'.kd)) (w'.laid hp) (g.trans g2)
 ·cases e1
theorem e_lst {es:List Expr}{ps:List PX}{pos:Pos} (ha:PA X es (rdA X.K G ps)):PE X (.List es pos) (rdE X.K G (.lst ps)):=by
 refine (pe_lst ha).imp fun σ H Q ⟨th,ρ,h,d,h',w,e,e1,kk⟩=>?_
 unfold ev at e1
 obtain⟨⟨ds,h1⟩,q1,e1⟩:=obs e1
 refine⟨th,ρ,h,ds,h1,w,e,q1,fun vs H' th' r w' g=>?_⟩
 have hl:=r.length
 split at e1
 ·rename_i hz
  cases e1
  refine⟨by rw[← hl,SZ_eq];exact hz,fun p hp=>?_⟩
  have g2:=Gr.laid (H:=H') (o:=.lst vs) th' hp
  exact kk _ _ th' (.lst (SqL.of upd_same) (w'.notin hp) (r.mono g2 w'.kd)) (w'.laid hp) (g.trans g2)
 ·cases e1
theorem pe_lstN {es:List Expr}{t:TA}{pos:Pos} (h:PA X es t):PE X (.List es pos) (fun σ H Q=>t σ H fun xs H1=>xs.length≤sizeLine∧∀ p,H1 p=none→X.K.lookup p=none→Q (.ref p) (upd H1 p (.lst xs))):=by
 intro pins s σ H Q I hq
 refine wpAny_List_spliced (thn (h pos pins s σ H _ I hq) fun us s1 ⟨xs,H1,I1,r,z,q⟩=>⟨by rw[← r.length];exact z,?_⟩)
 have hf:H1 s1.heap.objs.size=none:=I1.hok.fresh (Nat.le_refl _)
 have hk:X.K.lookup s1.heap.objs.size=none:=by
  cases e:X.K.lookup s1.heap.objs.size with
  | none=>rfl
  | some o=>exact absurd (Heap.lt_size (I1.kIn _ _ e)) (Nat.lt_irrefl _)
 refine⟨.ref s1.heap.objs.size,upd H1 s1.heap.objs.size (.lst xs),I1.laid (t':=s1.toks) (fun b u e=>Heap.get?_push_of_some _ e) (Nat.le_refl _) ?_,rfl,q _ hf hk⟩
 exact⟨z,us,0,r,Heap.get?_push_size _ rfl⟩
theorem e_new {es:List Expr}{ps:List PX}{pos:Pos} (ha:PA X es (rdA X.K G ps)):PE X (.List es pos) (rdE X.K G (.new ps)):=by
 refine (pe_lstN ha).imp fun σ H Q ⟨th,ρ,h,d,h',w,e,e1,kk⟩=>?_
 unfold ev at e1
 obtain⟨⟨ds,h1⟩,q1,e1⟩:=obs e1
 refine⟨th,ρ,h,ds,h1,w,e,q1,fun vs H' th' r w' g=>?_⟩
 have hl:=r.length
 split at e1
 ·rename_i hz
  cases e1
  refine⟨by rw[← hl,SZ_eq];exact hz,fun p hp hk=>?_⟩
  have g2:=Gr.added (H:=H') (o:=.lst vs) th' hp
  have kd2:∀ a∈th'++[p],X.K.lookup a=none:=fun a m=>by
   rcases List.mem_append.mp m with z | z
   ·exact w'.kd a z
   ·have:a=p:=by simpa using z
    rw[this];exact hk
  refine kk _ _ (th'++[p]) (.ref ?_) (w'.added hp hk ⟨vs,upd_same,r.mono g2 kd2⟩) (g.trans g2)
  show (th'++[p])[h1.length]?=some p
  rw[← w'.len]
  simp
 ·cases e1
end
section
variable {X:Cx}{G:List Den}
theorem atI_rep {K:PySem.W.Frag}{H:Hp}{th:Th}{ds:List D}{vs:List V}{i:Int}{d:D} (r:RepVs K H th ds vs) (e:atI ds i=some d):∃ v,L2.atI vs i=some v∧RepV K H th d v:=by
 unfold atI at e
 obtain⟨j,e1,e2⟩:=obs e
 obtain⟨v,e3,r3⟩:=r.get e2
 refine⟨v,?_,r3⟩
 show (L2.ixN vs.length i).bind _=_
 rw[← r.length]
 have e1':L2.ixN ds.length i=some j:=e1
 rw[e1']
 exact e3
theorem ix_D:IxR X (rdOp X.K idxD):=by
 intro value slice pins s σ H x y v u Q I rx ry h hs
 obtain⟨th,ah,dx,dy,d,w,wx,wy,e,k⟩:=h
 have kk:∀ v,RepV X.K H th d v→Q v H:=fun v r=>k v H r w (Gr.refl _ _)
 unfold idxD at e
 split at e
 ·obtain⟨a,vs,rfl,q,rs⟩:=wx.ilst
  cases wy.iint
  obtain⟨z,e1,r1⟩:=atI_rep rs e
  exact ix_list value slice pins s σ H _ _ v u Q I rx ry ⟨a,vs,_,z,rfl,rfl,q,e1,kk z r1⟩ hs
 ·obtain⟨a,vs,rfl,q,rs⟩:=wx.itup
  cases wy.iint
  obtain⟨z,e1,r1⟩:=atI_rep rs e
  exact ix_tup value slice pins s σ H _ _ v u Q I rx ry ⟨a,vs,_,z,rfl,rfl,q,e1,kk z r1⟩ hs
 ·split at e
  ·rename_i z i hz
   cases wx.istr
   cases wy.iint
   cases e1:atI z i with
   | none=>rw[e1] at e;cases e
   | some c =>
    rw[e1] at e
    cases e
    refine ix_str value slice pins s σ H _ _ v u Q I rx ry ⟨SS z,i,c,rfl,rfl,by rw[SS_length,SZ_eq];exact hz,?_,kk _ (.str [c])⟩ hs
    show L2.atI (z.toArray).toList i=some c
    rw[List.toList_toArray]
    exact e1
  ·cases e
 ·cases e
theorem e_idx {a b:Expr}{p q:PX}{pos:Pos} (ha:PE X a (rdE X.K G p)) (hb:PE X b (rdE X.K G q)) (hs:PlainIx b):PE X (.Subscript a b pos) (rdE X.K G (.idx p q)):=by
 refine (pe_ix ix_D ha hb hs).imp fun σ H Q ⟨th,ρ,h,d,h',w,e,e1,kk⟩=>?_
 unfold ev at e1
 obtain⟨⟨d1,h1⟩,q1,e1⟩:=obs e1
 obtain⟨⟨d2,h2⟩,q2,e1⟩:=obs e1
 obtain⟨d3,q3,e1⟩:=obs e1
 cases e1
 refine rd2 w e q1 q2 fun x y H' th' r1 r2 w' g=>⟨th',h2,vw h2 d1,d2,_,w',r1.view w',?_,q3,fun v H2 r w2 g2=>kk v H2 th' r w2 (g.trans g2)⟩
 cases d2 with
 | lst ds=>cases r2 with | lst q n r=>exact⟨_,_,rfl,q,r⟩
 | _=>exact r2
theorem sIx_eq (n d:Nat) (o:Option Int):sIx n d o=HT.sIx n d o:=by cases o<;>rfl
theorem cut_rep {K:PySem.W.Frag}{H:Hp}{th:Th}{ds:List D}{vs:List V} (lo hi:Option Int) (r:RepVs K H th ds vs):RepVs K H th (cut ds lo hi) (cutV vs lo hi):=by
 unfold cut cutV
 rw[sIx_eq,sIx_eq,r.length]
 exact (r.drop _).take _
theorem getItem_tuple_all {prog:Program}{w:World}{A:Around}{E:Value→Shared→Prop}{s:Shared}{t sl:Addr}{items:Array Value}{vl vu:Value}{lo hi:Option Int}{Q:Value→Shared→Prop} (ht:IsTup s.heap t items) (hs:s.heap.IsSliceOf sl vl vu .none) (pl:IsPart vl lo) (pu:IsPart vu hi)
  (hw:HT.sIx items.size 0 lo=0∧HT.sIx items.size items.size hi=items.size) (h:Q (.ref t) s):wpAny (model prog w) A (getItem (.ref t) (.ref sl)) Q E s:=by
 obtain⟨os,hos,hcs,hds⟩:=id hs
 have hTs:s.TypeIs (.ref sl) "slice":=⟨os,hos,hcs⟩
 unfold getItem
 try with_reducible refine wpAny_holding ?_
 first | refine wpAny_bind (wpAny_pure ?_) | skip
 refine wpAny_bind (wpAny_sequenceKey ht.typeIs (by decide) ?_)
 refine wpAny_bind (wpAny_callSpecial?_slot (name:=Str.ofString "__getitem__") ht.typeIs PyProof.Rows.slot_tuple_getitem
  (wpAny_call_entry PyProof.Rows.slot_tuple_getitem ht.typeIs entry_tuple_getitem ?_ (args_tuple_getitem _ _)))
 show wpAny _ _ (Builtin.Tuple.tupleItemsOf (.ref t)>>=_) _ _ s
 refine wpAny_bind (tupleItemsOf_ ht ?_)
 refine wpAny_bind (wpAny_typeOf hTs ?_)
 rw[if_pos (by decide)]
 refine wpAny_bind (HT.sliceApplied_gen hs pl pu ?_)
 have hyes:(((HT.sIx items.size 0 lo:Nat):Int)==0&&(1:Int)==1&&(HT.sIx items.size items.size hi - HT.sIx items.size 0 lo)==items.size)=true:=by
  rw[hw.1,hw.2]
  simp
 show wpAny _ _ (if (((HT.sIx items.size 0 lo:Nat):Int)==0&&(1:Int)==1&&(HT.sIx items.size items.size hi - HT.sIx items.size 0 lo)==items.size)=true then _ else _) _ _ s
 rw[if_pos hyes]
 unfold Builtin.Tuple.tupleIsExact
 refine wpAny_bind (wpAny_bind (wpAny_typeOf ht.typeIs (wpAny_pure ?_)))
 rw[if_pos (by decide)]
 exact wpAny_bind (wpAny_rule (wpAny_pure ⟨_,rfl,wpAny_pure h⟩))
theorem pick_list {α:Type} (s:List α) (a:Nat):∀ k:Nat,(List.range k).filterMap (fun m=>s[a+m]?)=(s.drop a).take k
 | 0=>by simp
 | k+1=>by
  rw[List.range_succ,List.filterMap_append,pick_list s a k,List.take_add_one]
  congr 1
  rw[List.getElem?_drop]
  cases e:s[a+k]?<;>simp[e]
theorem clip_ix (n:Nat) (d:Nat) (hd:d≤n) (o:Option Int) :
  (match o with | none=>(d:Int) | some i=>if (1:Int) > 0 then max 0 (min (if i<0 then i+(n:Int) else i) (n:Int)) else max (-1) (min (if i<0 then i+(n:Int) else i) ((n:Int) - 1)))=((sIx n d o:Nat):Int):=by
 cases o with
 | none=>rfl
 | some i =>
  show (if (1:Int) > 0 then max 0 (min (if i<0 then i+(n:Int) else i) (n:Int)) else max (-1) (min (if i<0 then i+(n:Int) else i) ((n:Int) - 1)))=_
  rw[if_pos (show (1:Int) > 0 by decide)]
  show _=(((if i<0 then (i+(n:Int)).toNat else min i.toNat n):Nat):Int)
  split<;>omega
theorem sIx_le' (n d:Nat) (hd:d≤n) (o:Option Int):sIx n d o≤n:=by
 cases o with
 | none=>exact hd
 | some i =>
  show (if i<0 then (i+(n:Int)).toNat else min i.toNat n)≤n
  split<;>omega
theorem strIdx_eq (n:Nat) (lo hi:Option Int):Builtin.Str.strSliceIndices lo hi 1 n=(List.range (sIx n n hi - sIx n 0 lo)).map fun k=>sIx n 0 lo+k:=by
 have e1:=clip_ix n 0 (Nat.zero_le _) lo
 have e2:=clip_ix n n (Nat.le_refl _) hi
 have e:Builtin.Str.strSliceIndices lo hi 1 n=sliceRange ((sIx n 0 lo:Nat):Int) ((sIx n n hi:Nat):Int) 1:=by
  rw[← e1,← e2]
  rfl
 rw[e]
 unfold sliceRange
 rw[if_pos (show (1:Int) > 0 by decide)]
 have c:(if ((sIx n 0 lo:Nat):Int)<((sIx n n hi:Nat):Int) then (((sIx n n hi:Nat):Int) - ((sIx n 0 lo:Nat):Int)+1 - 1) / 1 else 0).toNat=sIx n n hi - sIx n 0 lo:=by
  rw[Int.ediv_one]
  split<;>omega
 show (List.range (if ((sIx n 0 lo:Nat):Int)<((sIx n n hi:Nat):Int) then (((sIx n n hi:Nat):Int) - ((sIx n 0 lo:Nat):Int)+1 - 1) / 1 else 0).toNat).map _=_
 rw[c]
 refine List.map_congr_left fun k _=>?_
 show (((sIx n 0 lo:Nat):Int)+1 * (k:Int)).toNat=_
 omega
theorem strSlice_eq (s:List Nat) (lo hi:Option Int):Txt.slice (SS s) lo hi=SS (cut s lo hi):=by
 unfold Txt.slice
 rw[SS_length,strIdx_eq]
 have pk:(List.filterMap (fun x=>(SS s).cps[x]?) ((List.range (sIx s.length s.length hi - sIx s.length 0 lo)).map fun k=>sIx s.length 0 lo+k))=cut s lo hi:=by
  rw[List.filterMap_map]
  have:((fun x=>(SS s).cps[x]?) ∘ fun k=>sIx s.length 0 lo+k)=fun m=>s[sIx s.length 0 lo+m]?:=by
   funext k
   show s.toArray[_]?=_
   simp
  rw[this,pick_list]
  rfl
 rw[pk]
 split
 ·rename_i hc
  have hl:sIx s.length s.length hi - sIx s.length 0 lo=s.length:=by
   have:=(Bool.and_eq_true_iff.mp hc).2
   simpa using this
  have h2:=sIx_le' s.length s.length (Nat.le_refl _) hi
  have h3:=sIx_le' s.length 0 (Nat.zero_le _) lo
  have h0:sIx s.length 0 lo=0:=by omega
  have h1:sIx s.length s.length hi=s.length:=by omega
  unfold cut
  rw[h0,h1]
  simp
 ·rfl
def rdSl (K:PySem.W.Frag):V→Option Int→Option Int→Hp→VK→Prop:=fun x lo hi H Q=>∃ th h dx d,Wd K th h H∧RepW K H th dx x∧slD dx lo hi=some d ∧
 ∀ v H',RepV K H' th d v→Wd K th h H'→Gr th th H H'→Q v H'
theorem isPart_str {v:Value}{o:Option Int} (p:IsPart v o):∃ z:Option (Int×Tok),v=partValue z∧z.map (·.1)=o:=by
 cases p with
 | none=>exact⟨none,rfl,rfl⟩
 | int i t=>exact⟨some (i,t),rfl,rfl⟩
theorem sl_D:SlR X (rdSl X.K):=by
 intro pins s σ H x v vl vu lo hi sl Q I rx hs pl pu h
 obtain⟨th,ah,dx,d,w,wx,e,k⟩:=h
 have kk:∀ v,RepV X.K H th d v→Q v H:=fun v r=>k v H r w (Gr.refl _ _)
 unfold slD at e
 split at e
 ·cases e
  obtain⟨a,vs,rfl,q,rs⟩:=wx.ilst
  refine sl_list pins s σ H _ v vl vu lo hi sl Q I rx hs pl pu ⟨a,vs,rfl,q,fun p hp=>?_⟩
  have g:=Gr.laid (H:=H) (o:=.lst (cutV vs lo hi)) th hp
  exact k _ _ (.lst (SqL.of upd_same) (w.notin hp) ((cut_rep lo hi rs).mono g w.kd)) (w.laid hp) g
 ·cases e
  rename_i xs
  obtain⟨a,vs,rfl,q,rs⟩:=wx.itup
  by_cases hw:HT.sIx vs.length 0 lo=0∧HT.sIx vs.length vs.length hi=vs.length
  ·cases rx
   obtain⟨its,r,ht,hz⟩:=I.tuple q
   have hlen:its.toArray.size=vs.length:=by rw[List.size_toArray];exact r.length.symm
   refine⟨"tuple",_,PyProof.Rows.slot_tuple_getitem.lookup,ht.typeIs,getItem_tuple_all ht hs pl pu (by rw[hlen];exact hw) ⟨.ref a,H,I,rfl,kk _ ?_⟩⟩
   have:cut xs lo hi=xs:=by
    unfold cut
    rw[sIx_eq,sIx_eq,rs.length,hw.1,hw.2]
    have:=rs.length
    simp[List.take_of_length_le,this]
   rw[this]
   exact .tup q rs
  ·refine sl_tup pins s σ H _ v vl vu lo hi sl Q I rx hs pl pu ⟨a,vs,rfl,q,hw,fun p hp=>?_⟩
   have g:=Gr.laid (H:=H) (o:=.tup (cutV vs lo hi)) th hp
   exact k _ _ (.tup (SqT.of upd_same) ((cut_rep lo hi rs).mono g w.kd)) (w.laid hp) g
 ·split at e
  ·rename_i z hz
   cases e
   cases wx.istr
   obtain⟨t,rfl⟩:=rx
   obtain⟨zl,rfl,el⟩:=isPart_str pl
   obtain⟨zu,rfl,eu⟩:=isPart_str pu
   refine⟨"str",_,F.slot_str_getitem.lookup,typeIs_str _ _ _,wpAny_getItem_str_slice (l:=zl) (u:=zu) (st:=none) hs rfl ?_⟩
   have hsz:(SS z).length≤sizeLine:=by rw[SS_length,SZ_eq];exact hz
   subst el eu
   have e1:sliceMade (SS z) t zl zu none=(if ((1:Int)==1&&(Builtin.Str.strSliceIndices (zl.map (·.1)) (zu.map (·.1)) 1 (SS z).length).length==(SS z).length)=true then Made.val (.str (SS z) t)
    else Made.str ⟨((Builtin.Str.strSliceIndices (zl.map (·.1)) (zu.map (·.1)) 1 (SS z).length).filterMap ((SS z).cps[·]?)).toArray⟩):=rfl
   have e2:Txt.slice (SS z) (zl.map (·.1)) (zu.map (·.1))=(if ((1:Int)==1&&(Builtin.Str.strSliceIndices (zl.map (·.1)) (zu.map (·.1)) 1 (SS z).length).length==(SS z).length)=true then SS z
    else ⟨((Builtin.Str.strSliceIndices (zl.map (·.1)) (zu.map (·.1)) 1 (SS z).length).filterMap ((SS z).cps[·]?)).toArray⟩):=rfl
   rw[e1]
   refine post_val_or_str ?_
   rw[← e2]
   refine⟨Nat.le_trans (Txt.slice_le (SS z) (zl.map (·.1)) (zu.map (·.1))) hsz,fun t' k'=>?_⟩
   rw[strSlice_eq]
   exact⟨.str (SS (cut z (zl.map (·.1)) (zu.map (·.1)))),H,I.tok _,⟨t',rfl⟩,kk _ (.str _)⟩
  ·cases e
 ·cases e
noncomputable def rdO (K:PySem.W.Frag) (G:List Den) (p:Option PX):TO:=fun σ H Q=>∃ th ρ h o h',Wd K th h H∧EnvR K H th ρ σ∧evo G p ρ h=some (o,h')∧∀ H' th',Wd K th' h' H'→Gr th th' H H'→Q o H'
theorem _root_.L2.PO.imp {e:Option Expr}{t t':TO} (p:PO X e t) (h:∀ σ H Q,t' σ H Q→t σ H Q):PO X e t':=fun pins s σ H Q I q=>p pins s σ H Q I (h σ H Q q)
theorem o_none:PO X none (rdO X.K G none):=by
 refine po_none.imp fun σ H Q ⟨th,ρ,h,o,h',w,e,e1,kk⟩=>?_
 cases e1
 exact kk H th w (Gr.refl _ _)
theorem o_some {e:Expr}{p:PX} (h:PE X e (rdE X.K G p)):PO X (some e) (rdO X.K G (some p)):=by
 refine (po_some h).imp fun σ H Q ⟨th,ρ,h,o,h',w,e,e1,kk⟩=>?_
 unfold evo at e1
 obtain⟨⟨d1,h1⟩,q1,e1⟩:=obs e1
 refine⟨th,ρ,h,d1,h1,w,e,q1,fun v H' th' r w' g=>?_⟩
 cases d1 with
 | int i=>cases e1;cases r;exact⟨_,rfl,kk H' th' w' g⟩
 | _=>cases e1
theorem e_sl {a:Expr}{lo hi:Option Expr}{p:PX}{l u:Option PX}{p2 pos:Pos} (ha:PE X a (rdE X.K G p)) (hl:PO X lo (rdO X.K G l)) (hu:PO X hi (rdO X.K G u)):PE X (.Subscript a (.Slice lo hi none p2) pos) (rdE X.K G (.sl p l u)):=by
 refine (pe_slice sl_D ha hl hu).imp fun σ H Q ⟨th,ρ,h,d,h',w,e,e1,kk⟩=>?_
 unfold ev at e1
 obtain⟨⟨d1,h1⟩,q1,e1⟩:=obs e1
 obtain⟨⟨d2,h2⟩,q2,e1⟩:=obs e1
 obtain⟨⟨d3,h3⟩,q3,e1⟩:=obs e1
 obtain⟨d4,q4,e1⟩:=obs e1
 cases e1
 exact⟨th,ρ,h,d1,h1,w,e,q1,fun x H1 th1 r1 w1 g1=>⟨th1,ρ,h1,d2,h2,w1,e.mono g1 w1.kd,q2,fun H2 th2 w2 g2=>⟨th2,ρ,h2,d3,_,w2,e.mono (g1.trans g2) w2.kd,q3,fun H3 th3 w3 g3 =>
  ⟨th3,_,_,_,w3,((r1.mono g2 w2.kd).mono g3 w3.kd).view w3,q4,fun v H4 r4 w4 g4=>kk v H4 th3 r4 w4 (((g1.trans g2).trans g3).trans g4)⟩⟩⟩⟩
inductive RepWs (K:PySem.W.Frag) (H:Hp) (th:Th):List D→List V→Prop
 | nil:RepWs K H th [] []
 | cons {d:D}{v:V}{ds:List D}{vs:List V}:RepW K H th d v→RepWs K H th ds vs→RepWs K H th (d::ds) (v::vs)
theorem RepVs.views {K:PySem.W.Frag}{H:Hp}{th:Th}{h:AH} (w:Wd K th h H):∀ {ds:List D}{vs:List V},RepVs K H th ds vs→RepWs K H th (ds.map (vw h)) vs
 | _,_,.nil=>.nil
 | _,_,.cons a b=>.cons (a.view w) (RepVs.views w b)
def rdC (K:PySem.W.Frag) (f:List D→Option D):List V→Hp→VK→Prop:=fun xs H Q=>∃ th h ds d,Wd K th h H∧RepWs K H th ds xs∧f ds=some d ∧
 ∀ v H',RepV K H' th d v→Wd K th h H'→Gr th th H H'→Q v H'
theorem ints_rep {K:PySem.W.Frag}{H:Hp}{th:Th}:∀ {ds:List D}{vs:List V}{l:List Int},RepVs K H th ds vs→ints? ds=some l→vs=l.map V.int∧ds=l.map D.int
 | _,_,_,.nil,e=>by cases e;exact⟨rfl,rfl⟩
 | d::ds,_,l,.cons r rs,e=>by
  cases d with
  | int i =>
   have e:(ints? ds).map (i::·)=some l:=e
   cases e1:ints? ds with
   | none=>rw[e1] at e;cases e
   | some l' =>
    rw[e1] at e
    cases e
    obtain⟨a,b⟩:=ints_rep rs e1
    cases r
    exact⟨by rw[a];rfl,by rw[b];rfl⟩
  | _=>cases e
theorem strs_rep {K:PySem.W.Frag}{H:Hp}{th:Th}:∀ {ds:List D}{vs:List V}{l:List (List Nat)},RepVs K H th ds vs→strs? ds=some l→vs=l.map fun s=>V.str (SS s)
 | _,_,_,.nil,e=>by cases e;rfl
 | d::ds,_,l,.cons r rs,e=>by
  cases d with
  | str i =>
   have e:(strs? ds).map (i::·)=some l:=e
   cases e1:strs? ds with
   | none=>rw[e1] at e;cases e
   | some l' =>
    rw[e1] at e
    cases e
    have a:=strs_rep rs e1
    cases r
    rw[a];rfl
  | _=>cases e
theorem RepVs.ints {K:PySem.W.Frag}{H:Hp}{th:Th}:∀ l:List Int,RepVs K H th (l.map D.int) (l.map V.int)
 | []=>.nil
 | i::l=>.cons (.int i) (RepVs.ints l)
theorem pairwise_sorted_unique:∀ {a b:List Int},a.Perm b→a.Pairwise (·≤·)→b.Pairwise (·≤·)→a=b:=PySem.W.lks_uniq
theorem mergeSort_is {a l:List Int} (p:a.Perm l) (o:a.Pairwise (·≤·)):a=l.mergeSort fun x y=>decide (x≤y):=by
 refine pairwise_sorted_unique (p.trans (List.mergeSort_perm _ _).symm) o ?_
 have:=List.pairwise_mergeSort (le:=fun (x y:Int)=>decide (x≤y)) (by intro a b c;simp;omega) (by intro a b;simp;omega) l
 exact this.imp (by intro a b h;simpa using h)
theorem call_sortedM:CallR X (.builtin "sorted") (fun xs H Q=>∃ (p:Addr) (l:List Int),xs=[.ref p]∧SqL X.K H p (l.map V.int)∧l.length<64 ∧
  ∀ a,H a=none→Q (.ref a) (upd H a (.lst ((l.mergeSort fun x y=>decide (x≤y)).map V.int)))):=by
 intro pins s σ H xs us Q I r h
 obtain⟨p,l,rfl,hq,hl,q⟩:=h
 obtain⟨u,rfl,rx⟩:=vals1 r
 cases rx
 obtain⟨its,rv,pl,hz⟩:=I.list hq
 have ii:=intsAre_of rv
 have lenV:=rv.length
 rw[List.length_map] at lenV
 refine sorted_ints pl.isList ii (by omega) fun out ns' a1 a2 a3=>?_
 obtain⟨e,he⟩:=sortedAll_at s.heap its out
 have es:=mergeSort_is a2 a3
 have I1:Inv X pins σ (upd H (s.heap.objs.size+1) (.lst (ns'.map V.int))) { s with heap:=sortedAll s.heap its out }:=by
  refine I.laid (t':=s.toks) (fun b o q=>sortedAll_old q) (Nat.le_succ _) ?_
  refine⟨?_,out.toList,e,vals_ints a1,?_⟩
  ·rw[List.length_map,a2.length_eq]
   have:l.length≤sizeLine:=by rw[SZ_eq];show l.length≤16777216;omega
   exact this
  ·rw[he]
 refine⟨.ref (s.heap.objs.size+1),_,I1,rfl,?_⟩
 rw[es]
 exact q _ (I.hok.fresh (Nat.le_succ _))
end
theorem vals_back:∀ {xs:List V}{us:List Value}{i:Nat}{u:Value},Vals xs us→us[i]?=some u→∃ x,xs[i]?=some x∧RelV x u
 | [],_,_,_,r,e=>by cases r;simp at e
 | x::xs,_,0,u,r,e=>by
  cases r with
  | cons a b =>
   simp at e
   subst e
   exact⟨x,rfl,a⟩
 | x::xs,_,i+1,u,r,e=>by
  cases r with
  | cons a b =>
   obtain⟨y,e1,r1⟩:=vals_back b (by simpa using e)
   exact⟨y,by simpa using e1,r1⟩
theorem bools_rep {K:PySem.W.Frag}{H:Hp}{th:Th}:∀ {ds:List D}{vs:List V}{l:List Bool},RepVs K H th ds vs→bools? ds=some l→vs=l.map V.bl
 | _,_,_,.nil,e=>by cases e;rfl
 | d::ds,_,l,.cons r rs,e=>by
  cases d with
  | bl i =>
   have e:(bools? ds).map (i::·)=some l:=e
   cases e1:bools? ds with
   | none=>rw[e1] at e;cases e
   | some l' =>
    rw[e1] at e
    cases e
    have a:=bools_rep rs e1
    cases r
    rw[a];rfl
  | _=>cases e
theorem argBest_is {l:List Int} (lt:Int→Int→Bool):∀ k,k<l.length→argBest (fun i j=>lt (l.getD i 0) (l.getD j 0)) k<l.length ∧
  l.getD (argBest (fun i j=>lt (l.getD i 0) (l.getD j 0)) k) 0=((l.drop 1).take k).foldl (fun a b=>if lt b a=true then b else a) (l.getD 0 0)
 | 0,h=>⟨h,by simp[argBest]⟩
 | k+1,h=>by
  obtain⟨h1,h2⟩:=argBest_is (l:=l) lt k (by omega)
  have hk:(l.drop 1)[k]?=some (l.getD (k+1) 0):=by
   rw[List.getElem?_drop,Nat.add_comm 1 k,List.getElem?_eq_getElem h,List.getD_eq_getElem?_getD,List.getElem?_eq_getElem h]
   rfl
  have e:argBest (fun i j=>lt (l.getD i 0) (l.getD j 0)) (k+1)=if lt (l.getD (k+1) 0) (l.getD (argBest (fun i j=>lt (l.getD i 0) (l.getD j 0)) k) 0) then k+1 else argBest (fun i j=>lt (l.getD i 0) (l.getD j 0)) k:=rfl
  rw[List.take_add_one,hk]
  simp only[Option.toList_some,List.foldl_append,List.foldl_cons,List.foldl_nil]
  rw[← h2,e]
  split
  ·exact⟨h,rfl⟩
  ·exact⟨h1,rfl⟩
theorem argBest_all {l:List Int} (lt:Int→Int→Bool) (h:0<l.length):argBest (fun i j=>lt (l.getD i 0) (l.getD j 0)) (l.length - 1)<l.length ∧
  l.getD (argBest (fun i j=>lt (l.getD i 0) (l.getD j 0)) (l.length - 1)) 0=bestI lt l:=by
 obtain⟨h1,h2⟩:=argBest_is (l:=l) lt (l.length - 1) (by omega)
 refine⟨h1,h2.trans ?_⟩
 cases l with
 | nil=>simp at h
 | cons x xs =>
  show ((x::xs).drop 1 |>.take (xs.length+1 - 1)).foldl _ _=_
  simp[bestI]
section
variable {X:Cx}{G:List Den}
theorem it_kept {h h':Heap}{o:Obj} (hk:∀ b u,b ∉ [h.objs.size]→(h.push o).get? b=some u→h'.get? b=some u):∀ b u,h.get? b=some u→h'.get? b=some u:=fun b u e =>
 hk b u (fun hm=>by
  have e1:b=h.objs.size:=by simpa using hm
  exact absurd (e1▸Heap.lt_size e) (Nat.lt_irrefl _)) (Heap.get?_push_of_some _ e)
theorem call_allL (hc:X.calm=true):CallR X (.builtin "all") (fun xs H Q=>∃ (p:Addr) (l:List Bool),xs=[.ref p]∧SqL X.K H p (l.map V.bl)∧Q (.bl (l.all id)) H):=by
 intro pins s σ H xs us Q I r h
 obtain⟨p,l,rfl,hq,q⟩:=h
 obtain⟨u,rfl,rx⟩:=vals1 r
 cases rx
 obtain⟨its,rv,pl,hz⟩:=I.list hq
 have hlt:p<s.heap.objs.size:=by obtain⟨_,e,_⟩:=pl.isList;exact Heap.lt_size e
 have hlen:its.toArray.size=l.length:=by
  have:=rv.length
  simp at this ⊢
  omega
 refine call_all_walk (wpAny_pyIter_list pl.isList ?_)
 refine⟨_,_,_,_,_,_,fun i=>l.getD i true,rfl,Walks.list (A:=X.A.in1) (I.ok.hd hc) s.heap.objs.size p (Nat.ne_of_lt hlt) its.toArray,⟨⟨_,Heap.get?_push_size _ rfl,rfl,rfl⟩,pl.isList.push _⟩,fun i v s1 Q1 E1 hP q1=>?_,fun h' tk kk=>?_⟩
 ·obtain⟨x,e1,r1⟩:=vals_back rv (by simpa using hP)
  rw[List.getElem?_map] at e1
  cases e2:l[i]? with
  | none=>rw[e2] at e1;cases e1
  | some b =>
   rw[e2] at e1
   cases e1
   cases r1
   refine wpAny_truthy_bool ?_
   have:l.getD i true=b:=by rw[List.getD_eq_getElem?_getD,e2];rfl
   rw[← this]
   exact q1
 ·refine⟨.bl (l.all id),H,I.kept (it_kept kk),?_,q⟩
  show Value.bool _=Value.bool _
  congr 1
  rw[hlen]
  clear kk hlen hz rv q pl hq
  induction l with
  | nil=>rfl
  | cons b l ih =>
   rw[List.length_cons,List.range_succ_eq_map,List.all_cons,List.all_cons,List.all_map]
   have:((fun i=>(b::l).getD i true) ∘ Nat.succ)=fun i=>l.getD i true:=by funext i;rfl
   rw[this,ih]
   rfl
theorem call_minT (hc:X.calm=true):CallR X (.builtin "min") (fun xs H Q=>∃ (p:Addr) (l:List Int),xs=[.ref p]∧SqT X.K H p (l.map V.int)∧0<l.length∧Q (.int (bestI (fun a b=>decide (a<b)) l)) H):=by
 intro pins s σ H xs us Q I r h
 obtain⟨p,l,rfl,hq,hne,q⟩:=h
 obtain⟨u,rfl,rx⟩:=vals1 r
 cases rx
 obtain⟨its,rv,pl,hz⟩:=I.tuple hq
 have pt:s.heap.IsTuple p its.toArray:=pl
 have hlt:p<s.heap.objs.size:=by obtain⟨_,e,_⟩:=pt;exact Heap.lt_size e
 have hlen:its.toArray.size=l.length:=by
  have:=rv.length
  simp at this ⊢
  omega
 have hval:∀ i v,its.toArray[i]?=some v→∃ t,v=Value.int (l.getD i 0) t:=fun i v hP=>by
  obtain⟨x,e1,r1⟩:=vals_back rv (by simpa using hP)
  rw[List.getElem?_map] at e1
  cases e2:l[i]? with
  | none=>rw[e2] at e1;cases e1
  | some b =>
   rw[e2] at e1
   cases e1
   have:l.getD i 0=b:=by rw[List.getD_eq_getElem?_getD,e2];rfl
   rw[this]
   exact r1
 refine call_min_walk (wpAny_pyIter_tuple pt ?_)
 refine⟨_,_,_,_,_,_,_,rfl,Walks.tuple (A:=X.A.in1) (I.ok.hd hc) s.heap.objs.size p (Nat.ne_of_lt hlt) its.toArray,⟨⟨_,Heap.get?_push_size _ rfl,rfl,rfl⟩,pt.push _⟩,fun b hb=>?_,by rw[hlen];exact hne,CmpOf.ints_lt (fun i=>l.getD i 0) hval,fun v h' tk hP kk=>?_⟩
 ·show b<(s.heap.push _).objs.size
  rw[Heap.size_push]
  rcases List.mem_cons.mp hb with rfl | hb
  ·exact Nat.lt_succ_self _
  ·have:b=p:=by simpa using hb
   rw[this]
   exact Nat.lt_succ_of_lt hlt
 ·obtain⟨t,rfl⟩:=hval _ _ hP
  rw[hlen]
  obtain⟨a1,a2⟩:=argBest_all (fun a b=>decide (a<b)) hne
  exact⟨.int (bestI (fun a b=>decide (a<b)) l),H,I.kept (it_kept kk),⟨t,by rw[← a2]⟩,q⟩
theorem call_maxT (hc:X.calm=true):CallR X (.builtin "max") (fun xs H Q=>∃ (p:Addr) (l:List Int),xs=[.ref p]∧SqT X.K H p (l.map V.int)∧0<l.length∧Q (.int (bestI (fun a b=>decide (a > b)) l)) H):=by
 intro pins s σ H xs us Q I r h
 obtain⟨p,l,rfl,hq,hne,q⟩:=h
 obtain⟨u,rfl,rx⟩:=vals1 r
 cases rx
 obtain⟨its,rv,pl,hz⟩:=I.tuple hq
 have pt:s.heap.IsTuple p its.toArray:=pl
 have hlt:p<s.heap.objs.size:=by obtain⟨_,e,_⟩:=pt;exact Heap.lt_size e
 have hlen:its.toArray.size=l.length:=by
  have:=rv.length
  simp at this ⊢
  omega
 have hval:∀ i v,its.toArray[i]?=some v→∃ t,v=Value.int (l.getD i 0) t:=fun i v hP=>by
  obtain⟨x,e1,r1⟩:=vals_back rv (by simpa using hP)
  rw[List.getElem?_map] at e1
  cases e2:l[i]? with
  | none=>rw[e2] at e1;cases e1
  | some b =>
   rw[e2] at e1
   cases e1
   have:l.getD i 0=b:=by rw[List.getD_eq_getElem?_getD,e2];rfl
   rw[this]
   exact r1
 refine call_max_walk (wpAny_pyIter_tuple pt ?_)
 refine⟨_,_,_,_,_,_,_,rfl,Walks.tuple (A:=X.A.in1) (I.ok.hd hc) s.heap.objs.size p (Nat.ne_of_lt hlt) its.toArray,⟨⟨_,Heap.get?_push_size _ rfl,rfl,rfl⟩,pt.push _⟩,fun b hb=>?_,by rw[hlen];exact hne,CmpOf.ints_gt (fun i=>l.getD i 0) hval,fun v h' tk hP kk=>?_⟩
 ·show b<(s.heap.push _).objs.size
  rw[Heap.size_push]
  rcases List.mem_cons.mp hb with rfl | hb
  ·exact Nat.lt_succ_self _
  ·have:b=p:=by simpa using hb
   rw[this]
   exact Nat.lt_succ_of_lt hlt
 ·obtain⟨t,rfl⟩:=hval _ _ hP
  rw[hlen]
  obtain⟨a1,a2⟩:=argBest_all (fun a b=>decide (a > b)) hne
  exact⟨.int (bestI (fun a b=>decide (a > b)) l),H,I.kept (it_kept kk),⟨t,by rw[← a2]⟩,q⟩
noncomputable def Its (x:Str):It:=⟨fun i H=>i<x.cps.size,fun i H y H'=>H'=H∧∃ c,x.cps[i]?=some c∧y=.str ⟨#[c]⟩,fun i H=>x.cps.size≤i⟩
theorem turn_str {P:Program}{w:World}{K:PySem.W.Frag}{tg:Expr} (x:Str) (t:Tok) (it:Addr) (ty:String) (hty:ty="str_ascii_iterator"∨ty="str_iterator"):Turn P w K tg (Its x) [it] it (fun i h=>h.IsStrIter it ty x t i) where
 mem:=by simp
 obj:=fun i h st b hb=>by
  have e:b=it:=by simpa using hb
  subst e
  obtain⟨o,e,c,d⟩:=st
  exact⟨o,e,fun v z=>by rw[d] at z;cases z⟩
 keep:=fun i h h' st k=>let ⟨o,ho,r⟩:=st;⟨o,k it (by simp) o ho,r⟩
 item:=by
  intro X hP hw hK hc i pins s σ H E I hf st hg
  subst hP hw hK
  have hg:i<x.cps.size:=hg
  obtain⟨f0,f1,f2,f3,f4,f5⟩:=hf it (by simp)
  have go:∀ h',h'.IsStrIter it ty x t (i+1)→Heap.SameBut it s.heap h'→∃ u,some (Value.str ⟨#[x.cps[i]]⟩ s.toks)=some u ∧
    wpAny (model X.prog X.w) X.A (letOwnedTupleGo tg (.ref it) u) (fun _ s2=>∃ x' H',Inv X pins σ H' s2∧RelV x' u∧(Its x).yld i H x' H'∧s2.heap.IsStrIter it ty x t (i+1)∧∀ b∈[it],H' b=none) E { s with heap:=h',toks:=s.toks+1 }:=fun h' st' sb=>by
   have I1:Inv X pins σ H { s with heap:=h',toks:=s.toks+1 }:=I.turned (fun b o hb e=>(sb.2 b hb).trans e) f0 f1 f3 f4 f5
   obtain⟨o,e,c,d⟩:=id st'
   exact⟨_,rfl,go_of (s:={ s with heap:=h',toks:=s.toks+1 }) e c d (by rcases hty with rfl | rfl<;>decide) ⟨.str ⟨#[x.cps[i]]⟩,H,I1,⟨_,rfl⟩,⟨rfl,_,by simp[hg],rfl⟩,st',fun b hb=>(hf b hb).1⟩⟩
  rcases hty with rfl | rfl
  ·exact wpAny_pyNext_ascii_item st (c:=x.cps[i]) (by simp[hg]) fun h' st' sb=>go h' st' sb
  ·exact wpAny_pyNext_wide_item st (c:=x.cps[i]) (by simp[hg]) fun h' st' sb=>go h' st' sb
 done:=by
  intro X hP hw hK hc i pins s σ H E I hf st hg
  subst hP hw hK
  have hg:x.cps.size≤i:=hg
  obtain⟨f0,f1,f2,f3,f4,f5⟩:=hf it (by simp)
  rcases hty with rfl | rfl
  ·exact wpAny_pyNext_ascii_end (I.ok.hd hc) st (by simp;omega) fun h' eb=>⟨rfl,I.turned (t':=s.toks) (fun b o hb e=>eb b o hb e) f0 f1 f3 f4 f5⟩
  ·exact wpAny_pyNext_wide_end (I.ok.hd hc) st (by simp;omega) fun h' eb=>⟨rfl,I.turned (t':=s.toks) (fun b o hb e=>eb b o hb e) f0 f1 f3 f4 f5⟩
 self:=fun _ _ _ _ _ st h=>by
  rcases hty with rfl | rfl
  ·exact wpAny_pyIter_striter_ascii st h
  ·exact wpAny_pyIter_striter_wide st h
theorem str_it {tg:Expr}{pins:List (Addr×Obj)}{σ:St}{H1:Hp}{s1:Shared}{R:It→Hp→Prop}{x:V}{v:Value}{E:Value→Shared→Prop} (I1:Inv X pins σ H1 s1) (r1:RelV x v) (q1:∃ a,x=.str a∧R (Its a) H1) :
  wpAny (model X.prog X.w) X.A (pyIter v) (PIE X pins σ tg R) E s1:=by
 obtain⟨a,e,q⟩:=q1
 subst e
 obtain⟨t,rfl⟩:=r1
 have fin:∀ ty,ty="str_ascii_iterator"∨ty="str_iterator"→PIE X pins σ tg R (.ref s1.heap.objs.size) { s1 with heap:=s1.heap.push { cls:=.type ty,data:=.fields #[.str a t,.int 0 0] } }:=fun ty hty=>by
  refine⟨s1.heap.objs.size,[s1.heap.objs.size],_,_,H1,rfl,I1.kept (t':=s1.toks) fun b o e=>Heap.get?_push_of_some _ e,turn_str a t _ ty hty,⟨_,Heap.get?_push_size _ rfl,rfl,rfl⟩,fun b hb=>?_,q⟩
  have e:b=s1.heap.objs.size:=by simpa using hb
  subst e
  exact I1.fpOk (Nat.le_refl _) (I1.hok.fresh (Nat.le_refl _))
 cases ha:a.cps.all (·<128)
 ·exact wpAny_pyIter_wide ha (fin _ (.inr rfl))
 ·exact wpAny_pyIter_ascii ha (fin _ (.inl rfl))
end
section
variable {K:PySem.W.Frag}{H:Hp}{th:Th}
theorem lk_rep:∀ {fs:List (Str×D)}{us:List (Str×V)}{f:Str}{d:D},fs.map (·.1)=us.map (·.1)→RepVs K H th (fs.map (·.2)) (us.map (·.2))→fs.lookup f=some d→∃ v,us.lookup f=some v∧RepV K H th d v
 | [],us,f,d,e,r,l=>by cases l
 | (g,x)::fs,[],f,d,e,r,l=>by cases e
 | (g,x)::fs,(g',u)::us,f,d,e,r,l=>by
  have e1:g=g':=(List.cons.inj e).1
  have e2:fs.map (·.1)=us.map (·.1):=(List.cons.inj e).2
  subst e1
  cases r with
  | cons r1 r2 =>
   rw[List.lookup_cons] at l ⊢
   by_cases h:(f==g)=true
   ·rw[h] at l ⊢
    cases l
    exact⟨u,rfl,r1⟩
   ·have h:(f==g)=false:=by simpa using h
    rw[h] at l ⊢
    exact lk_rep e2 r2 l
theorem lk_none:∀ {fs:List (Str×D)}{us:List (Str×V)}{f:Str},fs.map (·.1)=us.map (·.1)→fs.lookup f=none→us.lookup f=none
 | [],us,f,e,l=>by
  cases us with
  | nil=>rfl
  | cons _ _=>cases e
 | (g,x)::fs,[],f,e,l=>by cases e
 | (g,x)::fs,(g',u)::us,f,e,l=>by
  have e1:g=g':=(List.cons.inj e).1
  have e2:fs.map (·.1)=us.map (·.1):=(List.cons.inj e).2
  subst e1
  rw[List.lookup_cons] at l ⊢
  by_cases h:(f==g)=true
  ·rw[h] at l;cases l
  ·have h:(f==g)=false:=by simpa using h
   rw[h] at l ⊢
   exact lk_none e2 l
theorem putF_rep {f:Str}{d:D}{v:V} (rv:RepV K H th d v):∀ {fs:List (Str×D)}{us:List (Str×V)},fs.map (·.1)=us.map (·.1)→RepVs K H th (fs.map (·.2)) (us.map (·.2))→(putN f d fs).map (·.1)=(putF f v us).map (·.1)∧RepVs K H th ((putN f d fs).map (·.2)) ((putF f v us).map (·.2))
 | [],[],e,r=>⟨rfl,.cons rv .nil⟩
 | [],_::_,e,r=>by cases e
 | _::_,[],e,r=>by cases e
 | (g,x)::fs,(g',u)::us,e,r=>by
  have e1:g=g':=(List.cons.inj e).1
  have e2:fs.map (·.1)=us.map (·.1):=(List.cons.inj e).2
  subst e1
  cases r with
  | cons r1 r2 =>
   unfold putN putF
   by_cases h:g=f
   ·rw[if_pos h,if_pos h]
    exact⟨by simp[e2],.cons rv r2⟩
   ·rw[if_neg h,if_neg h]
    obtain⟨i1,i2⟩:=putF_rep rv e2 r2
    exact⟨by simp[i1],.cons r1 i2⟩
theorem key_eq:∀ {a b:D}{k j:Key},keyD a=some k→keyD b=some j→eqK a b=decide (k=j):=by
 intro a b k j ha hb
 cases a<;>first | cases ha | skip
 all_goals (cases b<;>first | cases hb | skip)
 ·show (_==_)=_
  rw[key_ll]
 ·simp[eqK]
 ·simp[eqK]
 ·rename_i x y
  show (x==y)=_
  rw[key_rr]
  by_cases e:x=y
  ·subst e;simp
  ·have:¬ SS x=SS y:=fun z=>e (by have:=congrArg (fun s:Str=>s.cps.toList) z;simpa [SS] using this)
   simp[e,this]
theorem isK_key {d:D} (h:isK d=true):∃ k,keyD d=some k:=by
 cases d<;>first | exact⟨_,rfl⟩ | cases h
theorem key_rep {d:D}{v:V}{k:Key} (h:keyD d=some k) (r:RepV K H th d v):v=kV k:=by
 cases r<;>cases h<;>rfl
theorem val_rep {kd:D}{k:Key} (hk:keyD kd=some k):∀ {kvs:List (D×D)}{us:List (Key×V)},kvs.map (fun p=>keyD p.1)=us.map (fun p=>some p.1)→RepVs K H th (kvs.map (·.2)) (us.map (·.2)) →
  (lkD kvs kd=none∧valV us k=none)∨∃ d v,lkD kvs kd=some d∧valV us k=some v∧RepV K H th d v
 | [],[],e,r=>.inl ⟨rfl,rfl⟩
 | [],_::_,e,r=>by cases e
 | _::_,[],e,r=>by cases e
 | (g,x)::kvs,(j,u)::us,e,r=>by
  have e1:keyD g=some j:=(List.cons.inj e).1
  have e2:=(List.cons.inj e).2
  have ee:=key_eq e1 hk
  cases r with
  | cons r1 r2 =>
   by_cases h:j=k
   ·refine .inr ⟨x,u,?_,valV_pos (p:=(j,u)) h,r1⟩
    unfold lkD
    rw[List.find?_cons]
    simp only[ee,h,decide_true]
    rfl
   ·have hl:lkD ((g,x)::kvs) kd=lkD kvs kd:=by
     unfold lkD
     rw[List.find?_cons]
     simp only[ee,h,decide_false]
    rw[hl,valV_neg (p:=(j,u)) h]
    exact val_rep hk e2 r2
theorem any_rep {kd:D}{k:Key} (hk:keyD kd=some k):∀ {kvs:List (D×D)}{us:List (Key×V)},kvs.map (fun p=>keyD p.1)=us.map (fun p=>some p.1)→(kvs.any fun p=>eqK p.1 kd)=us.any fun kv=>decide (kv.1=k)
 | [],[],e=>rfl
 | [],_::_,e=>by cases e
 | _::_,[],e=>by cases e
 | (g,x)::kvs,(j,u)::us,e=>by
  have e1:keyD g=some j:=(List.cons.inj e).1
  rw[List.any_cons,List.any_cons,any_rep hk (List.cons.inj e).2,key_eq e1 hk]
theorem map_rep {kd d:D}{k:Key}{v:V} (hk:keyD kd=some k) (rv:RepV K H th d v):∀ {kvs:List (D×D)}{us:List (Key×V)},kvs.map (fun p=>keyD p.1)=us.map (fun p=>some p.1)→RepVs K H th (kvs.map (·.2)) (us.map (·.2)) →
  (kvs.map fun p=>if eqK p.1 kd=true then (p.1,d) else p).map (fun p=>keyD p.1)=(us.map fun kv=>if kv.1=k then (kv.1,v) else kv).map (fun p=>some p.1) ∧
   RepVs K H th ((kvs.map fun p=>if eqK p.1 kd=true then (p.1,d) else p).map (·.2)) ((us.map fun kv=>if kv.1=k then (kv.1,v) else kv).map (·.2))
 | [],[],e,r=>⟨rfl,.nil⟩
 | [],_::_,e,r=>by cases e
 | _::_,[],e,r=>by cases e
 | (g,x)::kvs,(j,u)::us,e,r=>by
  have e1:keyD g=some j:=(List.cons.inj e).1
  have ee:=key_eq e1 hk
  cases r with
  | cons r1 r2 =>
   obtain⟨i1,i2⟩:=map_rep hk rv (List.cons.inj e).2 r2
   by_cases h:j=k
   ·have h1:eqK g kd=true:=by rw[ee];simpa using h
    simp only[List.map_cons,h1,h,if_true]
    refine⟨?_,.cons rv i2⟩
    rw[i1,e1,h]
   ·have h1:eqK g kd=false:=by rw[ee];simpa using h
    simp only[List.map_cons,h1,h,if_false,Bool.false_eq_true]
    refine⟨?_,.cons r1 i2⟩
    rw[i1,e1]
theorem snoc_rep {kd d:D}{k:Key}{v:V} (hk:keyD kd=some k) (rv:RepV K H th d v) {kvs:List (D×D)}{us:List (Key×V)} (e:kvs.map (fun p=>keyD p.1)=us.map (fun p=>some p.1)) (r:RepVs K H th (kvs.map (·.2)) (us.map (·.2))) :
  (kvs++[(kd,d)]).map (fun p=>keyD p.1)=(us++[(k,v)]).map (fun p=>some p.1)∧RepVs K H th ((kvs++[(kd,d)]).map (·.2)) ((us++[(k,v)]).map (·.2)):=by
 refine⟨by simp[e,hk],?_⟩
 rw[List.map_append,List.map_append]
 exact r.append (.cons rv .nil)
theorem put_rep {kd d:D}{k:Key}{v:V} (hk:keyD kd=some k) (rv:RepV K H th d v) {kvs:List (D×D)}{us:List (Key×V)} (e:kvs.map (fun p=>keyD p.1)=us.map (fun p=>some p.1)) (r:RepVs K H th (kvs.map (·.2)) (us.map (·.2))) :
  (putD kvs kd d).map (fun p=>keyD p.1)=(putK us k v).map (fun p=>some p.1)∧RepVs K H th ((putD kvs kd d).map (·.2)) ((putK us k v).map (·.2)):=by
 unfold putD putK
 rw[any_rep hk e]
 by_cases h:(us.any fun kv=>decide (kv.1=k))=true
 ·rw[if_pos h,if_pos h]
  exact map_rep hk rv e r
 ·rw[if_neg h,if_neg h]
  exact snoc_rep hk rv e r
theorem drop_rep {kd:D}{k:Key} (hk:keyD kd=some k):∀ {kvs:List (D×D)}{us:List (Key×V)},kvs.map (fun p=>keyD p.1)=us.map (fun p=>some p.1)→RepVs K H th (kvs.map (·.2)) (us.map (·.2)) →
  (dropD kvs kd).map (fun p=>keyD p.1)=(dropK us k).map (fun p=>some p.1)∧RepVs K H th ((dropD kvs kd).map (·.2)) ((dropK us k).map (·.2))
 | [],[],e,r=>⟨rfl,.nil⟩
 | [],_::_,e,r=>by cases e
 | _::_,[],e,r=>by cases e
 | (g,x)::kvs,(j,u)::us,e,r=>by
  have e1:keyD g=some j:=(List.cons.inj e).1
  have ee:=key_eq e1 hk
  cases r with
  | cons r1 r2 =>
   obtain⟨i1,i2⟩:=drop_rep hk (List.cons.inj e).2 r2
   unfold dropD dropK at i1 i2 ⊢
   by_cases h:j=k
   ·have h1:eqK g kd=true:=by rw[ee];simpa using h
    simp only[List.filter_cons,h1,h,Bool.not_true,ne_eq,not_true_eq_false,decide_false,Bool.false_eq_true,if_false]
    exact⟨i1,i2⟩
   ·have h1:eqK g kd=false:=by rw[ee];simpa using h
    simp only[List.filter_cons,h1,h,Bool.not_false,ne_eq,not_false_eq_true,decide_true,if_true,List.map_cons]
    refine⟨?_,.cons r1 i2⟩
    rw[i1,e1]
end
inductive IterOf (K:PySem.W.Frag) (H:Hp) (th:Th):It→List D→Prop
 | lst {a:Addr}{vs:List V}{ds:List D}:SqL K H a vs→a ∉ th→RepVs K H th ds vs→IterOf K H th (Itl K a) ds
 | tup {a:Addr}{vs:List V}{ds:List D}:SqT K H a vs→RepVs K H th ds vs→IterOf K H th (Itt K a) ds
 | str (s:List Nat):IterOf K H th (Its (SS s)) (s.map fun c=>D.str [c])
 | rng (n:Nat):IterOf K H th (Itr 0 n) ((List.range n).map fun (i:Nat)=>D.int (i:Int))
section
variable {X:Cx}{C:CC}{G:List Den}{k:Nat}{tg:Expr}{EX:Nat→Hp→Prop}
noncomputable def rdI (K:PySem.W.Frag) (G:List Den) (it:PI):TI:=fun σ H R=>∃ th ρ h ds h',Wd K th h H∧EnvR K H th ρ σ∧evI G it ρ h=some (ds,h') ∧
 ∀ J H' th',IterOf K H' th' J ds→Wd K th' h' H'→Gr th th' H H'→R J H'
theorem _root_.L2.PI.imp {e:Expr}{t t':TI} (p:L2.PI X tg e t) (h:∀ σ H Q,t' σ H Q→t σ H Q):L2.PI X tg e t':=fun pins s σ H Q I q=>p pins s σ H Q I (h σ H Q q)
theorem pi_seq {l:Expr}{tl:TE} (hl:PE X l tl):L2.PI X tg l (fun σ H R=>tl σ H fun x H1=>(∃ z,x=.str z∧R (Its z) H1)∨∃ a,x=.ref a∧(((∃ xs,SqL X.K H1 a xs)∧R (Itl X.K a) H1)∨((∃ xs,SqT X.K H1 a xs)∧R (Itt X.K a) H1))):=by
 intro pins s σ H R I h
 refine thn (hl pins s σ H _ I h) fun v s1 ⟨x,H1,I1,r1,q1⟩=>?_
 rcases q1 with q1 | q1
 ·exact str_it I1 r1 q1
 obtain⟨a,e,q1⟩:=q1
 subst e
 cases r1
 rcases q1 with ⟨⟨xs,hq⟩,q⟩ | ⟨⟨xs,hq⟩,q⟩
 ·obtain⟨its,rv,p,hz⟩:=I1.list hq
  refine wpAny_pyIter_list p.isList ?_
  refine⟨s1.heap.objs.size,[s1.heap.objs.size],_,_,H1,rfl,I1.kept (t':=s1.toks) fun b o e=>Heap.get?_push_of_some _ e,turn_list a _,⟨_,Heap.get?_push_size _ rfl,rfl,rfl⟩,fun b hb=>?_,q⟩
  have e:b=s1.heap.objs.size:=by simpa using hb
  subst e
  exact I1.fpOk (Nat.le_refl _) (I1.hok.fresh (Nat.le_refl _))
 ·obtain⟨its,rv,p,hz⟩:=I1.tuple hq
  refine wpAny_pyIter_tuple (show s1.heap.IsTuple a its.toArray from p) ?_
  refine⟨s1.heap.objs.size,[s1.heap.objs.size],_,_,H1,rfl,I1.kept (t':=s1.toks) fun b o e=>Heap.get?_push_of_some _ e,turn_tuple a _,⟨_,Heap.get?_push_size _ rfl,rfl,rfl⟩,fun b hb=>?_,q⟩
  have e:b=s1.heap.objs.size:=by simpa using hb
  subst e
  exact I1.fpOk (Nat.le_refl _) (I1.hok.fresh (Nat.le_refl _))
theorem i_seq {e:Expr}{p:PX} (hl:PE X e (rdE X.K G p)):L2.PI X tg e (rdI X.K G (.seq p)):=by
 refine (pi_seq hl).imp fun σ H R ⟨th,ρ,h,ds,h',w,en,e1,kk⟩=>?_
 unfold evI at e1
 obtain⟨⟨d1,h1⟩,q1,e1⟩:=obs e1
 obtain⟨l,q2,e1⟩:=obs e1
 cases e1
 refine⟨th,ρ,h,d1,_,w,en,q1,fun v H' th' r w' g=>?_⟩
 cases r with
 | lst q n r =>
  cases q2
  exact .inr ⟨_,rfl,.inl ⟨⟨_,q⟩,kk _ H' th' (.lst q n r) w' g⟩⟩
 | tup q r =>
  cases q2
  exact .inr ⟨_,rfl,.inr ⟨⟨_,q⟩,kk _ H' th' (.tup q r) w' g⟩⟩
 | str z =>
  cases q2
  exact .inl ⟨_,rfl,kk _ H' th' (.str z) w' g⟩
 | _=>cases q2
theorem i_rng {a:Expr}{p:PX}{ps pos:Pos} (hg:Gl X "range") (hm:X.mg "range"=none) (ha:PE X a (rdE X.K G p)) (hs:starEach [a] X.env=[(false,eval a X.env)]) :
  L2.PI X tg (.Call (.Name "range" ps) [a] [] pos) (rdI X.K G (.rng p)):=by
 refine (pi_range1 hg hm (a_cons ha a_nil hs) hs).imp fun σ H R ⟨th,ρ,h,ds,h',w,en,e1,kk⟩=>?_
 unfold evI at e1
 obtain⟨⟨d1,h1⟩,q1,e1⟩:=obs e1
 obtain⟨l,q2,e1⟩:=obs e1
 cases e1
 refine⟨th,ρ,h,[d1],_,w,en,by unfold evs;rw[q1];rfl,fun vs H' th' r w' g=>?_⟩
 cases r with
 | cons r rs =>
  cases rs
  cases d1 with
  | int n =>
   have q2:(if -(2 ^ 62)≤n∧n<2 ^ 62 then some ((List.range n.toNat).map fun i=>D.int (i:Nat)) else none)=some ds:=q2
   split at q2
   ·rename_i hb
    cases q2
    cases r
    exact⟨_,rfl,hb.1,hb.2,kk _ H' th' (.rng _) w' g⟩
   ·cases q2
  | _=>cases q2
theorem for_it {K:PySem.W.Frag}{J:It}{ds:List D}{th1:Th}{H1:Hp}{g:TG}{tb:TS}{D0:Ends}{σ0:St} (it:IterOf K H1 th1 J ds) (Pv:Nat→St→Hp→Prop) (h0:Pv 0 σ0 H1)
  (hl:∀ i σ H,Pv i σ H→∃ th,Gr th1 th H1 H)
  (hs:∀ i d x σ H,ds[i]?=some d→Pv i σ H→(∀ th,Gr th1 th H1 H→(∀ a∈th,K.lookup a=none)→RepV K H th d x)→g x σ H fun σ2 H2=>tb { D0 with nx:=Pv (i+1),ct:=Pv (i+1),bk:=D0.nx } σ2 H2)
  (hd:∀ σ H,Pv ds.length σ H→D0.nx σ H) :
  ∃ W:Nat→Nat→St→Hp→Prop,(∃ m,W 0 m σ0 H1)∧∀ i m σ H,W i m σ H →
   (J.stop i H∧D0.nx σ H)∨(J.go i H∧∃ N:St→Hp→Prop,(∀ σ' H',N σ' H'→∃ m',m'<m∧W (i+1) m' σ' H')∧∀ x H',J.yld i H x H'→g x σ H' fun σ2 H2=>tb { D0 with nx:=N,ct:=N,bk:=D0.nx } σ2 H2):=by
 cases it with
 | @lst a vs ds q n r =>
  have len:=r.length
  refine for_list (K:=K) (a:=a) (xs:=vs) Pv h0 (fun i σ H _ p=>?_) (fun i x σ H e p=>?_) (fun σ H p=>hd σ H (by rw[len];exact p))
  ·obtain⟨th,gr⟩:=hl i σ H p
   exact SqL.mono gr n q
  ·have hi:i<ds.length:=by rw[len];exact (List.getElem?_eq_some_iff.mp e).1
   obtain⟨v,e2,r2⟩:=r.get (List.getElem?_eq_getElem hi)
   rw[e] at e2
   cases e2
   exact hs i _ x σ H (List.getElem?_eq_getElem hi) p fun th gr kd=>r2.mono gr kd
 | @tup a vs ds q r =>
  have len:=r.length
  refine for_tup (K:=K) (a:=a) (xs:=vs) Pv h0 (fun i σ H _ p=>?_) (fun i x σ H e p=>?_) (fun σ H p=>hd σ H (by rw[len];exact p))
  ·obtain⟨th,gr⟩:=hl i σ H p
   exact SqT.mono gr q
  ·have hi:i<ds.length:=by rw[len];exact (List.getElem?_eq_some_iff.mp e).1
   obtain⟨v,e2,r2⟩:=r.get (List.getElem?_eq_getElem hi)
   rw[e] at e2
   cases e2
   exact hs i _ x σ H (List.getElem?_eq_getElem hi) p fun th gr kd=>r2.mono gr kd
 | str z =>
  have hz:(SS z).cps.size=z.length:=by simp
  refine⟨fun i m σ H=>m=z.length - i∧i≤z.length∧Pv i σ H,⟨z.length,by simp,Nat.zero_le _,h0⟩,?_⟩
  rintro i m σ H ⟨rfl,hi,p⟩
  by_cases hlt:i<z.length
  ·refine .inr ⟨by show i<(SS z).cps.size;rw[hz];exact hlt,Pv (i+1),fun σ' H' p'=>⟨z.length - (i+1),by omega,rfl,hlt,p'⟩,fun x H' y=>?_⟩
   obtain⟨e,c,ec,y⟩:=y
   subst e y
   have ez:z[i]?=some c:=by simpa using ec
   exact hs i (.str [c]) _ σ _ (by simp[ez]) p fun th gr kd=>.str [c]
  ·have e:i=z.length:=by omega
   subst e
   exact .inl ⟨by show (SS z).cps.size≤z.length;rw[hz];exact Nat.le_refl _,hd σ H (by simpa using p)⟩
 | rng n =>
  refine for_range (lo:=0) (n:=n) Pv h0 (fun i σ H hi p=>?_) (fun σ H p=>hd σ H (by simpa using p))
  have e:((List.range n).map fun (i:Nat)=>D.int (i:Int))[i]?=some (.int (i:Int)):=by simp[hi]
  have z:(0:Int)+(i:Int)=(i:Int):=by omega
  rw[z]
  exact hs i _ _ σ H e p fun th gr kd=>.int _
noncomputable def rdG (K:PySem.W.Frag) (t:PTg):TG:=fun v σ H Q=>∃ th ρ h d ρ',Wd K th h H∧EnvR K H th ρ σ∧RepV K H th d v∧setT t d ρ=some ρ'∧∀ σ',EnvR K H th ρ' σ'→Q σ' H
theorem _root_.L2.PG.imp {e:Expr}{t t':TG} (p:PG X e t) (h:∀ v σ H Q,t' v σ H Q→t v σ H Q):PG X e t':=fun pins s σ H v u Q I r q=>p pins s σ H v u Q I r (h v σ H Q q)
theorem g_name {x:Str}{i:Nat}{pos:Pos} (S:CtxS X C G k EX) (hl:isLoc (lk C.nm x)=true) (h:C.var x=some i):PG X (.Name x pos) (rdG X.K (.nm i)):=by
 have O:=S.ok
 obtain⟨h1,h2,h3⟩:=var_ok O h
 refine (pg_name (by rw[O.N];exact O.nd) h1 (isLoc_loc O hl) (S.fn x hl)).imp fun v σ H Q ⟨th,ρ,ah,d,ρ',w,e,r,e1,kk⟩=>?_
 cases e1
 exact kk _ (e.set i r)
end
noncomputable def RK (K:PySem.W.Frag) (EX:Nat→Hp→Prop) (D0:Ends) (th:Th) (H:Hp):R→Prop
 | .nx ρ' h'=>∀ σ' H' th',EnvR K H' th' ρ' σ'→Wd K th' h' H'→Gr th th' H H'→D0.nx σ' H'
 | .rt d h'=>∀ v H' th',RepV K H' th' d v→Wd K th' h' H'→Gr th th' H H'→D0.rt v H'
 | .bk ρ' h'=>∀ σ' H' th',EnvR K H' th' ρ' σ'→Wd K th' h' H'→Gr th th' H H'→D0.bk σ' H'
 | .ct ρ' h'=>∀ σ' H' th',EnvR K H' th' ρ' σ'→Wd K th' h' H'→Gr th th' H H'→D0.ct σ' H'
 | .exc c _ h'=>∀ H' th',Wd K th' h' H'→Gr th th' H H'→EX c H'
 | .bad=>False
theorem RK.mono {K:PySem.W.Frag}{EX:Nat→Hp→Prop}{D0:Ends}{th th1:Th}{H H1:Hp} (g:Gr th th1 H H1):∀ {r:R},RK K EX D0 th H r→RK K EX D0 th1 H1 r
 | .nx _ _,q=>fun σ' H' th' e w g'=>q σ' H' th' e w (g.trans g')
 | .rt _ _,q=>fun σ' H' th' e w g'=>q σ' H' th' e w (g.trans g')
 | .bk _ _,q=>fun σ' H' th' e w g'=>q σ' H' th' e w (g.trans g')
 | .ct _ _,q=>fun σ' H' th' e w g'=>q σ' H' th' e w (g.trans g')
 | .exc _ _ _,q=>fun H' th' w g'=>q H' th' w (g.trans g')
 | .bad,q=>q
noncomputable def rdS (K:PySem.W.Frag) (G:List Den) (EX:Nat→Hp→Prop) (p:PSt):TS:=fun D0 σ H=>∃ th ρ h,Wd K th h H∧EnvR K H th ρ σ∧RK K EX D0 th H (exS G p ρ h)
noncomputable def rdSs (K:PySem.W.Frag) (G:List Den) (EX:Nat→Hp→Prop) (p:List PSt):TS:=fun D0 σ H=>∃ th ρ h,Wd K th h H∧EnvR K H th ρ σ∧RK K EX D0 th H (exSs G p ρ h)
noncomputable def rdR (K:PySem.W.Frag) (G:List Den) (EX:Nat→Hp→Prop) (p:PX):TE:=fun σ H Q=>∃ th ρ h,Wd K th h H∧EnvR K H th ρ σ∧match evR G p ρ h with
 | .ok d h'=>∀ v H' th',RepV K H' th' d v→Wd K th' h' H'→Gr th th' H H'→Q v H'
 | .exc c h'=>∀ H' th',Wd K th' h' H'→Gr th th' H H'→EX c H'
 | .bad=>False
section
variable {X:Cx}{C:CC}{G:List Den}{k:Nat}{EX:Nat→Hp→Prop}
theorem ss_nil:PSs X [] (rdSs X.K G EX []):=by
 refine pss_nil.imp fun D0 σ H ⟨th,ρ,h,w,e,q⟩=>?_
 unfold exSs at q
 exact q σ H th e w (Gr.refl _ _)
theorem ss_cons {s:Stmt}{r:List Stmt}{p:PSt}{q:List PSt} (h1:PS X s (rdS X.K G EX p)) (h2:PSs X r (rdSs X.K G EX q)):PSs X (s::r) (rdSs X.K G EX (p::q)):=by
 refine (pss_cons h1 h2).imp fun D0 σ H ⟨th,ρ,h,w,e,qq⟩=>⟨th,ρ,h,w,e,?_⟩
 unfold exSs at qq
 cases e1:exS G p ρ h with
 | nx ρ' h' =>
  rw[e1] at qq
  intro σ' H' th' e' w' g'
  exact⟨th',ρ',h',w',e',RK.mono g' qq⟩
 | rt d h'=>rw[e1] at qq;exact qq
 | bk ρ' h'=>rw[e1] at qq;exact qq
 | ct ρ' h'=>rw[e1] at qq;exact qq
 | exc _ _ _=>rw[e1] at qq;exact qq
 | bad=>rw[e1] at qq;exact qq
theorem s_ret {e:Expr}{p:PX}{pos:Pos} (h:PE X e (rdR X.K G EX p)):PS X (.Return (some e) pos) (rdS X.K G EX (.ret p)):=by
 refine (ps_ret h).imp fun D0 σ H ⟨th,ρ,h,w,e,qq⟩=>?_
 unfold exS at qq
 refine⟨th,ρ,h,w,e,?_⟩
 cases e1:evR G p ρ h with
 | bad=>rw[e1] at qq;exact qq.elim
 | exc c h'=>rw[e1] at qq;exact qq
 | ok d h'=>rw[e1] at qq;exact qq
theorem s_cnt {pos:Pos}:PS X (.Continue pos) (rdS X.K G EX .cnt):=by
 refine ps_continue.imp fun D0 σ H ⟨th,ρ,h,w,e,qq⟩=>?_
 unfold exS at qq
 exact qq σ H th e w (Gr.refl _ _)
theorem s_ex {e:Expr}{p:PX}{pos:Pos} (h:PE X e (rdR X.K G EX p)) (hs:swapsWith e none pos.line X.env=pure false):PS X (.Expr e pos) (rdS X.K G EX (.ex p)):=by
 refine (ps_expr h hs).imp fun D0 σ H ⟨th,ρ,h,w,e,qq⟩=>?_
 unfold exS at qq
 refine⟨th,ρ,h,w,e,?_⟩
 cases e1:evR G p ρ h with
 | bad=>rw[e1] at qq;exact qq.elim
 | exc c h'=>rw[e1] at qq;exact qq
 | ok d h' =>
  rw[e1] at qq
  exact fun v H' th' r w' g=>qq σ H' th' (e.mono g w'.kd) w' g
theorem s_if {c:Expr}{a b:List Stmt}{r:PB}{p q:List PSt}{pos:Pos} (hc:PT X c (rdB X.K G r)) (ha:PSs X a (rdSs X.K G EX p)) (hb:PSs X b (rdSs X.K G EX q)):PS X (.If c a b pos) (rdS X.K G EX (.ifs r p q)):=by
 refine (ps_if hc ha hb).imp fun D0 σ H ⟨th,ρ,h,w,e,qq⟩=>?_
 unfold exS at qq
 cases e1:evB G r ρ h with
 | none=>rw[e1] at qq;exact qq.elim
 | some d =>
  rw[e1] at qq
  obtain⟨t,h1⟩:=d
  refine⟨th,ρ,h,t,h1,w,e,e1,fun H' th' w' g=>?_⟩
  cases t with
  | true=>exact⟨th',ρ,h1,w',e.mono g w'.kd,RK.mono g qq⟩
  | false=>exact⟨th',ρ,h1,w',e.mono g w'.kd,RK.mono g qq⟩
theorem s_asg {tg e:Expr}{t:PTg}{p:PX}{pos:Pos} (he:PE X e (rdR X.K G EX p)) (hg:PG X tg (rdG X.K t)) (hs:swapsWithSole [tg] e pos.line X.env=pure false) (hw:swappedStores [tg] e X.env=pure none)
  (h1:(assignEach [tg] X.env).map (·.2)=[assign tg X.env]):PS X (.Assign [tg] e pos) (rdS X.K G EX (.asg t p)):=by
 refine (ps_asg he hg hs hw h1).imp fun D0 σ H ⟨th,ρ,h,w,e,qq⟩=>?_
 unfold exS at qq
 refine⟨th,ρ,h,w,e,?_⟩
 cases e1:evR G p ρ h with
 | bad=>rw[e1] at qq;exact qq.elim
 | exc c h'=>rw[e1] at qq;exact qq
 | ok d h1 =>
  rw[e1] at qq
  dsimp only at qq
  cases e2:setT t d ρ with
  | none=>rw[e2] at qq;exact qq.elim
  | some ρ' =>
   rw[e2] at qq
   exact fun v H' th' r w' g=>⟨th',ρ,h1,d,ρ',w',e.mono g w'.kd,r,e2,fun σ' e'=>qq σ' H' th' e' w' g⟩
theorem s_for {tg iter:Expr}{body:List Stmt}{t:PTg}{it:PI}{b:List PSt}{pos:Pos} (hp:PassesOwn (model X.prog X.w) X.A X.env X.xe) (hc:X.calm=true) (hi:L2.PI X tg iter (rdI X.K G it)) (hg:PG X tg (rdG X.K t))
  (hb:PSs X body (rdSs X.K G EX b)) (hs:∀ x,foldedSetIterable iter X.env x=pure x):PS X (.For tg iter body [] pos) (rdS X.K G EX (.forS t it b)):=by
 refine (ps_for hp hc hi hg hb hs).imp fun D0 σ H ⟨th,ρ,h,w,e,qq⟩=>?_
 unfold exS at qq
 cases e1:evI G it ρ h with
 | none=>rw[e1] at qq;exact qq.elim
 | some dd =>
  obtain⟨ds,h1⟩:=dd
  rw[e1] at qq
  have qq:RK X.K EX D0 th H (forL (fun d ρ h=>match setT t d ρ with | some ρ'=>exSs G b ρ' h | none=>.bad) ds ρ h1):=qq
  refine⟨th,ρ,h,ds,h1,w,e,e1,fun J H1 th1 itr w1 g1=>?_⟩
  refine for_it itr (fun i σ2 H2=>∃ th2 ρ2 h2,Wd X.K th2 h2 H2∧EnvR X.K H2 th2 ρ2 σ2∧Gr th1 th2 H1 H2 ∧
    RK X.K EX D0 th2 H2 (forL (fun d ρ h=>match setT t d ρ with | some ρ'=>exSs G b ρ' h | none=>.bad) (ds.drop i) ρ2 h2))
   ⟨th1,ρ,h1,w1,e.mono g1 w1.kd,Gr.refl _ _,by rw[List.drop_zero];exact RK.mono g1 qq⟩ ?_ ?_ ?_
  ·rintro i σ2 H2 ⟨th2,ρ2,h2,w2,e2,g2,q2⟩
   exact⟨th2,g2⟩
  ·rintro i d x σ2 H2 hd ⟨th2,ρ2,h2,w2,e2,g2,q2⟩ rx
   have hlt:i<ds.length:=(List.getElem?_eq_some_iff.mp hd).1
   have hdr:ds.drop i=d::ds.drop (i+1):=by
    rw[List.drop_eq_getElem_cons hlt]
    congr 1
    have:=(List.getElem?_eq_some_iff.mp hd).2
    exact this
   rw[hdr] at q2
   unfold forL at q2
   cases es:setT t d ρ2 with
   | none=>rw[es] at q2;exact q2.elim
   | some ρ3 =>
    rw[es] at q2
    refine⟨th2,ρ2,h2,d,ρ3,w2,e2,rx th2 g2 w2.kd,es,fun σ3 e3=>⟨th2,ρ3,h2,w2,e3,?_⟩⟩
    dsimp only at q2
    cases er:exSs G b ρ3 h2 with
    | nx ρ4 h4 =>
     rw[er] at q2
     intro σ5 H5 th5 e5 w5 g5
     exact⟨th5,ρ4,h4,w5,e5,g2.trans g5,RK.mono g5 q2⟩
    | ct ρ4 h4 =>
     rw[er] at q2
     intro σ5 H5 th5 e5 w5 g5
     exact⟨th5,ρ4,h4,w5,e5,g2.trans g5,RK.mono g5 q2⟩
    | bk ρ4 h4 =>
     rw[er] at q2
     intro σ5 H5 th5 e5 w5 g5
     exact q2 σ5 H5 th5 e5 w5 g5
    | rt d4 h4=>rw[er] at q2;exact q2
    | exc _ _ _=>rw[er] at q2;exact q2
    | bad=>rw[er] at q2;exact q2.elim
  ·rintro σ2 H2 ⟨th2,ρ2,h2,w2,e2,g2,q2⟩
   rw[List.drop_length] at q2
   exact q2 σ2 H2 th2 e2 w2 (Gr.refl _ _)
end
theorem insAt_is {h:AH}{c:Str}{d:D}{n:Nat}{fs:List (Str×D)} (e:insAt h c d=some (n,fs)):d=.ref n∧h[n]?=some (.ins c fs):=by
 unfold insAt at e
 split at e
 ·rename_i m
  split at e
  ·rename_i c' fs' q
   split at e
   ·rename_i hc
    cases e
    subst hc
    exact⟨rfl,q⟩
   ·cases e
  ·cases e
 ·cases e
theorem dctAt_is {h:AH}{d:D}{n:Nat}{kvs:List (D×D)} (e:dctAt h d=some (n,kvs)):d=.ref n∧∃ fz,h[n]?=some (.dct fz kvs):=by
 unfold dctAt at e
 split at e
 ·split at e
  ·rename_i fz kvs' q
   cases e
   exact⟨rfl,fz,q⟩
  ·cases e
 ·cases e
section
variable {K:PySem.W.Frag}{H:Hp}{th:Th}{h:AH}
theorem Wd.insAt (w:Wd K th h H) {c:Str}{d:D}{n:Nat}{fs:List (Str×D)}{v:V} (e:insAt h c d=some (n,fs)) (r:RepV K H th d v) :
  ∃ a C dx us,v=.ref a∧th[n]?=some a∧PySem.W.nsIn K mainGlobals c=some (some (.ref C))∧H a=some (.ins C dx us)∧fs.map (·.1)=us.map (·.1)∧RepVs K H th (fs.map (·.2)) (us.map (·.2)):=by
 obtain⟨rfl,q⟩:=insAt_is e
 cases r with
 | ref hn =>
  obtain⟨C,dx,us,a1,a2,a3,a4⟩:=w.obj n _ _ hn q
  exact⟨_,C,dx,us,rfl,hn,a1,a2,a3,a4⟩
theorem dctW_is {h:AH}{d:D}{n:Nat}{kvs:List (D×D)} (e:dctW h d=some (n,kvs)):d=.ref n∧h[n]?=some (.dct false kvs):=by
 unfold dctW at e
 split at e
 ·split at e
  ·rename_i kvs' q
   cases e
   exact⟨rfl,q⟩
  ·cases e
 ·cases e
theorem Wd.dctAt (w:Wd K th h H) {d:D}{n:Nat}{kvs:List (D×D)}{v:V} (e:dctAt h d=some (n,kvs)) (r:RepV K H th d v) :
  ∃ a us,v=.ref a∧th[n]?=some a∧Rd H a (.dK us)∧kvs.map (fun p=>keyD p.1)=us.map (fun p=>some p.1)∧RepVs K H th (kvs.map (·.2)) (us.map (·.2)):=by
 obtain⟨rfl,fz,q⟩:=dctAt_is e
 cases r with
 | ref hn =>
  obtain⟨us,a2,a3,a4⟩:=w.obj n _ _ hn q
  exact⟨_,us,rfl,hn,a2.rd,a3,a4⟩
theorem Wd.dctW (w:Wd K th h H) {d:D}{n:Nat}{kvs:List (D×D)}{v:V} (e:dctW h d=some (n,kvs)) (r:RepV K H th d v) :
  ∃ a us,v=.ref a∧th[n]?=some a∧H a=some (.dK us)∧kvs.map (fun p=>keyD p.1)=us.map (fun p=>some p.1)∧RepVs K H th (kvs.map (·.2)) (us.map (·.2)):=by
 obtain⟨rfl,q⟩:=dctW_is e
 cases r with
 | ref hn =>
  obtain⟨us,a2,a3,a4⟩:=w.obj n _ _ hn q
  exact⟨_,us,rfl,hn,a2,a3,a4⟩
end
section
variable {X:Cx}{G:List Den}{EX:Nat→Hp→Prop}
theorem e_fld {o:Expr}{p:PX}{c f:Str}{pos:Pos} (hf:FldOk X c f) (hb:attributeBase o f X.env (eval o X.env)=eval o X.env) (ho:PE X o (rdE X.K G p)):PE X (.Attribute o f pos) (rdE X.K G (.fld c p f)):=by
 refine (pe_fld ho hb).imp fun σ H Q ⟨th,ρ,h,d,h',w,en,e1,kk⟩=>?_
 rw[ev] at e1
 obtain⟨⟨d1,h1⟩,q1,e1⟩:=obs e1
 obtain⟨⟨n,fs⟩,q2,e1⟩:=obs e1
 obtain⟨d2,q3,e1⟩:=obs e1
 cases e1
 refine⟨th,ρ,h,d1,_,w,en,q1,fun x H1 th1 r1 w1 g1=>?_⟩
 obtain⟨a,C,dx,us,rfl,hn,hc,hH,e3,r3⟩:=w1.insAt q2 r1
 obtain⟨v,l1,l2⟩:=lk_rep e3 r3 q3
 obtain⟨Ca,c1,c2,c3⟩:=hf
 rw[hc] at c1
 cases c1
 exact⟨a,C,dx,us,v,rfl,hH,c2,c3,l1,kk v H1 th1 l2 w1 g1⟩
theorem e_dnew {pos:Pos}:PE X (.Dict [] [] pos) (rdE X.K G .dnew):=by
 intro pins s σ H Q I hq
 obtain⟨th,ρ,h,d,h',w,en,e1,kk⟩:=hq
 rw[ev] at e1
 cases e1
 have hf:H s.heap.objs.size=none:=I.hok.fresh (Nat.le_refl _)
 have hk:X.K.lookup s.heap.objs.size=none:=by
  cases e:X.K.lookup s.heap.objs.size with
  | none=>rfl
  | some o=>exact absurd (Heap.lt_size (I.kIn _ _ e)) (Nat.lt_irrefl _)
 refine wpAny_Dict_empty ⟨.ref s.heap.objs.size,_,I.laid (a:=s.heap.objs.size) (o:=.dK []) (t':=s.toks) (fun _ _ q=>Heap.get?_push_of_some _ q) (Nat.le_refl _) (dk_empty s.heap I.big),rfl,?_⟩
 have g2:=Gr.added (H:=H) (o:=.dK []) th hf
 refine kk _ _ (th++[s.heap.objs.size]) (.ref ?_) (w.added hf hk ⟨[],upd_same,rfl,.nil⟩) g2
 rw[← w.len]
 simp
theorem dget_of {K:PySem.W.Frag}{H:Hp}{th:Th}{a:Addr}{kvs:List (D×D)}{us:List (Key×V)}{kd:D}{y:V} (hk:isK kd=true) (ry:RepV K H th kd y) (e:Rd H a (.dK us)) (k1:kvs.map (fun p=>keyD p.1)=us.map (fun p=>some p.1)) (k2:RepVs K H th (kvs.map (·.2)) (us.map (·.2))) :
  (lkD kvs kd=none∧DGet H a y none)∨∃ d v,lkD kvs kd=some d∧DGet H a y (some v)∧RepV K H th d v:=by
 obtain⟨k,ek⟩:=isK_key hk
 cases key_rep ek ry
 rcases val_rep ek k1 k2 with ⟨e1,e2⟩ | ⟨d,v,e1,e2,e3⟩
 ·exact .inl ⟨e1,by rw[← e2];exact .inl ⟨us,k,e,rfl,rfl⟩⟩
 ·exact .inr ⟨d,v,e1,by rw[← e2];exact .inl ⟨us,k,e,rfl,rfl⟩,e3⟩
theorem e_dget {o i:Expr}{p q:PX}{pos:Pos} (hu:X.A.units+1<cLine) (hs:NoSl i) (ho:PE X o (rdE X.K G p)) (hi:PE X i (rdE X.K G q)):PE X (.Subscript o i pos) (rdE X.K G (.dget p q)):=by
 refine (pe_dget hu ho hi hs).imp fun σ H Q ⟨th,ρ,h,d,h',w,en,e1,kk⟩=>?_
 rw[ev] at e1
 obtain⟨⟨d1,h1⟩,q1,e1⟩:=obs e1
 obtain⟨⟨d2,h2⟩,q2,e1⟩:=obs e1
 obtain⟨⟨n,kvs⟩,q3,e1⟩:=obs e1
 dsimp only at q2 q3 e1
 by_cases hk:isK d2=true
 ·rw[if_pos hk] at e1
  obtain⟨d3,q4,e1⟩:=obs e1
  cases e1
  refine⟨th,ρ,h,d1,h1,w,en,q1,fun x H1 th1 r1 w1 g1=>⟨th1,ρ,h1,d2,h',w1,en.mono g1 w1.kd,q2,fun y H2 th2 r2 w2 g2=>?_⟩⟩
  obtain⟨a,us,rfl,hn,hH,k1,k2⟩:=w2.dctAt q3 (r1.mono g2 w2.kd)
  rcases dget_of hk r2 hH k1 k2 with ⟨e5,_⟩ | ⟨d5,v,e5,e6,e7⟩
  ·rw[q4] at e5;cases e5
  ·rw[q4] at e5
   cases e5
   exact⟨a,v,rfl,e6,kk v H2 th2 e7 w2 (g1.trans g2)⟩
 ·rw[if_neg hk] at e1
  cases e1
theorem e_din {o i:Expr}{p q:PX}{pos:Pos} (hu:X.A.units+1<cLine) (hm:behindInMarks .In o=false) (hi:PE X i (rdE X.K G q)) (ho:PE X o (rdE X.K G p)):PE X (.Compare i [.In] [o] pos) (rdE X.K G (.din false q p)):=by
 refine (pe_cmp (pc_din hu hi ho) hm).imp fun σ H Q ⟨th,ρ,h,d,h',w,en,e1,kk⟩=>?_
 rw[ev] at e1
 obtain⟨⟨d1,h1⟩,q1,e1⟩:=obs e1
 obtain⟨⟨d2,h2⟩,q2,e1⟩:=obs e1
 obtain⟨⟨n,kvs⟩,q3,e1⟩:=obs e1
 dsimp only at q2 q3 e1
 by_cases hk:isK d1=true
 ·rw[if_pos hk] at e1
  cases e1
  refine⟨th,ρ,h,d1,h1,w,en,q1,fun y H1 th1 r1 w1 g1=>⟨th1,ρ,h1,d2,h',w1,en.mono g1 w1.kd,q2,fun x H2 th2 r2 w2 g2=>?_⟩⟩
  obtain⟨a,us,rfl,hn,hH,k1,k2⟩:=w2.dctAt q3 r2
  rcases dget_of hk (r1.mono g2 w2.kd) hH k1 k2 with ⟨e5,e6⟩ | ⟨d5,v,e5,e6,e7⟩
  ·refine⟨a,_,rfl,e6,?_⟩
   have:=kk (.bl (xor false (lkD kvs d1).isSome)) H2 th2 (.bl _) w2 (g1.trans g2)
   rw[e5] at this
   exact this
  ·refine⟨a,_,rfl,e6,?_⟩
   have:=kk (.bl (xor false (lkD kvs d1).isSome)) H2 th2 (.bl _) w2 (g1.trans g2)
   rw[e5] at this
   exact this
 ·rw[if_neg hk] at e1
  cases e1
end
section
variable {X:Cx}{G:List Den}{EX:Nat→Hp→Prop}
theorem isD_of {H:Hp}{a:Addr}{us:List (Key×V)} (e:Rd H a (.dK us)):IsD H a:=.inl ⟨us,e⟩
theorem e_dgetN {o i:Expr}{p q:PX}{apos cpos:Pos} (hu:X.A.units+1<cLine) (m:M1 X o "get" apos i cpos) (ho:PE X o (rdE X.K G p)) (hi:PE X i (rdE X.K G q)):PE X (.Call (.Attribute o "get" apos) [i] [] cpos) (rdE X.K G (.dgetN p q)):=by
 refine (pe_dget1 hu ho hi m).imp fun σ H Q ⟨th,ρ,h,d,h',w,en,e1,kk⟩=>?_
 rw[ev] at e1
 obtain⟨⟨d1,h1⟩,q1,e1⟩:=obs e1
 obtain⟨⟨n0,kvs0⟩,q0,e1⟩:=obs e1
 obtain⟨⟨d2,h2⟩,q2,e1⟩:=obs e1
 obtain⟨⟨n,kvs⟩,q3,e1⟩:=obs e1
 dsimp only at q0 q2 q3 e1
 by_cases hk:isK d2=true
 ·rw[if_pos hk] at e1
  cases e1
  refine⟨th,ρ,h,d1,h1,w,en,q1,fun x H1 th1 r1 w1 g1=>?_⟩
  obtain⟨a,us0,rfl,_,hH0,_,_⟩:=w1.dctAt q0 r1
  refine⟨a,rfl,isD_of hH0,th1,ρ,h1,d2,_,w1,en.mono g1 w1.kd,q2,fun y H2 th2 r2 w2 g2=>?_⟩
  obtain⟨a',us,ea,hn,hH,k1,k2⟩:=w2.dctAt q3 (r1.mono g2 w2.kd)
  cases ea
  rcases dget_of hk r2 hH k1 k2 with ⟨e5,e6⟩ | ⟨d5,v,e5,e6,e7⟩
  ·rw[e5] at kk
   exact⟨none,e6,kk .non H2 th2 .non w2 (g1.trans g2)⟩
  ·rw[e5] at kk
   exact⟨some v,e6,kk v H2 th2 e7 w2 (g1.trans g2)⟩
 ·rw[if_neg hk] at e1
  cases e1
theorem wd_dict {K:PySem.W.Frag}{H:Hp}{th:Th}{h:AH}{n:Nat}{a:Addr}{us us':List (Key×V)}{kvs':List (D×D)} (w:Wd K th h H) (hn:th[n]?=some a) (e:H a=some (.dK us)) (k1:kvs'.map (fun p=>keyD p.1)=us'.map (fun p=>some p.1)) (k2:RepVs K H th (kvs'.map (·.2)) (us'.map (·.2))) :
  Wd K th (h.set n (.dct false kvs')) (upd H a (.dK us'))∧Gr th th H (upd H a (.dK us')):=by
 have nt:=nt_of e (fun _ z=>nomatch z) fun _ _ z=>nomatch z
 have nf:=nf_of e fun _ _ z=>nomatch z
 have g:=Gr.wroteO (o:=.dK us') (List.mem_of_getElem? hn) nt nf
 exact⟨w.wroteO hn nt nf ⟨us',upd_same,k1,k2.mono g w.kd⟩,g⟩
theorem wd_ins {K:PySem.W.Frag}{H:Hp}{th:Th}{h:AH}{n:Nat}{a C dx:Addr}{c:Str}{us us':List (Str×V)}{fs':List (Str×D)} (w:Wd K th h H) (hn:th[n]?=some a) (hc:PySem.W.nsIn K mainGlobals c=some (some (.ref C))) (e:H a=some (.ins C dx us)) (k1:fs'.map (·.1)=us'.map (·.1)) (k2:RepVs K H th (fs'.map (·.2)) (us'.map (·.2))) :
  Wd K th (h.set n (.ins c fs')) (upd H a (.ins C dx us'))∧Gr th th H (upd H a (.ins C dx us')):=by
 have nt:=nt_of e (fun _ z=>nomatch z) fun _ _ z=>nomatch z
 have nf:=nf_of e fun _ _ z=>nomatch z
 have g:=Gr.wroteO (o:=.ins C dx us') (List.mem_of_getElem? hn) nt nf
 exact⟨w.wroteO hn nt nf ⟨C,dx,us',hc,upd_same,k1,k2.mono g w.kd⟩,g⟩
theorem e_dpopN {o i f:Expr}{p q:PX}{apos cpos:Pos} (m:M2 X o "pop" apos i f cpos) (ho:PE X o (rdE X.K G p)) (hi:PE X i (rdE X.K G q)) (hf:PE X f (tC .non)):PE X (.Call (.Attribute o "pop" apos) [i,f] [] cpos) (rdE X.K G (.dpopN p q)):=by
 refine (pe_dpop2 ho hi hf m).imp fun σ H Q ⟨th,ρ,h,d,h',w,en,e1,kk⟩=>?_
 rw[ev] at e1
 obtain⟨⟨d1,h1⟩,q1,e1⟩:=obs e1
 obtain⟨⟨n0,kvs0⟩,q0,e1⟩:=obs e1
 obtain⟨⟨d2,h2⟩,q2,e1⟩:=obs e1
 obtain⟨⟨n,kvs⟩,q3,e1⟩:=obs e1
 dsimp only at q0 q2 q3 e1
 by_cases hk:isK d2=true
 ·rw[if_pos hk] at e1
  refine⟨th,ρ,h,d1,h1,w,en,q1,fun x H1 th1 r1 w1 g1=>?_⟩
  obtain⟨a,us0,rfl,_,hH0,_,_⟩:=w1.dctAt q0 r1
  refine⟨a,rfl,isD_of hH0,th1,ρ,h1,d2,h2,w1,en.mono g1 w1.kd,q2,fun y H2 th2 r2 w2 g2=>?_⟩
  obtain⟨a',us,ea,hn,hH,k1,k2⟩:=w2.dctW q3 (r1.mono g2 w2.kd)
  cases ea
  obtain⟨k,ek⟩:=isK_key hk
  refine⟨us,k,hH,key_rep ek r2,fun v ev'=>?_,fun ev'=>?_⟩
  ·rcases val_rep ek k1 k2 with ⟨e5,e6⟩ | ⟨d5,v',e5,e6,e7⟩
   ·rw[ev'] at e6;cases e6
   ·rw[ev'] at e6
    cases e6
    rw[e5] at e1
    cases e1
    obtain⟨i1,i2⟩:=drop_rep ek k1 k2
    obtain⟨w3,g3⟩:=wd_dict w2 hn hH i1 i2
    exact kk v _ th2 (e7.mono g3 w2.kd) w3 ((g1.trans g2).trans g3)
  ·rcases val_rep ek k1 k2 with ⟨e5,e6⟩ | ⟨d5,v',e5,e6,e7⟩
   ·rw[e5] at e1
    cases e1
    exact kk .non H2 th2 .non w2 (g1.trans g2)
   ·rw[ev'] at e6;cases e6
 ·rw[if_neg hk] at e1
  cases e1
end
section
variable {X:Cx}{G:List Den}
theorem inv_drawn {pins:List (Addr×Obj)}{σ:St}{H:Hp}{s:Shared} (I:Inv X pins σ H s) (d:Drawn):Inv X pins σ H { s with drawn:=d }:=⟨I.ok,I.os,I.bare,I.base,I.loc,I.cell,I.free,I.freeC,I.pin,I.hok,I.len⟩
end
section
variable {X:Cx}{C:CC}{G:List Den}{k:Nat}
theorem pe_false {e:Expr}{t:TE} (h:∀ σ H Q,¬ t σ H Q):PE X e t:=fun pins s σ H Q I q=>absurd q (h σ H Q)
theorem e_call {x:Str}{i:Nat}{e:Expr}{es:List Expr}{ps:List PX}{p pos:Pos} (O:CtxOk X C G k) (hg:C.isGl x=true) (hi:C.fs.findIdx? (·==x)=some i) (ha:PA X (e::es) (rdA X.K G ps))
  (he:starEach (e::es) X.env=(false,eval e X.env)::starEach es X.env) (hpl:(backTo pos (starEach es X.env)).any (·.1)=false) :
  PE X (.Call (.Name x p) (e::es) [] pos) (rdE X.K G (.call i ps)):=by
 obtain⟨g,pl⟩:=isGl_ok O hg
 obtain⟨h4,h5,_⟩:=plain_debug pl
 cases hG:G[i]? with
 | none =>
  refine pe_false fun σ H Q ⟨th,ρ,h,d,h',w,en,e1,kk⟩=>?_
  unfold ev at e1
  obtain⟨⟨ds,h1⟩,q1,e1⟩:=obs e1
  rw[hG] at e1
  cases e1
 | some f =>
  obtain⟨j0,hj0,M0⟩:=O.fs i x f (findIdx_get hi) (isGl_ok O hg).2 hG
  obtain⟨fa,fd,pn,hm,hk,F0,hb,ar⟩:=M0.ex
  have F:=F0.mono (show j0≤k by omega)
  refine (pe_call (E:=E0) F O.room g hm hk hb .nil passX0 ha h4 he hpl).imp fun σ H Q ⟨th,ρ,h,d,h',w,en,e1,kk⟩=>?_
  unfold ev at e1
  obtain⟨⟨ds,h1⟩,q1,e1⟩:=obs e1
  rw[hG] at e1
  have e1:(match f ds h1 with | .ok d h'=>some (d,h') | _=>none)=some (d,h'):=e1
  refine⟨th,ρ,h,ds,h1,w,en,q1,fun vs H1 th1 r1 w1 g1=>?_⟩
  cases ef:f ds h1 with
  | ok d2 h2 =>
   rw[ef] at e1
   cases e1
   rw[List.append_nil]
   refine⟨by rw[← r1.length];exact ar _ _ (by rw[ef];intro z;cases z),th1,h1,ds,w1,r1,?_⟩
   rw[ef]
   exact fun v H' th' r w' g'=>kk v H' th' r w' (g1.trans g')
  | exc c h2=>rw[ef] at e1;cases e1
  | bad=>rw[ef] at e1;cases e1
theorem r_call {x:Str}{i:Nat}{e:Expr}{es:List Expr}{ps:List PX}{p pos:Pos}{EX:Nat→Hp→Prop} (O:CtxOk X C G k) (xc:XC X (toE X.mg EX)) (hg:C.isGl x=true) (hi:C.fs.findIdx? (·==x)=some i) (ha:PA X (e::es) (rdA X.K G ps))
  (he:starEach (e::es) X.env=(false,eval e X.env)::starEach es X.env) (hpl:(backTo pos (starEach es X.env)).any (·.1)=false) :
  PE X (.Call (.Name x p) (e::es) [] pos) (rdR X.K G EX (.call i ps)):=by
 obtain⟨g,pl⟩:=isGl_ok O hg
 obtain⟨h4,h5,_⟩:=plain_debug pl
 cases hG:G[i]? with
 | none =>
  refine pe_false fun σ H Q ⟨th,ρ,h,w,en,e1⟩=>?_
  unfold evR at e1
  dsimp only at e1
  cases q1:evs G ps ρ h with
  | none=>rw[q1] at e1;exact e1
  | some d=>rw[q1] at e1;dsimp only at e1;rw[hG] at e1;exact e1
 | some f =>
  obtain⟨j0,hj0,M0⟩:=O.fs i x f (findIdx_get hi) (isGl_ok O hg).2 hG
  obtain⟨fa,fd,pn,hm,hk,F0,hb,ar⟩:=M0.ex
  have F:=F0.mono (show j0≤k by omega)
  refine (pe_call (E:=toE X.mg EX) F O.room g hm hk hb .nil xc ha h4 he hpl).imp fun σ H Q ⟨th,ρ,h,w,en,e1⟩=>?_
  unfold evR at e1
  dsimp only at e1
  cases q1:evs G ps ρ h with
  | none=>rw[q1] at e1;exact e1.elim
  | some d =>
   obtain⟨ds,h1⟩:=d
   rw[q1] at e1
   dsimp only at e1
   rw[hG] at e1
   dsimp only at e1
   refine⟨th,ρ,h,ds,h1,w,en,q1,fun vs H1 th1 r1 w1 g1=>?_⟩
   dsimp only
   rw[List.append_nil]
   cases ef:f ds h1 with
   | bad=>rw[ef] at e1;exact e1.elim
   | ok d2 h2 =>
    rw[ef] at e1
    refine⟨by rw[← r1.length];exact ar _ _ (by rw[ef];intro z;cases z),th1,h1,ds,w1,r1,?_⟩
    rw[ef]
    exact fun v H' th' r w' g'=>e1 v H' th' r w' (g1.trans g')
   | exc c h2 =>
    rw[ef] at e1
    refine⟨by rw[← r1.length];exact ar _ _ (by rw[ef];intro z;cases z),th1,h1,ds,w1,r1,?_⟩
    rw[ef]
    exact fun H' th' w' g'=>⟨c,rfl,e1 H' th' w' (g1.trans g')⟩
theorem rd_blt {b:Bl}{ps:List PX}{σ:St}{H:Hp}{Q:VK} (h:rdE X.K G (.blt b ps) σ H Q):tCB (rdC X.K (bltD b)) (rdA X.K G ps) σ H Q:=by
 obtain⟨th,ρ,h,d,h',w,en,e1,kk⟩:=h
 unfold ev at e1
 obtain⟨⟨ds,h1⟩,q1,e1⟩:=obs e1
 obtain⟨d2,q2,e1⟩:=obs e1
 cases e1
 exact⟨th,ρ,h,ds,_,w,en,q1,fun vs H1 th1 r1 w1 g1=>⟨th1,_,_,_,w1,r1.views w1,q2,fun v H' r w' g'=>kk v H' th1 r w' (g1.trans g')⟩⟩
theorem c_len:CallR X (.builtin "len") (rdC X.K (bltD .len)):=by
 intro pins s σ H xs us Q I r h
 obtain⟨th,ah,ds,d,w,ws,e,k⟩:=h
 have kk:∀ v,RepV X.K H th d v→Q v H:=fun v r=>k v H r w (Gr.refl _ _)
 cases ws with
 | nil=>cases e
 | cons r1 rs =>
  cases rs with
  | cons _ _=>rename_i d0 _ _ _ _ _ _ _;cases d0<;>cases e
  | nil =>
   rename_i d0 v0
   cases d0 with
   | str z =>
    cases r1.istr
    have e:(if z.length≤SZ then some (D.int z.length) else none)=some d:=e
    split at e
    ·rename_i hz
     cases e
     exact call_len_str pins s σ H _ us Q I r ⟨SS z,rfl,by rw[SS_length,SZ_eq];exact hz,by rw[SS_length];exact kk _ (.int _)⟩
    ·cases e
   | lst z =>
    cases e
    obtain⟨a,vs,rfl,q,rr⟩:=r1.ilst
    exact call_len_seq pins s σ H _ us Q I r ⟨a,vs,rfl,.inl q,by rw[← rr.length];exact kk _ (.int _)⟩
   | tup z =>
    cases e
    obtain⟨a,vs,rfl,q,rr⟩:=r1.itup
    exact call_len_seq pins s σ H _ us Q I r ⟨a,vs,rfl,.inr q,by rw[← rr.length];exact kk _ (.int _)⟩
   | _=>cases e
theorem two_ints {b:Bl}{K:PySem.W.Frag}{H:Hp}{th:Th}{ds:List D}{vs:List V}{d:D} (hb:b=.min2∨b=.max2) (ws:RepWs K H th ds vs) (e:bltD b ds=some d):∃ i j,ds=[.int i,.int j]∧vs=[.int i,.int j]:=by
 cases ws with
 | nil=>rcases hb with rfl | rfl<;>cases e
 | cons r1 rs =>
  cases rs with
  | nil=>rename_i d0 v0;rcases hb with rfl | rfl<;>cases d0<;>cases e
  | cons r2 rs =>
   cases rs with
   | nil =>
    rename_i d0 v0 d1 v1
    rcases hb with rfl | rfl
    ·cases d0 with
     | int i =>
      cases d1 with
      | int j=>cases r1.iint;cases r2.iint;exact⟨i,j,rfl,rfl⟩
      | _=>cases e
     | _=>cases e
    ·cases d0 with
     | int i =>
      cases d1 with
      | int j=>cases r1.iint;cases r2.iint;exact⟨i,j,rfl,rfl⟩
      | _=>cases e
     | _=>cases e
   | cons _ _ =>
    rename_i d0 v0 d1 v1 _ _ _ _ _ _
    rcases hb with rfl | rfl<;>cases d0<;>first | cases e | (cases d1<;>cases e)
theorem c_min2 (hc:X.calm=true):CallR X (.builtin "min") (rdC X.K (bltD .min2)):=by
 intro pins s σ H xs us Q I r h
 obtain⟨th,ah,ds,d,w,ws,e,k⟩:=h
 obtain⟨i,j,rfl,rfl⟩:=two_ints (.inl rfl) ws e
 cases e
 exact call_min2 hc pins s σ H _ us Q I r ⟨i,j,rfl,k _ H (.int _) w (Gr.refl _ _)⟩
theorem c_max2 (hc:X.calm=true):CallR X (.builtin "max") (rdC X.K (bltD .max2)):=by
 intro pins s σ H xs us Q I r h
 obtain⟨th,ah,ds,d,w,ws,e,k⟩:=h
 obtain⟨i,j,rfl,rfl⟩:=two_ints (.inr rfl) ws e
 cases e
 exact call_max2 hc pins s σ H _ us Q I r ⟨i,j,rfl,k _ H (.int _) w (Gr.refl _ _)⟩
theorem c_sorted:CallR X (.builtin "sorted") (rdC X.K (bltD .sorted)):=by
 intro pins s σ H xs us Q I r h
 obtain⟨th,ah,ds,d,w,ws,e,k⟩:=h
 cases ws with
 | nil=>cases e
 | cons r1 rs =>
  cases rs with
  | cons _ _=>rename_i d0 _ _ _ _ _ _ _;cases d0<;>cases e
  | nil =>
   rename_i d0 v0
   cases d0 with
   | lst z =>
    have e:((ints? z).bind fun l=>if l.length<64 then some (D.lst ((l.mergeSort fun a b=>decide (a≤b)).map .int)) else none)=some d:=e
    obtain⟨l,e1,e2⟩:=obs e
    split at e2
    ·rename_i hl
     cases e2
     obtain⟨a,vs,rfl,q,rr⟩:=r1.ilst
     obtain⟨ev,ed⟩:=ints_rep rr e1
     subst ev
     refine call_sortedM pins s σ H _ us Q I r ⟨a,l,rfl,q,hl,fun p hp=>?_⟩
     have g:=Gr.laid (H:=H) (o:=.lst ((l.mergeSort fun a b=>decide (a≤b)).map V.int)) th hp
     exact k _ _ (.lst (SqL.of upd_same) (w.notin hp) (RepVs.ints _)) (w.laid hp) g
    ·cases e2
   | _=>cases e
theorem one_arg {f:List D→Option D}{K:PySem.W.Frag}{H:Hp}{th:Th}{ds:List D}{vs:List V}{d:D} (h0:f []=none) (h2:∀ a b c,f (a::b::c)=none) (ws:RepWs K H th ds vs) (e:f ds=some d):∃ d0 v0,ds=[d0]∧vs=[v0]∧RepW K H th d0 v0:=by
 cases ws with
 | nil=>rw[h0] at e;cases e
 | cons r1 rs =>
  cases rs with
  | nil=>exact⟨_,_,rfl,rfl,r1⟩
  | cons r2 rs=>rw[h2] at e;cases e
theorem c_list:CallR X (.type "list") (rdC X.K (bltD .list)):=by
 intro pins s σ H xs us Q I r h
 obtain⟨th,ah,ds,d,w,ws,e,k⟩:=h
 obtain⟨d0,v0,rfl,rfl,r1⟩:=one_arg (f:=bltD .list) rfl (by intro a b c;cases a<;>rfl) ws e
 cases d0 with
 | lst z =>
  cases e
  obtain⟨a,vs,rfl,q,rr⟩:=r1.ilst
  refine call_list_of pins s σ H _ us Q I r ⟨a,vs,rfl,.inl q,fun p hp=>?_⟩
  have g:=Gr.laid (H:=H) (o:=.lst vs) th hp
  exact k _ _ (.lst (SqL.of upd_same) (w.notin hp) (rr.mono g w.kd)) (w.laid hp) g
 | tup z =>
  cases e
  obtain⟨a,vs,rfl,q,rr⟩:=r1.itup
  refine call_list_of pins s σ H _ us Q I r ⟨a,vs,rfl,.inr q,fun p hp=>?_⟩
  have g:=Gr.laid (H:=H) (o:=.lst vs) th hp
  exact k _ _ (.lst (SqL.of upd_same) (w.notin hp) (rr.mono g w.kd)) (w.laid hp) g
 | _=>cases e
theorem c_tuple:CallR X (.type "tuple") (rdC X.K (bltD .tuple)):=by
 intro pins s σ H xs us Q I r h
 obtain⟨th,ah,ds,d,w,ws,e,k⟩:=h
 obtain⟨d0,v0,rfl,rfl,r1⟩:=one_arg (f:=bltD .tuple) rfl (by intro a b c;cases a<;>rfl) ws e
 cases d0 with
 | lst z =>
  cases e
  obtain⟨a,vs,rfl,q,rr⟩:=r1.ilst
  refine call_tuple_of pins s σ H _ us Q I r ⟨a,vs,rfl,.inl ⟨q,fun p hp=>?_⟩⟩
  have g:=Gr.laid (H:=H) (o:=.tup vs) th hp
  exact k _ _ (.tup (SqT.of upd_same) (rr.mono g w.kd)) (w.laid hp) g
 | tup z =>
  cases e
  obtain⟨a,vs,rfl,q,rr⟩:=r1.itup
  exact call_tuple_of pins s σ H _ us Q I r ⟨a,vs,rfl,.inr ⟨q,k _ H (.tup q rr) w (Gr.refl _ _)⟩⟩
 | _=>cases e
theorem c_int:CallR X (.type "int") (rdC X.K (bltD .int)):=by
 intro pins s σ H xs us Q I r h
 obtain⟨th,ah,ds,d,w,ws,e,k⟩:=h
 obtain⟨d0,v0,rfl,rfl,r1⟩:=one_arg (f:=bltD .int) rfl (by intro a b c;cases a<;>rfl) ws e
 cases d0 with
 | int z=>cases e;cases r1.iint;exact call_int1 pins s σ H _ us Q I r (.inl ⟨z,rfl,k _ H (.int _) w (Gr.refl _ _)⟩)
 | bl z=>cases e;cases r1.ibl;exact call_int1 pins s σ H _ us Q I r (.inr ⟨z,rfl,k _ H (.int _) w (Gr.refl _ _)⟩)
 | _=>cases e
theorem c_all (hc:X.calm=true):CallR X (.builtin "all") (rdC X.K (bltD .all)):=by
 intro pins s σ H xs us Q I r h
 obtain⟨th,ah,ds,d,w,ws,e,k⟩:=h
 obtain⟨d0,v0,rfl,rfl,r1⟩:=one_arg (f:=bltD .all) rfl (by intro a b c;cases a<;>rfl) ws e
 cases d0 with
 | lst z =>
  have e:((bools? z).bind fun l=>some (D.bl (l.all id)))=some d:=e
  obtain⟨l,e1,e2⟩:=obs e
  cases e2
  obtain⟨a,vs,rfl,q,rr⟩:=r1.ilst
  have ev:=bools_rep rr e1
  subst ev
  exact call_allL hc pins s σ H _ us Q I r ⟨a,l,rfl,q,k _ H (.bl _) w (Gr.refl _ _)⟩
 | _=>cases e
theorem c_minS (hc:X.calm=true):CallR X (.builtin "min") (rdC X.K (bltD .minS)):=by
 intro pins s σ H xs us Q I r h
 obtain⟨th,ah,ds,d,w,ws,e,k⟩:=h
 obtain⟨d0,v0,rfl,rfl,r1⟩:=one_arg (f:=bltD .minS) rfl (by intro a b c;cases a<;>rfl) ws e
 cases d0 with
 | tup z =>
  have e:((ints? z).bind fun l=>if 0<l.length then some (D.int (bestI (fun a b=>decide (a<b)) l)) else none)=some d:=e
  obtain⟨l,e1,e2⟩:=obs e
  split at e2
  ·rename_i hl
   cases e2
   obtain⟨a,vs,rfl,q,rr⟩:=r1.itup
   obtain⟨ev,ed⟩:=ints_rep rr e1
   subst ev
   exact call_minT hc pins s σ H _ us Q I r ⟨a,l,rfl,q,hl,k _ H (.int _) w (Gr.refl _ _)⟩
  ·cases e2
 | _=>cases e
theorem c_maxS (hc:X.calm=true):CallR X (.builtin "max") (rdC X.K (bltD .maxS)):=by
 intro pins s σ H xs us Q I r h
 obtain⟨th,ah,ds,d,w,ws,e,k⟩:=h
 obtain⟨d0,v0,rfl,rfl,r1⟩:=one_arg (f:=bltD .maxS) rfl (by intro a b c;cases a<;>rfl) ws e
 cases d0 with
 | tup z =>
  have e:((ints? z).bind fun l=>if 0<l.length then some (D.int (bestI (fun a b=>decide (a > b)) l)) else none)=some d:=e
  obtain⟨l,e1,e2⟩:=obs e
  split at e2
  ·rename_i hl
   cases e2
   obtain⟨a,vs,rfl,q,rr⟩:=r1.itup
   obtain⟨ev,ed⟩:=ints_rep rr e1
   subst ev
   exact call_maxT hc pins s σ H _ us Q I r ⟨a,l,rfl,q,hl,k _ H (.int _) w (Gr.refl _ _)⟩
  ·cases e2
 | _=>cases e
theorem e_bltB {x:Str}{id:String}{b:Bl}{e:Expr}{es:List Expr}{ps:List PX}{p pos:Pos} (O:CtxOk X C G k) (hx:C.isGl x=true) (hl:C.bl.contains x=true) (hc:CallR X (.builtin id) (rdC X.K (bltD b)))
  (hv:bootBuiltins x=some (.builtin id)) (ha:PA X (e::es) (rdA X.K G ps)) (he:starEach (e::es) X.env=(false,eval e X.env)::starEach es X.env) (hpl:(backTo pos (starEach es X.env)).any (·.1)=false) :
  PE X (.Call (.Name x p) (e::es) [] pos) (rdE X.K G (.blt b ps)):=by
 obtain⟨g,pl⟩:=isGl_ok O hx
 obtain⟨h4,h5,h6⟩:=plain_debug pl
 exact (pe_callB hc g (O.bl x hl) hv ha h6 h4 he hpl).imp fun σ H Q h=>rd_blt h
theorem e_bltT {x:Str}{id:String}{b:Bl}{e:Expr}{es:List Expr}{ps:List PX}{p pos:Pos} (O:CtxOk X C G k) (hx:C.isGl x=true) (hl:C.bl.contains x=true) (hc:CallR X (.type id) (rdC X.K (bltD b)))
  (hv:bootBuiltins x=some (.type id)) (ha:PA X (e::es) (rdA X.K G ps)) (he:starEach (e::es) X.env=(false,eval e X.env)::starEach es X.env) (hpl:(backTo pos (starEach es X.env)).any (·.1)=false) :
  PE X (.Call (.Name x p) (e::es) [] pos) (rdE X.K G (.blt b ps)):=by
 obtain⟨g,pl⟩:=isGl_ok O hx
 obtain⟨h4,h5,h6⟩:=plain_debug pl
 exact (pe_callTy hc g (O.bl x hl) hv ha h6 h4 he hpl).imp fun σ H Q h=>rd_blt h
theorem rd_bad {b:Bl}{ps:List PX}{e:Expr} (h:∀ ds,bltD b ds=none):PE X e (rdE X.K G (.blt b ps)):=pe_false fun σ H Q ⟨th,ρ,ah,d,h',w,en,e1,kk⟩=>by
 unfold ev at e1
 obtain⟨⟨ds,h1⟩,q1,e1⟩:=obs e1
 obtain⟨d2,q2,e1⟩:=obs e1
 rw[h] at q2
 cases q2
theorem e_blt {x:Str}{q:PX}{e:Expr}{es:List Expr}{ps:List PX}{p pos:Pos} (O:CtxOk X C G k) (hx:C.isGl x=true) (hl:C.bl.contains x=true) (h:bltOf x ps=some q)
  (ha:PA X (e::es) (rdA X.K G ps)) (he:starEach (e::es) X.env=(false,eval e X.env)::starEach es X.env) (hpl:(backTo pos (starEach es X.env)).any (·.1)=false) :
  PE X (.Call (.Name x p) (e::es) [] pos) (rdE X.K G q):=by
 unfold bltOf at h
 by_cases c:(x==("len":Str))=true
 ·rw[if_pos c] at h;cases h;cases eq_of_beq c;exact e_bltB O hx hl c_len boot_len ha he hpl
 rw[if_neg c] at h;clear c
 by_cases c:(x==("min":Str)&&ps.length==2)=true
 ·rw[if_pos c] at h;cases h;cases eq_of_beq (Bool.and_eq_true_iff.mp c).1;exact e_bltB O hx hl (c_min2 O.calm) boot_min ha he hpl
 rw[if_neg c] at h;clear c
 by_cases c:(x==("max":Str)&&ps.length==2)=true
 ·rw[if_pos c] at h;cases h;cases eq_of_beq (Bool.and_eq_true_iff.mp c).1;exact e_bltB O hx hl (c_max2 O.calm) boot_max ha he hpl
 rw[if_neg c] at h;clear c
 by_cases c:(x==("min":Str)&&ps.length==1)=true
 ·rw[if_pos c] at h;cases h;cases eq_of_beq (Bool.and_eq_true_iff.mp c).1;exact e_bltB O hx hl (c_minS O.calm) boot_min ha he hpl
 rw[if_neg c] at h;clear c
 by_cases c:(x==("max":Str)&&ps.length==1)=true
 ·rw[if_pos c] at h;cases h;cases eq_of_beq (Bool.and_eq_true_iff.mp c).1;exact e_bltB O hx hl (c_maxS O.calm) boot_max ha he hpl
 rw[if_neg c] at h;clear c
 by_cases c:(x==("sorted":Str))=true
 ·rw[if_pos c] at h;cases h;cases eq_of_beq c;exact e_bltB O hx hl c_sorted boot_sorted ha he hpl
 rw[if_neg c] at h;clear c
 by_cases c:(x==("sum":Str))=true
 ·rw[if_pos c] at h;cases h;exact rd_bad fun ds=>by cases ds<;>rfl
 rw[if_neg c] at h;clear c
 by_cases c:(x==("all":Str))=true
 ·rw[if_pos c] at h;cases h;cases eq_of_beq c;exact e_bltB O hx hl (c_all O.calm) boot_all ha he hpl
 rw[if_neg c] at h;clear c
 by_cases c:(x==("list":Str))=true
 ·rw[if_pos c] at h;cases h;cases eq_of_beq c;exact e_bltT O hx hl c_list boot_list ha he hpl
 rw[if_neg c] at h;clear c
 by_cases c:(x==("tuple":Str))=true
 ·rw[if_pos c] at h;cases h;cases eq_of_beq c;exact e_bltT O hx hl c_tuple boot_tuple ha he hpl
 rw[if_neg c] at h;clear c
 by_cases c:(x==("int":Str))=true
 ·rw[if_pos c] at h;cases h;cases eq_of_beq c;exact e_bltT O hx hl c_int boot_int ha he hpl
 rw[if_neg c] at h;clear c
 by_cases c:(x==("range":Str)&&ps.length==1)=true
 ·rw[if_pos c] at h;cases h;exact rd_bad fun ds=>by cases ds<;>rfl
 rw[if_neg c] at h;clear c
 cases h
end
section
variable {X:Cx}{G:List Den}{k:Nat}{EX:Nat→Hp→Prop}
theorem s_fset {o e:Expr}{p q:PX}{c f:Str}{pos' pos:Pos} (hf:FldOk X c f) (hs:swapsWith e (some (.Attribute o f pos')) pos.line X.env=pure false) (he:PE X e (rdR X.K G EX q)) (ho:PE X o (rdE X.K G p)) :
  PS X (.Assign [.Attribute o f pos'] e pos) (rdS X.K G EX (.fset c p f q)):=by
 refine (ps_fld ho he hs).imp fun D0 σ H ⟨th,ρ,h,w,en,qq⟩=>?_
 rw[exS] at qq
 refine⟨th,ρ,h,w,en,?_⟩
 cases e1:evR G q ρ h with
 | bad=>rw[e1] at qq;exact qq
 | exc x h'=>rw[e1] at qq;exact qq
 | ok d h' =>
  rw[e1] at qq
  dsimp only at qq ⊢
  intro y H1 th1 ry w1 g1
  cases e2:ev G p ρ h' with
  | none=>rw[e2] at qq;exact qq.elim
  | some d1 =>
   obtain⟨d1,h1⟩:=d1
   rw[e2] at qq
   dsimp only at qq
   cases e3:insAt h1 c d1 with
   | none=>rw[e3] at qq;exact qq.elim
   | some r =>
    obtain⟨n,fs⟩:=r
    rw[e3] at qq
    dsimp only at qq
    by_cases hz:fs.length<1000
    ·rw[if_pos hz] at qq
     refine⟨th1,ρ,h',d1,h1,w1,en.mono g1 w1.kd,e2,fun x H2 th2 r2 w2 g2=>?_⟩
     obtain⟨a,C,dx,us,rfl,hn,hc,hH,k1,k2⟩:=w2.insAt e3 r2
     obtain⟨Ca,c1,c2,c3⟩:=hf
     rw[hc] at c1
     cases c1
     obtain⟨i1,i2⟩:=putF_rep (f:=f) (ry.mono g2 w2.kd) k1 k2
     obtain⟨w3,g3⟩:=wd_ins w2 hn hc hH i1 i2
     have hl:us.length<1000:=by
      have:=congrArg List.length k1
      simp at this
      omega
     have gg:=(g1.trans g2).trans g3
     exact⟨a,C,dx,us,rfl,hH,c2,c3,hl,qq σ _ th2 (en.mono gg w2.kd) w3 gg⟩
    ·rw[if_neg hz] at qq
     exact qq.elim
theorem s_dput {o i e:Expr}{p q r:PX}{pos' pos:Pos} (hu:X.A.units+1<cLine) (hs:swapsWith e (some (.Subscript o i pos')) pos.line X.env=pure false) (he:PE X e (rdR X.K G EX r)) (ho:PE X o (rdE X.K G p)) (hi:PE X i (rdE X.K G q)) :
  PS X (.Assign [.Subscript o i pos'] e pos) (rdS X.K G EX (.dput p q r)):=by
 refine (ps_dput hu ho hi he hs).imp fun D0 σ H ⟨th,ρ,h,w,en,qq⟩=>?_
 rw[exS] at qq
 refine⟨th,ρ,h,w,en,?_⟩
 cases e1:evR G r ρ h with
 | bad=>rw[e1] at qq;exact qq
 | exc x h'=>rw[e1] at qq;exact qq
 | ok d h' =>
  rw[e1] at qq
  dsimp only at qq ⊢
  intro y H1 th1 ry w1 g1
  cases e2:ev G p ρ h' with
  | none=>rw[e2] at qq;exact qq.elim
  | some d1 =>
   obtain⟨d1,h1⟩:=d1
   rw[e2] at qq
   dsimp only at qq
   cases e3:ev G q ρ h1 with
   | none=>rw[e3] at qq;exact qq.elim
   | some d2 =>
    obtain⟨d2,h2⟩:=d2
    rw[e3] at qq
    dsimp only at qq
    cases e4:dctW h2 d1 with
    | none=>rw[e4] at qq;exact qq.elim
    | some m =>
     obtain⟨n,kvs⟩:=m
     rw[e4] at qq
     dsimp only at qq
     by_cases hz:isK d2=true∧kvs.length<SZ
     ·rw[if_pos hz] at qq
      refine⟨th1,ρ,h',d1,h1,w1,en.mono g1 w1.kd,e2,fun x H2 th2 r2 w2 g2=>⟨th2,ρ,h1,d2,h2,w2,en.mono (g1.trans g2) w2.kd,e3,fun z H3 th3 r3 w3 g3=>?_⟩⟩
      obtain⟨a,us,rfl,hn,hH,k1,k2⟩:=w3.dctW e4 (r2.mono g3 w3.kd)
      obtain⟨kk,ek⟩:=isK_key hz.1
      cases key_rep ek r3
      obtain⟨i1,i2⟩:=put_rep ek ((ry.mono g2 w2.kd).mono g3 w3.kd) k1 k2
      obtain⟨w4,g4⟩:=wd_dict w3 hn hH i1 i2
      have hl:us.length<sizeLine:=by
       have:=congrArg List.length k1
       simp at this
       rw[SZ_eq,← this]
       exact hz.2
      have gg:=((g1.trans g2).trans g3).trans g4
      exact⟨a,_,rfl,DPut.k hH hl,qq σ _ th3 (en.mono gg w3.kd) w4 gg⟩
     ·rw[if_neg hz] at qq
      exact qq.elim
theorem meth_rd {i:Nat}{c m:Str}{p:PX}{qs:List PX}{f:Den}{Ca:Addr}{n:Nat} (hG:G[i]?=some f) (hc:PySem.W.nsIn X.K mainGlobals c=some (some (.ref Ca))) (ar:∀ ds h,f ds h≠.bad→ds.length=n) {σ:L2.St}{H:Hp}{Q:VK} (h:rdR X.K G EX (.mcall i c m p qs) σ H Q) :
  tMeth Ca m (spOf X.K X.mg n f) [] (toE X.mg EX) (rdE X.K G p) (rdA X.K G qs) σ H Q:=by
 obtain⟨th,ρ,h,w,en,e1⟩:=h
 unfold evR at e1
 dsimp only at e1
 cases q1:ev G p ρ h with
 | none=>rw[q1] at e1;exact e1.elim
 | some d1 =>
  obtain⟨d1,h1⟩:=d1
  rw[q1] at e1
  dsimp only at e1
  cases q2:insAt h1 c d1 with
  | none=>rw[q2] at e1;exact e1.elim
  | some r =>
   obtain⟨nn,fs⟩:=r
   rw[q2] at e1
   dsimp only at e1
   by_cases hl:(fs.lookup m).isNone=true
   ·rw[if_pos hl] at e1
    cases q3:evs G qs ρ h1 with
    | none=>rw[q3] at e1;exact e1.elim
    | some d2 =>
     obtain⟨ds,h2⟩:=d2
     rw[q3] at e1
     dsimp only at e1
     rw[hG] at e1
     dsimp only at e1
     refine⟨th,ρ,h,d1,h1,w,en,q1,fun x H1 th1 r1 w1 g1=>?_⟩
     obtain⟨a,C,dx,us,rfl,hn,hc',hH,k1,k2⟩:=w1.insAt q2 r1
     rw[hc] at hc'
     cases hc'
     refine⟨a,dx,us,rfl,hH,lk_none k1 (by simpa using hl),th1,ρ,h1,ds,h2,w1,en.mono g1 w1.kd,q3,fun vs H2 th2 r2 w2 g2=>?_⟩
     dsimp only
     rw[List.append_nil]
     have rr:RepVs X.K H2 th2 (d1::ds) (.ref a::vs):=.cons (r1.mono g2 w2.kd) r2
     cases ef:f (d1::ds) h2 with
     | bad=>rw[ef] at e1;exact e1.elim
     | ok d3 h3 =>
      rw[ef] at e1
      refine⟨by rw[← rr.length];exact ar _ _ (by rw[ef];intro z;cases z),th2,h2,d1::ds,w2,rr,?_⟩
      rw[ef]
      exact fun v H' th' r w' g'=>e1 v H' th' r w' ((g1.trans g2).trans g')
     | exc c' h3 =>
      rw[ef] at e1
      refine⟨by rw[← rr.length];exact ar _ _ (by rw[ef];intro z;cases z),th2,h2,d1::ds,w2,rr,?_⟩
      rw[ef]
      exact fun H' th' w' g'=>⟨c',rfl,e1 H' th' w' ((g1.trans g2).trans g')⟩
   ·rw[if_neg hl] at e1
    exact e1.elim
theorem meth_none {i:Nat}{c m:Str}{p:PX}{qs:List PX} (hG:G[i]?=none) {σ:L2.St}{H:Hp}{Q:VK} (h:rdR X.K G EX (.mcall i c m p qs) σ H Q):False:=by
 obtain⟨th,ρ,h,w,en,e1⟩:=h
 unfold evR at e1
 dsimp only at e1
 cases q1:ev G p ρ h with
 | none=>rw[q1] at e1;exact e1
 | some d1 =>
  rw[q1] at e1
  dsimp only at e1
  cases q2:insAt d1.2 c d1.1 with
  | none=>rw[q2] at e1;exact e1
  | some r =>
   rw[q2] at e1
   dsimp only at e1
   by_cases hl:(r.2.lookup m).isNone=true
   ·rw[if_pos hl] at e1
    cases q3:evs G qs ρ d1.2 with
    | none=>rw[q3] at e1;exact e1
    | some d2 =>
     rw[q3] at e1
     dsimp only at e1
     rw[hG] at e1
     exact e1
   ·rw[if_neg hl] at e1
    exact e1
theorem r_mcall {i:Nat}{c m:Str}{o e:Expr}{es:List Expr}{p:PX}{qs:List PX}{apos pos:Pos} (hM:∀ f,G[i]?=some f→MethM X k c m f) (hr:Room k X.A) (xc:XC X (toE X.mg EX))
  (hst:starEach (e::es) X.env=(false,eval e X.env)::starEach es X.env) (hpl:(backTo pos (starEach es X.env)).any (·.1)=false)
  (ht:∃ pl,eval (.Call (.Attribute o m apos) (e::es) [] pos) X.env=(do
   let ov ← eval o X.env
   standAt apos.atName
   let (f,first) ← holding [ov] (getMethod ov m pl)
   callWith pos f first (backTo pos (starEach (e::es) X.env)) (backToKw pos (keywordEach [] X.env))))
  (ho:PE X o (rdE X.K G p)) (ha:PA X (e::es) (rdA X.K G qs)):PE X (.Call (.Attribute o m apos) (e::es) [] pos) (rdR X.K G EX (.mcall i c m p qs)):=by
 cases hG:G[i]? with
 | none=>exact pe_false fun σ H Q h=>meth_none hG h
 | some f =>
  obtain⟨Ca,fa,fd,ps,h1,h2,h3,F,hb,ar⟩:=(hM f hG).ex
  obtain⟨pl,ht⟩:=ht
  exact (pe_meth (E:=toE X.mg EX) (pl:=pl) ho h2 h3 F hr hb .nil xc ha hst hpl ht).imp fun σ H Q h=>meth_rd hG h1 ar h
theorem r_mcall0 {i:Nat}{c m:Str}{o:Expr}{p:PX}{apos pos:Pos} (hM:∀ f,G[i]?=some f→MethM X k c m f) (hr:Room k X.A) (xc:XC X (toE X.mg EX))
  (ht:∃ pl,eval (.Call (.Attribute o m apos) [] [] pos) X.env=(do
   let ov ← eval o X.env
   standAt apos.atName
   let (f,first) ← holding [ov] (getMethod ov m pl)
   callWith pos f first (backTo pos (starEach [] X.env)) (backToKw pos (keywordEach [] X.env))))
  (ho:PE X o (rdE X.K G p)):PE X (.Call (.Attribute o m apos) [] [] pos) (rdR X.K G EX (.mcall i c m p [])):=by
 cases hG:G[i]? with
 | none=>exact pe_false fun σ H Q h=>meth_none hG h
 | some f =>
  obtain⟨Ca,fa,fd,ps,h1,h2,h3,F,hb,ar⟩:=(hM f hG).ex
  obtain⟨pl,ht⟩:=ht
  refine (pe_meth0 (E:=toE X.mg EX) (pl:=pl) ho h2 h3 F hr hb .nil xc ht).imp fun σ H Q h=>?_
  obtain⟨th,ρ,h0,d,h1',a1,a2,a3,a4⟩:=meth_rd hG h1 ar h
  refine⟨th,ρ,h0,d,h1',a1,a2,a3,fun v H' th' b1 b2 b3=>?_⟩
  obtain⟨a,dx,fs,c1,c2,c3,t2,ρ2,h2',ds,h3',d1,d2,d3,d4⟩:=a4 v H' th' b1 b2 b3
  have:ds=[]∧h3'=h2':=by
   unfold evs at d3
   cases d3
   exact⟨rfl,rfl⟩
  obtain⟨rfl,rfl⟩:=this
  exact⟨a,dx,fs,c1,c2,c3,d4 [] H' t2 .nil d1 (Gr.refl _ _)⟩
theorem rd_ok {i:Nat}{c m:Str}{p:PX}{qs:List PX}{σ:L2.St}{H:Hp}{Q:VK} (h:rdE X.K G (.mcall i c m p qs) σ H Q):rdR X.K G (fun _ _=>False) (.mcall i c m p qs) σ H Q:=by
 obtain⟨th,ρ,h,d,h',w,en,e1,kk⟩:=h
 rw[ev] at e1
 obtain⟨⟨d1,h1⟩,q1,e1⟩:=obs e1
 obtain⟨⟨n,fs⟩,q2,e1⟩:=obs e1
 dsimp only at q2 e1
 by_cases hl:(fs.lookup m).isNone=true
 ·rw[if_pos hl] at e1
  obtain⟨⟨ds,h2⟩,q3,e1⟩:=obs e1
  obtain⟨f,q4,e1⟩:=obs e1
  dsimp only at q3 e1
  refine⟨th,ρ,h,w,en,?_⟩
  unfold evR
  dsimp only
  rw[q1]
  dsimp only
  rw[q2]
  dsimp only
  rw[if_pos hl,q3]
  dsimp only
  rw[q4]
  dsimp only
  cases ef:f (d1::ds) h2 with
  | ok d3 h3=>rw[ef] at e1;cases e1;exact kk
  | exc _ _=>rw[ef] at e1;cases e1
  | bad=>rw[ef] at e1;cases e1
 ·rw[if_neg hl] at e1
  cases e1
theorem xc0:XC X (toE X.mg fun _ _=>False):=fun _ _ _ _ _ _ _ h=>by
 obtain⟨_,_,_,_,_,_,_,_,_,_,_,_,c,_,z⟩:=h
 exact z.elim
theorem e_mcall {i:Nat}{c m:Str}{o e:Expr}{es:List Expr}{p:PX}{qs:List PX}{apos pos:Pos} (hM:∀ f,G[i]?=some f→MethM X k c m f) (hr:Room k X.A)
  (hst:starEach (e::es) X.env=(false,eval e X.env)::starEach es X.env) (hpl:(backTo pos (starEach es X.env)).any (·.1)=false)
  (ht:∃ pl,eval (.Call (.Attribute o m apos) (e::es) [] pos) X.env=(do
   let ov ← eval o X.env
   standAt apos.atName
   let (f,first) ← holding [ov] (getMethod ov m pl)
   callWith pos f first (backTo pos (starEach (e::es) X.env)) (backToKw pos (keywordEach [] X.env))))
  (ho:PE X o (rdE X.K G p)) (ha:PA X (e::es) (rdA X.K G qs)):PE X (.Call (.Attribute o m apos) (e::es) [] pos) (rdE X.K G (.mcall i c m p qs)) :=
 (r_mcall hM hr xc0 hst hpl ht ho ha).imp fun σ H Q h=>rd_ok h
theorem e_mcall0 {i:Nat}{c m:Str}{o:Expr}{p:PX}{apos pos:Pos} (hM:∀ f,G[i]?=some f→MethM X k c m f) (hr:Room k X.A)
  (ht:∃ pl,eval (.Call (.Attribute o m apos) [] [] pos) X.env=(do
   let ov ← eval o X.env
   standAt apos.atName
   let (f,first) ← holding [ov] (getMethod ov m pl)
   callWith pos f first (backTo pos (starEach [] X.env)) (backToKw pos (keywordEach [] X.env))))
  (ho:PE X o (rdE X.K G p)):PE X (.Call (.Attribute o m apos) [] [] pos) (rdE X.K G (.mcall i c m p [])) :=
 (r_mcall0 hM hr xc0 ht ho).imp fun σ H Q h=>rd_ok h
end
section
variable {X:Cx}{G:List Den}{k:Nat}{C f:Addr}{fd:FuncData}{ps:List Str}{sp:Sp}{CX:CXT}{E:XK}
theorem run_makeN {pins:List (Addr×Obj)}{σ:L2.St}{H:Hp}{s:Shared}{Q:VK}{us:List Value}{vs:List V} (M:Mk X.K C f) (F:FnOk X.prog X.w X.K X.mg X.base CX k f fd ps sp) (hr:Room (k+1) X.A) (hb:Binds X.K fd ps [])
  (hx:Passes CX X E) (I:Inv X pins σ H s) (r:Vals vs us)
  (h:∀ x dx,H x=none→H dx=none→dx≠x→X.K.lookup x=none→sp (.ref x::vs) (upd (upd H dx (.own x)) x (.ins C dx [])) (fun v H2=>v=.non∧Q (.ref x) H2) E) :
  wpAny (model X.prog X.w) X.A (call (.ref C) us) (EP X pins σ Q) X.xe s:=by
 have hk:X.K.lookup (s.heap.objs.size+1)=none:=by
  cases e:X.K.lookup (s.heap.objs.size+1) with
  | none=>rfl
  | some o=>exact absurd (Nat.lt_trans (Nat.lt_succ_self _) (Heap.lt_size (I.kIn _ _ e))) (Nat.lt_irrefl _)
 have hq:=h (s.heap.objs.size+1) s.heap.objs.size (I.hok.fresh (Nat.le_succ _)) (I.hok.fresh (Nat.le_refl _)) (Nat.ne_of_lt (Nat.lt_succ_self _)) hk
 have I2:=Inv.made (C:=C) I
 have r2:Vals (V.ref (s.heap.objs.size+1)::vs) (Value.ref (s.heap.objs.size+1)::us):=.cons rfl r
 have hl:(Value.ref (s.heap.objs.size+1)::us++[]).length=ps.length:=by
  have e:=r2.length
  rw[F.len _ _ _ _ hq] at e
  simpa using e.symm
 have hb2:=hb { s with heap:=_ } (Value.ref (s.heap.objs.size+1)::us) I2.kIn hl
 rw[List.append_nil] at hb2
 refine wpAny_call (make_map (f:=f) I.kIn M.makes M.init (beq_iff_eq.mp M.fn) (codeAny_mono (F.run _ X.stack _ _ ⟨Value.ref (s.heap.objs.size+1)::us,[]⟩ (Value.ref (s.heap.objs.size+1)::us) _ _ E (hr.make C us [])
  (I2.env0.make C us []) hb2 r2 hq) fun r s' hq'=>?_))
 cases r with
 | error e=>exact hx pins σ _ _ e s' I2 hq'
 | ok fl =>
  cases fl with
  | ret u =>
   obtain⟨v,H',I3,rv,ev,q3⟩:=I2.after hq'
   subst ev
   exact⟨rv,⟨V.ref (s.heap.objs.size+1),H',I3,rfl,q3⟩⟩
  | next=>exact False.elim hq'
  | brk=>exact False.elim hq'
  | cont=>exact False.elim hq'
end
section
variable {X:Cx}{G:List Den}{k:Nat}
theorem make_rd {i:Nat}{c:Str}{f:Den}{Ca:Addr}{n:Nat}{th:Th}{h1 h':AH}{H H1:Hp}{ds:List D}{d:D}{vs:List V}{Q:VK}{th1:Th} (hG:G[i]?=some f) (hc:PySem.W.nsIn X.K mainGlobals c=some (some (.ref Ca))) (ar:∀ ds h,f ds h≠.bad→ds.length=n)
  (e1:(match f (.ref h1.length::ds) (h1++[.ins c []]) with | .ok .non h'=>some (D.ref h1.length,h') | _=>none)=some (d,h')) (kk:∀ v H' th',RepV X.K H' th' d v→Wd X.K th' h' H'→Gr th th' H H'→Q v H')
  (r1:RepVs X.K H1 th1 ds vs) (w1:Wd X.K th1 h1 H1) (g1:Gr th th1 H H1) (x dx:Addr) (hx:H1 x=none) (hd:H1 dx=none) (ne:dx≠x) (hk:X.K.lookup x=none) :
  spOf X.K X.mg n f (.ref x::vs) (upd (upd H1 dx (.own x)) x (.ins Ca dx [])) (fun v H2=>v=.non∧Q (.ref x) H2) E0:=by
 have hx2:upd H1 dx (.own x) x=none:=by rw[upd_ne (Ne.symm ne)];exact hx
 have w2:=w1.laid (o:=.own x) hd
 have g2:=Gr.laid (o:=HO.own x) th1 hd
 have g3:=Gr.added (o:=HO.ins Ca dx []) th1 hx2
 have w3:=w2.added (u:=.ins c []) hx2 hk ⟨Ca,dx,[],hc,upd_same,rfl,.nil⟩
 have at_:(th1++[x])[h1.length]?=some x:=by rw[← w1.len];simp
 have rr:RepVs X.K (upd (upd H1 dx (.own x)) x (.ins Ca dx [])) (th1++[x]) (.ref h1.length::ds) (.ref x::vs):=.cons (.ref at_) ((r1.mono g2 w1.kd).mono g3 w3.kd)
 cases ef:f (.ref h1.length::ds) (h1++[.ins c []]) with
 | bad=>rw[ef] at e1;cases e1
 | exc _ _=>rw[ef] at e1;cases e1
 | ok d2 h2 =>
  rw[ef] at e1
  refine⟨by rw[← rr.length];exact ar _ _ (by rw[ef];intro z;cases z),th1++[x],_,_,w3,rr,?_⟩
  rw[ef]
  cases d2 with
  | non =>
   cases e1
   intro v H' th' rv w' g'
   cases rv
   obtain⟨t,rfl⟩:=g'.pre
   refine⟨rfl,kk (.ref x) H' _ (.ref ?_) w' (((g1.trans g2).trans g3).trans g')⟩
   rw[List.getElem?_append_left (by simp[w1.len])]
   exact at_
  | _=>cases e1
theorem e_make {i:Nat}{c:Str}{e:Expr}{es:List Expr}{qs:List PX}{p pos:Pos} (hM:∀ f,G[i]?=some f→MakeM X k c f) (hr:Room (k+1) X.A) (hg:Gl X c) (hdb:(c==("__debug__":Str))=false)
  (hst:starEach (e::es) X.env=(false,eval e X.env)::starEach es X.env) (hpl:(backTo pos (starEach es X.env)).any (·.1)=false) (ha:PA X (e::es) (rdA X.K G qs)):PE X (.Call (.Name c p) (e::es) [] pos) (rdE X.K G (.make i c qs)):=by
 intro pins s σ H Q I hq
 obtain⟨th,ρ,h,d,h',w,en,e1,kk⟩:=hq
 rw[ev] at e1
 obtain⟨⟨ds,h1⟩,q1,e1⟩:=obs e1
 obtain⟨f,hG,e1⟩:=obs e1
 obtain⟨Ca,fa,fd,ps,hc,hm,M,F,hb,ar⟩:=(hM f hG).ex
 refine wpAny_Call_Name_kw (ld_glob I hg hm ?_ hdb)
 refine PySem.W.callWith_K (h₀:=X.base) I.ok.mod.kin M.kp (thn (ha pos pins s σ H (fun vs H1=>∃ th1,RepVs X.K H1 th1 ds vs∧Wd X.K th1 h1 H1∧Gr th th1 H H1) I ⟨th,ρ,h,ds,h1,w,en,q1,fun vs H1 th1 r1 w1 g1=>⟨th1,r1,w1,g1⟩⟩) fun us s1 ⟨vs,H1,I1,r,th1,r1,w1,g1⟩=>⟨I1.kIn,?_⟩) hst hpl
 exact run_makeN (E:=E0) M F hr hb passX0 I1 r fun x dx hx hd ne hk=>make_rd hG hc ar e1 kk r1 w1 g1 x dx hx hd ne hk
theorem e_make0 {i:Nat}{c:Str}{p pos:Pos} (hM:∀ f,G[i]?=some f→MakeM X k c f) (hr:Room (k+1) X.A) (hg:Gl X c) (hdb:(c==("__debug__":Str))=false):PE X (.Call (.Name c p) [] [] pos) (rdE X.K G (.make i c [])):=by
 intro pins s σ H Q I hq
 obtain⟨th,ρ,h,d,h',w,en,e1,kk⟩:=hq
 rw[ev] at e1
 obtain⟨⟨ds,h1⟩,q1,e2⟩:=obs e1
 obtain⟨f,hG,e3⟩:=obs e2
 have:ds=[]∧h1=h:=by
  unfold evs at q1
  cases q1
  exact⟨rfl,rfl⟩
 obtain⟨rfl,rfl⟩:=this
 obtain⟨Ca,fa,fd,ps,hc,hm,M,F,hb,ar⟩:=(hM f hG).ex
 refine wpAny_Call_Name_kw (ld_glob I hg hm ?_ hdb)
 exact PySem.W.callWith_K0 I.kIn M.kp (run_makeN (us:=[]) (E:=E0) M F hr hb passX0 I .nil fun x dx hx hd ne hk=>make_rd hG hc ar e3 kk .nil w (Gr.refl _ _) x dx hx hd ne hk)
end
section
variable {X:Cx}{pins:List (Addr×Obj)}{σ:L2.St}{H:Hp}{s:Shared}{a:Addr}{us:List (Key×V)}{ob:Obj}
theorem inv_freeze (I:Inv X pins σ H s) (e:H a=some (.dK us)) (ho:s.heap.get? a=some ob):Inv X pins σ (upd H a (.frz ob (.dK us))) s:=by
 have x:ObjOk X.prog X.w H s.heap a (.dK us):=I.hok a _ e
 exact I.write (x:=a) (e:=a) (o:=.frz ob (.dK us)) (h':=s.heap) (t':=s.toks) (by rw[e];trivial) (.inl rfl) (fun b u _ q=>q) ⟨ob,ho⟩ ⟨ho,x⟩
theorem inv_thaw (I:Inv X pins σ H s) (e:H a=some (.frz ob (.dK us))) (hn:∀ o u,X.H₀ a≠some (.frz o u)):Inv X pins σ (upd H a (.dK us)) s:=by
 have nz:∀ b,H b=none→b≠a:=fun b q z=>by rw[z,e] at q;cases q
 have un:=I.base
 refine⟨I.ok,I.os,I.bare,⟨un.keep,un.slot,fun b o q1 q2 q3=>?_,un.there,fun b xs q=>?_,fun b o u q=>?_,fun b ps q=>?_⟩,I.loc,I.cell,?_,fun x c q=>?_,fun p hp=>?_,fun b u q=>?_,I.len⟩
 ·have:=un.free b o q1 q2 q3
  rw[upd_ne (nz b this)]
  exact this
 ·have:=un.tups b xs q
  rw[upd_ne (ne_of this e (by intro z;cases z))]
  exact this
 ·have:=un.frzs b o u q
  have hb:b≠a:=fun z=>hn o u (z▸q)
  rw[upd_ne hb]
  exact this
 ·obtain⟨more,q2⟩:=un.tbls b ps q
  exact⟨more,by rw[upd_ne (ne_of q2 e (by intro z;cases z))];exact q2⟩
 ·rw[upd_ne (nz _ I.free)]
  exact I.free
 ·rw[upd_ne (nz _ (I.freeC x c q))]
  exact I.freeC x c q
 ·obtain⟨p1,p2,p3,p4,p5⟩:=I.pin p hp
  exact⟨p1,by rw[upd_ne (nz _ p2)];exact p2,p3,p4,p5⟩
 ·have st:∀ b,H b=some (.own b)→True:=fun _ _=>trivial
  by_cases hb:b=a
  ·subst hb
   rw[upd_same] at q
   cases q
   obtain⟨_,x⟩:=(show ObjOk X.prog X.w H s.heap b (.frz ob (.dK us)) from I.hok b _ e)
   exact x
  ·rw[upd_ne hb] at q
   refine (I.hok b u q).stay (fun _ _ _ q=>q) (fun c q=>?_) fun c xs q=>?_
   ·rw[upd_ne (ne_of q e (by intro z;cases z))];exact q
   ·rw[upd_ne (ne_of q e (by intro z;cases z))];exact q
noncomputable def Itd (a:Addr) (ob:Obj) (us:List (Key×V)):It :=
 ⟨fun i H=>H a=some (.frz ob (.dK us))∧i<us.length,fun i H x H'=>H'=H∧∃ k,(us.map (·.1))[i]?=some k∧x=kV k,fun i H=>H a=some (.frz ob (.dK us))∧us.length≤i⟩
theorem frz_at {ep:Nat}{es:Array DictEntry} (I:Inv X pins σ H s) (e:H a=some (.frz ob (.dK us))) (hd:ob.data=.dict es ep):∃ vs,KV us vs∧Heap.DictAt (mixKind X.prog X.w) s.heap a vs ep:=by
 obtain⟨h1,_,_,vs,kv,o,es',ep',q1,q2,q3,q4⟩:=(show ObjOk X.prog X.w H s.heap a (.frz ob (.dK us)) from I.hok a _ e)
 rw[h1] at q1
 cases q1
 rw[hd] at q3
 cases q3
 exact⟨vs,kv,ob,es,h1,q2,hd,q4⟩
theorem KV.nth {vs:List (Key×Value)} (r:KV us vs) {i:Nat}{p:Key×V} (e:us[i]?=some p):∃ v,vs[i]?=some (p.1,v):=by
 unfold KV at r
 induction r generalizing i with
 | nil=>simp at e
 | cons h t ih =>
  cases i with
  | zero =>
   simp at e
   subst e
   rename_i a' b' _ _
   exact⟨b'.2,by simp[h.1]⟩
  | succ j=>simpa using ih (by simpa using e)
theorem key_val {k:Key}{v:Value} (h:(mixKind X.prog X.w).is k v=true):RelV (kV k) v:=by
 rcases keyIs_shape (k:=k) (v:=v) h with ⟨i,t,rfl,rfl⟩ | ⟨x,t,rfl,rfl⟩
 ·exact⟨t,rfl⟩
 ·exact⟨t,rfl⟩
theorem turn_dict {P:Program}{w:World}{K:PySem.W.Frag}{tg:Expr} (a it:Addr) {ob:Obj}{us:List (Key×V)}{es:Array DictEntry}{ep:Nat} (hd:ob.data=.dict es ep) :
  Turn P w K tg (Itd a ob us) [it] it (fun i h=>h.IsKeyIter it a i us.length ep) where
 mem:=by simp
 obj:=fun i h st b hb=>by
  have e:b=it:=by simpa using hb
  subst e
  obtain⟨o,e,c,d⟩:=st
  exact⟨o,e,fun v z=>by rw[d] at z;cases z⟩
 keep:=fun i h h' st k=>by
  obtain⟨o,e,r⟩:=st
  exact⟨o,k it (by simp) o e,r⟩
 item:=by
  intro X hP hw hK hc i pins s σ H E I hf st hg
  subst hP hw hK
  obtain⟨e,hi⟩:=hg
  obtain⟨vs,kv,da⟩:=frz_at I e hd
  have hl:us.length=vs.length:=Paired.length kv
  obtain⟨v,hv⟩:=KV.nth kv (List.getElem?_eq_getElem hi)
  obtain⟨f0,f1,f2,f3,f4,f5⟩:=hf it (by simp)
  rw[hl] at st
  refine wpAny_pyNext_dict_item st da hv fun key h' hk st' sb=>?_
  have I1:Inv X pins σ H { s with heap:=h' }:=I.turned (t':=s.toks) (fun b o hb e=>(sb.2 b hb).trans e) f0 f1 f3 f4 f5
  obtain⟨o,e1,c,d⟩:=id st'
  rw[← hl] at st'
  exact⟨key,rfl,go_of (s:={ s with heap:=h' }) e1 c d (by decide) ⟨kV us[i].1,H,I1,key_val hk,⟨rfl,_,by rw[List.getElem?_map,List.getElem?_eq_getElem hi];rfl,rfl⟩,st',fun b hb=>(hf b hb).1⟩⟩
 done:=by
  intro X hP hw hK hc i pins s σ H E I hf st hg
  subst hP hw hK
  obtain⟨e,hi⟩:=hg
  obtain⟨vs,kv,da⟩:=frz_at I e hd
  have hl:us.length=vs.length:=Paired.length kv
  obtain⟨f0,f1,f2,f3,f4,f5⟩:=hf it (by simp)
  rw[hl] at st
  exact wpAny_pyNext_dict_end (I.ok.hd hc) st da (List.getElem?_eq_none (by omega)) fun h' eb=>⟨rfl,I.turned (t':=s.toks) (fun b o hb e=>eb b o hb e) f0 f1 f3 f4 f5⟩
 self:=fun _ _ _ _ _ st h=>wpAny_pyIter_keyiter st h
theorem pi_dict {tg l:Expr}{tl:TE} (hl:PE X l tl) :
  L2.PI X tg l (fun σ H R=>tl σ H fun x H1=>∃ a us,x=.ref a∧H1 a=some (.dK us)∧∀ ob,(∀ o u,X.H₀ a≠some (.frz o u))→R (Itd a ob us) (upd H1 a (.frz ob (.dK us)))):=by
 intro pins s σ H R I h
 refine thn (hl pins s σ H _ I h) fun v s1 ⟨x,H1,I1,r1,a,us,ex,e,q⟩=>?_
 subst ex
 cases r1
 obtain⟨hz,hS,vs,kv,ob,es,ep,q1,q2,q3,q4⟩:=(show ObjOk X.prog X.w H1 s1.heap a (.dK us) from I1.hok a _ e)
 have nf:∀ o u,X.H₀ a≠some (.frz o u):=fun o u z=>by
  have:=I1.base.frzs a o u z
  rw[e] at this
  cases this
 have hlen:us.length=vs.length:=Paired.length kv
 have da:Heap.DictAt (mixKind X.prog X.w) s1.heap a vs ep:=⟨ob,es,q1,q2,q3,q4⟩
 refine wpAny_pyIter_dict hS da ?_
 have I2:=inv_freeze I1 e q1
 have hfr:upd H1 a (.frz ob (.dK us)) s1.heap.objs.size=none:=by
  rw[upd_ne (Ne.symm (Nat.ne_of_lt (Heap.lt_size q1)))]
  exact I1.hok.fresh (Nat.le_refl _)
 refine⟨s1.heap.objs.size,[s1.heap.objs.size],_,_,_,rfl,I2.kept (t':=s1.toks) fun b o e=>Heap.get?_push_of_some _ e,turn_dict a _ q3,⟨_,Heap.get?_push_size _ rfl,rfl,by rw[hlen];rfl⟩,fun b hb=>?_,q ob nf⟩
 have e:b=s1.heap.objs.size:=by simpa using hb
 subst e
 exact I2.fpOk (Nat.le_refl _) hfr
end
section
variable {K:PySem.W.Frag}{H H2:Hp}{th th2:Th}{h:AH}{a:Addr}{ob:Obj}{us:List (Key×V)}
theorem rd_thaw {b:Addr}{u:HO} (e:H a=some (.frz ob (.dK us))) (h1:u≠.frz ob (.dK us)) (h2:u≠.dK us) (q:Rd H b u):Rd (upd H a (.dK us)) b u:=by
 rcases q with q | ⟨o,q⟩
 ·exact .inl (by rw[upd_ne (ne_of q e h1)];exact q)
 ·have hb:b≠a:=ne_of q e (fun z=>h2 (by cases z;rfl))
  exact .inr ⟨o,by rw[upd_ne hb];exact q⟩
theorem SqT.thaw {b:Addr}{xs:List V} (e:H a=some (.frz ob (.dK us))) (q:SqT K H b xs):SqT K (upd H a (.dK us)) b xs:=by
 rcases q with q | q
 ·exact .inl (rd_thaw e (fun z=>nomatch z) (fun z=>nomatch z) q)
 ·exact .inr q
theorem SqL.thaw {b:Addr}{xs:List V} (e:H a=some (.frz ob (.dK us))) (q:SqL K H b xs):SqL K (upd H a (.dK us)) b xs:=by
 rcases q with q | q
 ·exact .inl (rd_thaw e (fun z=>nomatch z) (fun z=>nomatch z) q)
 ·exact .inr q
mutual
theorem RepV.thaw (e:H a=some (.frz ob (.dK us))):∀ {d:D}{v:V},RepV K H th d v→RepV K (upd H a (.dK us)) th d v
 | _,_,.non=>.non
 | _,_,.bl b=>.bl b
 | _,_,.int i=>.int i
 | _,_,.str s=>.str s
 | _,_,.tup q r=>.tup (SqT.thaw e q) (RepVs.thaw e r)
 | _,_,.lst q n r=>.lst (SqL.thaw e q) n (RepVs.thaw e r)
 | _,_,.ref q=>.ref q
 | _,_,.fn q=>.fn q
theorem RepVs.thaw (e:H a=some (.frz ob (.dK us))):∀ {ds:List D}{vs:List V},RepVs K H th ds vs→RepVs K (upd H a (.dK us)) th ds vs
 | _,_,.nil=>.nil
 | _,_,.cons x y=>.cons (RepV.thaw e x) (RepVs.thaw e y)
end
theorem EnvR.thaw {ρ:Ev}{σ:L2.St} (e:H a=some (.frz ob (.dK us))) (en:EnvR K H th ρ σ):EnvR K (upd H a (.dK us)) th ρ σ :=
 ⟨en.len,fun i d q=>let ⟨v,q1,q2⟩:=en.val i d q;⟨v,q1,q2.thaw e⟩⟩
theorem Wd.thaw {n:Nat}{kvs:List (D×D)} (w:Wd K th h H) (hn:th[n]?=some a) (hh:h[n]?=some (.dct true kvs)) (e:H a=some (.frz ob (.dK us))):Wd K th (h.set n (.dct false kvs)) (upd H a (.dK us)):=by
 refine⟨w.nd,by simp[w.len],w.kd,fun m b x e1 e2=>?_⟩
 by_cases hmn:m=n
 ·subst hmn
  rw[hn] at e1
  cases e1
  have hlt:m<h.length:=by rw[← w.len];exact (List.getElem?_eq_some_iff.mp hn).1
  rw[List.getElem?_set_self hlt] at e2
  cases e2
  obtain⟨us',⟨ob',e'⟩,k1,k2⟩:=w.obj m a _ hn hh
  rw[e] at e'
  cases e'
  exact⟨us,upd_same,k1,k2.thaw e⟩
 ·rw[List.getElem?_set_ne (Ne.symm hmn)] at e2
  have hba:b≠a:=fun z=>by
   subst z
   exact hmn (nodup_ixA w.nd e1 hn)
  have r:=w.obj m b x e1 e2
  cases x with
  | lst ds=>obtain⟨vs,q,r⟩:=r;exact⟨vs,by rw[upd_ne hba];exact q,r.thaw e⟩
  | dct fz ks=>obtain⟨us',q,k,r⟩:=r;exact⟨us',q.eq (upd_ne hba),k,r.thaw e⟩
  | ins c fs=>obtain⟨C,dx,us',c1,q,k,r⟩:=r;exact⟨C,dx,us',c1,by rw[upd_ne hba];exact q,k,r.thaw e⟩
theorem Gr.thaw (g:Gr th th2 (upd H a (.frz ob (.dK us))) H2) (hm:a∈th) (e0:H a=some (.dK us)):Gr th th2 H (upd H2 a (.dK us)) where
 pre:=g.pre
 keep:=fun c o q n=>by
  have hc:c≠a:=fun z=>n (z▸hm)
  rw[upd_ne hc]
  exact g.keep c o (by rw[upd_ne hc];exact q) n
 tups:=fun c ys q=>by
  have hc:c≠a:=fun z=>by
   subst z
   rcases q with q | ⟨u,q⟩
   ·rw[e0] at q;cases q
   ·rw[e0] at q;cases q
  have q2:=g.tups c ys (by
   rcases q with q | ⟨u,q⟩
   ·exact .inl (by rw[upd_ne hc];exact q)
   ·exact .inr ⟨u,by rw[upd_ne hc];exact q⟩)
  rcases q2 with q | ⟨u,q⟩
  ·exact .inl (by rw[upd_ne hc];exact q)
  ·exact .inr ⟨u,by rw[upd_ne hc];exact q⟩
 new:=fun c h1 h2=>by
  have hc:c≠a:=fun z=>h2 (z▸hm)
  have:=g.new c h1 h2
  rw[upd_ne hc] at this
  exact this
 frz:=fun c o u q=>by
  have hc:c≠a:=fun z=>by
   subst z
   rw[e0] at q
   cases q
  rw[upd_ne hc]
  exact g.frz c o u (by rw[upd_ne hc];exact q)
end
section
variable {X:Cx}{C:CC}{G:List Den}{k:Nat}{EX:Nat→Hp→Prop}
theorem thaw_is {n:Nat}{h h':AH} (e:thaw n h=some h'):∃ kvs,h[n]?=some (.dct true kvs)∧h'=h.set n (.dct false kvs):=by
 unfold MP.thaw at e
 split at e
 ·rename_i kvs q
  cases e
  exact⟨kvs,q,rfl⟩
 ·cases e
theorem s_forD {tg iter:Expr}{body:List Stmt}{t:PTg}{p:PX}{b:List PSt}{pos:Pos} (hp:PassesOwn (model X.prog X.w) X.A X.env X.xe) (hc:X.calm=true) (ho:PE X iter (rdE X.K G p)) (hg:PG X tg (rdG X.K t))
  (hb:PSs X body (rdSs X.K G EX b)) (hs:∀ x,foldedSetIterable iter X.env x=pure x):PS X (.For tg iter body [] pos) (rdS X.K G EX (.forD t p b)):=by
 intro pins s σ H D0 I hq
 obtain⟨th,ρ,h,w,en,qq⟩:=hq
 rw[exS] at qq
 cases e1:ev G p ρ h with
 | none=>rw[e1] at qq;exact qq.elim
 | some d1 =>
 obtain⟨d1,h1⟩:=d1
 rw[e1] at qq
 dsimp only at qq
 cases e2:dctW h1 d1 with
 | none=>rw[e2] at qq;exact qq.elim
 | some r =>
 obtain⟨n,kvs⟩:=r
 rw[e2] at qq
 dsimp only at qq
 generalize hF:(fun (d:D) (ρ:Ev) (h:AH)=>match setT t d ρ with | some ρ'=>exSs G b ρ' h | none=>R.bad)=F at qq
 let D2:Ends:={ nx:=fun σ' H'=>∃ a ob us,H' a=some (.frz ob (.dK us))∧(∀ o u,X.H₀ a≠some (.frz o u))∧D0.nx σ' (upd H' a (.dK us)),rt:=fun v H'=>∃ a ob us,H' a=some (.frz ob (.dK us))∧(∀ o u,X.H₀ a≠some (.frz o u))∧D0.rt v (upd H' a (.dK us)),bk:=fun _ _=>False,ct:=fun _ _=>False }
 refine wpAny_mono (ps_for hp hc (pi_dict ho) hg hb hs pins s σ H D2 I ?_) (fun fl s' hs=>?_) fun e s' he=>he
 rotate_left
 ·cases fl with
  | next =>
   obtain⟨σ',H',J,a,ob,us,e,nf,q⟩:=hs
   exact⟨σ',_,inv_thaw J e nf,q⟩
  | ret u =>
   obtain⟨v,σ',H',J,rv,a,ob,us,e,nf,q⟩:=hs
   exact⟨v,σ',_,inv_thaw J e nf,rv,q⟩
  | brk=>obtain⟨_,_,_,q⟩:=hs;exact q.elim
  | cont=>obtain⟨_,_,_,q⟩:=hs;exact q.elim
 refine⟨th,ρ,h,d1,h1,w,en,e1,fun x H1 th1 r1 w1 g1=>?_⟩
 obtain⟨a,us,rfl,hn,hH,k1,k2⟩:=w1.dctW e2 r1
 have ham:a∈th1:=List.mem_of_getElem? hn
 refine⟨a,us,rfl,hH,fun ob nf=>?_⟩
 have nt:=nt_of hH (fun _ z=>nomatch z) fun _ _ z=>nomatch z
 have nff:=nf_of hH fun _ _ z=>nomatch z
 have gf:=Gr.wroteO (o:=.frz ob (.dK us)) ham nt nff
 have wf:Wd X.K th1 (h1.set n (.dct true kvs)) (upd H1 a (.frz ob (.dK us))):=w1.wroteO hn nt nff ⟨us,⟨ob,upd_same⟩,k1,k2.mono gf w1.kd⟩
 have hfz:upd H1 a (.frz ob (.dK us)) a=some (.frz ob (.dK us)):=upd_same
 have wish:∀ (r:R) (H2:Hp) (th2:Th),Gr th1 th2 (upd H1 a (.frz ob (.dK us))) H2→RK X.K EX D0 th H (thawR n r)→RK X.K EX D2 th2 H2 r:=by
  intro r H2 th2 g2 q
  cases r with
  | nx ρ' h' =>
   intro σ' H' th' e' w' g'
   cases et:MP.thaw n h' with
   | none=>rw[thawR,et] at q;exact q.elim
   | some h'' =>
    rw[thawR,et] at q
    obtain⟨kvs',hk,rfl⟩:=thaw_is et
    have gg:=g2.trans g'
    have e5:=gg.frz a ob _ hfz
    obtain⟨t',rfl⟩:=gg.pre
    have hn':(th1++t')[n]?=some a:=by rw[List.getElem?_append_left (List.getElem?_eq_some_iff.mp hn).1];exact hn
    exact⟨a,ob,us,e5,nf,q σ' _ _ (e'.thaw e5) (w'.thaw hn' hk e5) (g1.trans (gg.thaw ham hH))⟩
  | rt d' h' =>
   intro v H' th' rv w' g'
   cases et:MP.thaw n h' with
   | none=>rw[thawR,et] at q;exact q.elim
   | some h'' =>
    rw[thawR,et] at q
    obtain⟨kvs',hk,rfl⟩:=thaw_is et
    have gg:=g2.trans g'
    have e5:=gg.frz a ob _ hfz
    obtain⟨t',rfl⟩:=gg.pre
    have hn':(th1++t')[n]?=some a:=by rw[List.getElem?_append_left (List.getElem?_eq_some_iff.mp hn).1];exact hn
    exact⟨a,ob,us,e5,nf,q v _ _ (rv.thaw e5) (w'.thaw hn' hk e5) (g1.trans (gg.thaw ham hH))⟩
  | bk _ _=>exact q.elim
  | ct _ _=>exact q.elim
  | exc _ _ _=>exact q.elim
  | bad=>exact q.elim
 have klen:kvs.length=us.length:=by
  have:=congrArg List.length k1
  simpa using this
 refine⟨fun i m σ2 H2=>m=us.length - i∧i≤us.length∧∃ th2 ρ2 h2,Wd X.K th2 h2 H2∧EnvR X.K H2 th2 ρ2 σ2∧Gr th1 th2 (upd H1 a (.frz ob (.dK us))) H2∧RK X.K EX D0 th H (thawR n (forL F ((kvs.map fun q:D×D=>q.1).drop i) ρ2 h2)),⟨us.length,rfl,Nat.zero_le _,th1,ρ,_,wf,(en.mono g1 w1.kd).mono gf w1.kd,Gr.refl _ _,qq⟩,?_⟩
 rintro i m σ2 H2 ⟨rfl,hi,th2,ρ2,h2,w2,en2,g2,q2⟩
 have hf2:=g2.frz a ob _ hfz
 by_cases hlt:i<us.length
 ·refine .inr ⟨⟨hf2,hlt⟩,fun σ' H'=>∃ th3 ρ3 h3,Wd X.K th3 h3 H'∧EnvR X.K H' th3 ρ3 σ'∧Gr th1 th3 (upd H1 a (.frz ob (.dK us))) H'∧RK X.K EX D0 th H (thawR n (forL F ((kvs.map fun q:D×D=>q.1).drop (i+1)) ρ3 h3)),fun σ' H' ⟨th3,ρ3,h3,a1,a2,a3,a4⟩=>⟨us.length - (i+1),by omega,rfl,hlt,th3,ρ3,h3,a1,a2,a3,a4⟩,?_⟩
  rintro x H' ⟨rfl,kx,ek,rfl⟩
  have hki:i<(kvs.map fun q:D×D=>q.1).length:=by simpa [klen] using hlt
  have hdr:(kvs.map fun q:D×D=>q.1).drop i=(kvs.map fun q:D×D=>q.1)[i]::(kvs.map fun q:D×D=>q.1).drop (i+1):=List.drop_eq_getElem_cons hki
  have hkd:keyD (kvs.map fun q:D×D=>q.1)[i]=some kx:=by
   have h1:(kvs.map fun p=>keyD p.1)[i]?=(us.map fun p=>some p.1)[i]?:=by rw[k1]
   rw[List.getElem?_map,List.getElem?_map] at h1
   rw[List.getElem?_map] at ek
   rw[List.getElem?_eq_getElem (by simpa using hki),List.getElem?_eq_getElem hlt] at h1
   rw[List.getElem?_eq_getElem hlt] at ek
   simp at h1 ek
   rw[List.getElem_map,h1,ek]
  generalize (kvs.map fun q:D×D=>q.1)[i]=kd at hdr hkd
  have rk:RepV X.K H' th2 kd (kV kx):=by
   cases kd<;>cases hkd
   ·exact .int _
   ·exact .str _
  rw[hdr] at q2
  unfold forL at q2
  rw[← hF] at q2
  dsimp only at q2
  cases es:setT t kd ρ2 with
  | none=>rw[es] at q2;exact q2.elim
  | some ρ3 =>
   rw[es] at q2
   dsimp only at q2
   rw[hF] at q2
   refine⟨th2,ρ2,h2,kd,ρ3,w2,en2,rk,es,fun σ3 e3=>⟨th2,ρ3,h2,w2,e3,?_⟩⟩
   cases er:exSs G b ρ3 h2 with
   | nx ρ4 h4 =>
    rw[er] at q2
    intro σ5 H5 th5 e5 w5 g5
    exact⟨th5,ρ4,h4,w5,e5,g2.trans g5,q2⟩
   | ct ρ4 h4 =>
    rw[er] at q2
    intro σ5 H5 th5 e5 w5 g5
    exact⟨th5,ρ4,h4,w5,e5,g2.trans g5,q2⟩
   | bk ρ4 h4 =>
    rw[er] at q2
    exact wish (.nx ρ4 h4) H' th2 g2 q2
   | rt d4 h4 =>
    rw[er] at q2
    exact wish (.rt d4 h4) H' th2 g2 q2
   | exc _ _ _=>rw[er] at q2;exact q2.elim
   | bad=>rw[er] at q2;exact q2.elim
 ·have hle:us.length≤i:=Nat.le_of_not_lt hlt
  refine .inl ⟨⟨hf2,hle⟩,?_⟩
  rw[List.drop_eq_nil_of_le (by simpa [klen] using hle)] at q2
  unfold forL at q2
  exact wish (.nx ρ2 h2) H2 th2 g2 q2 σ2 H2 th2 en2 w2 (Gr.refl _ _)
end
section
variable {prog:Program}{w:World}{A:Around}{E:Value→Shared→Prop}{s:Shared}{S:Addr}{ep:Nat}
theorem collect_dict {Kt:Type} [DecidableEq Kt] {knd:PySem.KeyKind prog w Kt}{kvs:List (Kt×Value)}{Q:List Value→Shared→Prop} (hh:A.handled=none) (hsm:(S==sysModules)=false) (r:Heap.DictAt knd s.heap S kvs ep) (hn:kvs.length≤sizeLine)
  (hQ:∀ (vs:List Value) (s':Shared),(vs.length=kvs.length∧∀ (i:Nat) v,vs[i]?=some v→∃ k x,kvs[i]?=some (k,x)∧knd.is k v=true)→(∀ b o,s.heap.get? b=some o→s'.heap.get? b=some o)→s'.gens=s.gens→s'.os=s.os→Q vs s'):wpAny (model prog w) A (collect (.ref S)) Q E s:=by
 obtain⟨os,ess,hos,hx,hds⟩:=id r
 have hlt:S<s.heap.objs.size:=Heap.lt_size hos
 unfold collect
 refine wpAny_bind (wpAny_runValue (codeAny_builtin entry_proto_collect' ?_))
 rw[Around.under_plainId PySem.F.plain_proto_collect _]
 (show wpAny _ A.in1 (newList []>>=fun l=>again (.builtin "list.__iadd__" ⟨[l,.ref S],[]⟩)) _ _ s);refine wpAny_bind (wpAny_newObj_type ?_)
 refine wpAny_pure ⟨plainId_quiet PySem.F.plain_list_iadd _,codeAny_builtin entry_list_iadd' ?_⟩
 rw[Around.under_plainId PySem.F.plain_list_iadd _]
 generalize hH:s.heap.push { cls:=.type "list",data:=.seq ([]:List Value).toArray }=H
 have hHs:H.objs.size=s.heap.objs.size+1:=by rw[← hH,Heap.size_push]
 have kH:∀ b o,s.heap.get? b=some o→H.get? b=some o:=fun b o e=>hH▸Heap.get?_push_of_some _ e
 have hL:H.get? s.heap.objs.size=some { cls:=.type "list",data:=.seq ([]:List Value).toArray }:=hH▸Heap.get?_push_size _ rfl
 have r1:Heap.DictAt knd H S kvs ep:=⟨os,ess,kH S os hos,hx,hds⟩
 show wpAny _ A.in1 (Builtin.List.listExtendWith (.ref s.heap.objs.size) (.ref S) (.ref s.heap.objs.size)) _ _ { s with heap:=H }
 unfold Builtin.List.listExtendWith
 have hT1:Shared.TypeIs { s with heap:=H } (.ref S) "dict":=⟨os,kH S os hos,hx.1⟩
 refine wpAny_bind (wpAny_typeOf hT1 ?_)
 have h1:Builtin.List.listSameRef (.ref s.heap.objs.size) (.ref S)=false:=by simp[Builtin.List.listSameRef,Nat.ne_of_gt hlt]
 have h2:(Value.type "dict"==Value.type "list")=false:=by decide
 have h3:(Value.type "dict"==Value.type "tuple")=false:=by decide
 rw[if_neg (by rw[h1,h2,h3];simp)]
 refine wpAny_bind (wpAny_pyIter_dict (s:={ s with heap:=H }) hsm r1 ?_)
 generalize hh':H.push { cls:=Value.type "dict_keyiterator",data:=Data.fields #[Value.ref S,Value.int 0 0,Value.int (↑kvs.length) 0,Value.int (↑ep) 0] }=h'
 have k1:∀ b o,H.get? b=some o→h'.get? b=some o:=fun b o e=>hh'▸Heap.get?_push_of_some _ e
 have hSI:S≠H.objs.size:=Nat.ne_of_lt (by rw[hHs];exact Nat.lt_succ_of_lt hlt)
 have W:∀ A':Around,A'.handled=none→Walks prog w A' H.objs.size [H.objs.size,S] [H.objs.size] kvs.length (fun i v=>∃ k x,kvs[i]?=some (k,x)∧knd.is k v=true) (fun i h=>h.IsKeyIter H.objs.size S i kvs.length ep∧Heap.DictAt knd h S kvs ep):=fun A' hA=>Walks.dictKeys hA H.objs.size S hSI kvs ep
 have st0:h'.IsKeyIter H.objs.size S 0 kvs.length ep∧Heap.DictAt knd h' S kvs ep:=⟨⟨_,hh'▸Heap.get?_push_size _ rfl,rfl,rfl⟩,⟨os,ess,k1 S os (kH S os hos),hx,hds⟩⟩
 have hSf:s.heap.objs.size ∉ [H.objs.size,S]:=fun hm=>by
  simp only[List.mem_cons,List.not_mem_nil,or_false] at hm
  rcases hm with e | e
  ·rw[hHs] at e;exact absurd e (Nat.ne_of_lt (Nat.lt_succ_self _))
  ·exact absurd e (Nat.ne_of_gt hlt)
 have hL1:=k1 _ _ hL
 have hT2:Shared.TypeIs { s with heap:=h' } (.ref S) "dict":=⟨os,k1 S os (kH S os hos),hx.1⟩
 have key:∀ (h:Heap) (c₁:Nat),(h.IsKeyIter H.objs.size S 0 kvs.length ep∧Heap.DictAt knd h S kvs ep)→(∀ b o,b≠s.heap.objs.size→h'.get? b=some o→h.get? b=some o)→h.get? s.heap.objs.size=some { cls:=.type "list",data:=.seq #[] c₁ } →
   codeAny (model prog w) A (.builtin "list.extend.loop" ⟨[.ref s.heap.objs.size,.ref H.objs.size,.ref s.heap.objs.size],[]⟩) (fun q s2=>∃ (acc:Array Value) (c:Nat),q=.ok (.ret (.ref s.heap.objs.size))∧s2.heap.get? s.heap.objs.size=some { cls:=.type "list",dict:=none,data:=.seq acc c,slots:=#[] }∧(acc.toList.length=kvs.length∧∀ (i:Nat) v,acc.toList[i]?=some v→∃ k x,kvs[i]?=some (k,x)∧knd.is k v=true)∧(∀ b o,s.heap.get? b=some o→s2.heap.get? b=some o)∧s2.gens=s.gens∧s2.os=s.os) { s with heap:=h }:=fun h c₁ hst hk hS₁=>by
  refine codeAny_extend_loopS (W A.in1 hh).toS hn _ hSf _ kvs.length 0 _ #[] c₁ rfl (Nat.zero_le _) hst hS₁ (ItemsOf.nil _) fun s' acc' c' hm hS' hacc=>?_
  refine⟨acc',c',rfl,hS',⟨by simpa using hacc.1,fun i v e=>hacc.2 i v (by simpa using e)⟩,fun b o e=>hm.heap b o (fun hmem=>?_) (hk b o (Nat.ne_of_lt (Heap.lt_size e)) (k1 b o (kH b o e))),hm.gens,hm.os⟩
  have hb:=Heap.lt_size e
  rcases List.mem_cons.mp hmem with e' | hmem
  ·exact absurd hb (e'▸Nat.lt_irrefl _)
  ·have e1:b=H.objs.size:=by simpa using hmem
   rw[hHs] at e1
   rw[e1] at hb
   exact absurd hb (Nat.not_lt.mpr (Nat.le_succ _))
 have fin:∀ {c':Code}{s':Shared},c'.quiet=true→codeAny (model prog w) A c' (fun q s2=>∃ (acc:Array Value) (c:Nat),q=.ok (.ret (.ref s.heap.objs.size))∧s2.heap.get? s.heap.objs.size=some { cls:=.type "list",dict:=none,data:=.seq acc c,slots:=#[] }∧(acc.toList.length=kvs.length∧∀ (i:Nat) v,acc.toList[i]?=some v→∃ k x,kvs[i]?=some (k,x)∧knd.is k v=true)∧(∀ b o,s.heap.get? b=some o→s2.heap.get? b=some o)∧s2.gens=s.gens∧s2.os=s.os) s' →
   c'.quiet=true∧codeAny (model prog w) A c' (wants (fun a s2=>wpAny (model prog w) A (match a with
    | .ref a=>(do match (← load a).data with
     | .seq xs _=>pure xs.toList
     | _=>unsupported "internal:collect")
    | _=>unsupported "internal:collect") Q E s2) E) s':=fun hq hc=>⟨hq,codeAny_mono hc fun q s2 ⟨acc,c,e1,e2,e3,e4,e5,e6⟩=>by
   subst e1
   show wpAny _ A (load s.heap.objs.size>>=_) _ _ s2
   refine wpAny_bind (wpAny_load e2 ?_)
   exact wpAny_pure (hQ acc.toList s2 e3 e4 e5 e6)⟩
 refine wpAny_bind (wpAny_holding ?_)
 unfold Builtin.List.listLengthHint
 refine wpAny_bind (wpAny_specialOf hT2 PySem.F.slot_dict_len.lookup ?_)
 wp_delta
 refine wpAny_bind (wpAny_isInstance (b:=true) hT2 (by rw[isSubtype_type];kernel_rfl) ?_)
 (show wpAny _ A.in1 (typeOf (Value.ref S)>>=_) _ _ _);refine wpAny_bind (wpAny_typeOf hT2 ?_)
 refine wpAny_pure ?_
 refine wpAny_ite_split (fun _=>?_) (fun _=>wpAny_pure (fin (plainId_quiet PySem.F.plain_extend_loop _) (key _ _ st0 (fun b o _ e=>e) hL1)))
 refine wpAny_bind (wpAny_rule ?_)
 refine wpAny_bind ?_
 show wpAny _ _ (updateSeq s.heap.objs.size (·.push .none)>>=fun _=>updateSeq s.heap.objs.size (·.pop)) _ _ _
 refine wpAny_bind (wpAny_updateSeq hL1 rfl ?_)
 have hS₂:=Heap.get?_update_self (Obj.mapSeq (·.push Value.none)) hL1 rfl
 refine wpAny_updateSeq (hz:=by seq_fits) hS₂ rfl ?_
 have hS₃:=Heap.get?_update_self (Obj.mapSeq (·.pop)) hS₂ rfl
 refine wpAny_pure (fin (plainId_quiet PySem.F.plain_extend_loop _) (key _ _ ?_ (fun b o hb e=>?_) hS₃))
 ·refine (W A hh).frame 0 _ _ st0 fun b hb o e=>?_
  have hbS:b≠s.heap.objs.size:=fun h=>hSf (h▸hb)
  exact (Heap.get?_update_other _ _ (Ne.symm hbS)).trans ((Heap.get?_update_other _ _ (Ne.symm hbS)).trans e)
 ·exact (Heap.get?_update_other _ _ (Ne.symm hb)).trans ((Heap.get?_update_other _ _ (Ne.symm hb)).trans e)
end
section
variable {X:Cx}
theorem keys_ints {P:Program}{w:World}:∀ {l:List Int}{kvs:List (Key×Value)}{vs:List Value},kvs.map (·.1)=l.map Sum.inl→vs.length=kvs.length→(∀ (i:Nat) v,vs[i]?=some v→∃ k x,kvs[i]?=some (k,x)∧(mixKind P w).is k v=true)→IntsAre vs l
 | [],[],[],_,_,_=>.nil
 | [],[],_::_,_,h,_=>by cases h
 | [],_::_,_,h,_,_=>by cases h
 | _::_,[],_,h,_,_=>by cases h
 | _::_,_::_,[],_,h,_=>by cases h
 | i::l,(k,x)::kvs,v::vs,e,hl,h=>by
  have e1:k=Sum.inl i:=(List.cons.inj e).1
  obtain⟨k',x',q1,q2⟩:=h 0 v rfl
  have q1:some (k,x)=some (k',x'):=q1
  cases q1
  subst e1
  rcases keyIs_shape (k:=Sum.inl i) (v:=v) q2 with ⟨j,t,a1,rfl⟩ | ⟨y,t,a1,_⟩
  ·cases a1
   exact .cons i t (keys_ints (kvs:=kvs) (List.cons.inj e).2 (by simpa using hl) fun n v' q=>h (n+1) v' (by simpa using q))
  ·cases a1
theorem KV.keysEq {us:List (Key×V)}{vs:List (Key×Value)} (r:KV us vs):us.map (·.1)=vs.map (·.1):=by
 unfold KV at r
 induction r with
 | nil=>rfl
 | cons h t ih=>simp[h.1,ih]
theorem call_sortedDi (hc:X.calm=true):CallR X (.builtin "sorted") (fun xs H Q=>∃ (a:Addr) (us:List (Key×V)) (l:List Int),xs=[.ref a]∧Rd H a (.dK us)∧us.map (·.1)=l.map Sum.inl∧l.length<64∧∀ p,H p=none→Q (.ref p) (upd H p (.lst ((l.mergeSort fun x y=>decide (x≤y)).map V.int)))):=by
 intro pins s σ H xs us0 Q I r h
 obtain⟨a,us,l,rfl,hq,hk,hl,q⟩:=h
 obtain⟨u,rfl,rx⟩:=vals1 r
 cases rx
 obtain⟨hz,hd,kvs,rel,o,es,ep,dd⟩:=dk_rd I.hok hq
 have hkv:kvs.map (·.1)=l.map Sum.inl:=(KV.keysEq rel).symm.trans hk
 have hlen:kvs.length=l.length:=by simpa using congrArg List.length hkv
 refine Calls.call_function_entry kind_sorted plain_sorted entry_sorted (args_sorted1 _) ?_
 unfold Builtin.«sorted»
 refine wpAny_bind (m:=checkCount "sorted" 1 1 _) (wpAny_pure ?_)
 refine wpAny_bind (collect_dict (A:=X.A.in1) (knd:=mixKind X.prog X.w) (kvs:=kvs) (ep:=ep) (I.ok.hd hc) hd ⟨o,es,dd⟩ (by rw[SZ_eq];show kvs.length≤16777216;omega) fun vs s' pv kk hg ho=>?_)
 have i1:=keys_ints hkv pv.1 pv.2
 have hvl:vs.length=l.length:=pv.1.trans hlen
 have I1:Inv X pins σ H s':=by
  obtain⟨h',g',d',t',o'⟩:=s'
  dsimp only at hg ho kk
  subst hg ho
  exact inv_drawn (I.kept (h':=h') (t':=t') kk) d'
 refine wpAny_bind (wpAny_newList ?_ (by rw[SZ_eq];show vs.length≤16777216;omega))
 have hoL:(s'.heap.push (seqObj "list" vs.toArray 0)).get? s'.heap.objs.size=some (seqObj "list" vs.toArray 0):=Heap.get?_push_size _ rfl
 show wpAny _ _ _ _ _ { s' with heap:=s'.heap.push (seqObj "list" vs.toArray 0) }
 refine wpAny_bind (wpAny_holding (wpAny_call_entry slot_list_sort ⟨_,hoL,rfl⟩ entry_list_sort (list_sort_tree hoL i1 (by omega) fun out ns2 a1 a2 a3=>⟨_,rfl,?_⟩) (args_list_sort _)))
 refine wpAny_pure ⟨_,rfl,?_⟩
 obtain⟨e,he⟩:=sortedHeap_at (out:=out) hoL
 have es:=mergeSort_is a2 a3
 refine⟨.ref s'.heap.objs.size,_,I1.laid (t':=s'.toks) (fun b o q1=>?_) (Nat.le_refl _) (show ObjOk X.prog X.w (upd H s'.heap.objs.size (.lst (ns2.map V.int))) _ _ (.lst (ns2.map V.int)) from ⟨?_,out.toList,e,vals_ints a1,?_⟩),rfl,?_⟩
 ·have hlt:=Heap.lt_size q1
  show (sortedHeap (s'.heap.push (seqObj "list" vs.toArray 0)) s'.heap.objs.size vs out).get? b=some o
  rw[sortedHeap_old (Nat.ne_of_lt hlt) (by rw[size_push'];exact Nat.lt_succ_of_lt hlt)]
  exact Heap.get?_push_of_some _ q1
 ·rw[List.length_map,SZ_eq]
  have:=a2.length_eq
  show ns2.length≤16777216
  omega
 ·show (sortedHeap (s'.heap.push (seqObj "list" vs.toArray 0)) s'.heap.objs.size vs out).get? s'.heap.objs.size=_
  rw[he]
 ·rw[es]
  exact q _ (I1.hok.fresh (Nat.le_refl _))
theorem keys_strs {P:Program}{w:World}:∀ {l:List Str}{kvs:List (Key×Value)}{vs:List Value},kvs.map (·.1)=l.map Sum.inr→vs.length=kvs.length→(∀ (i:Nat) v,vs[i]?=some v→∃ k x,kvs[i]?=some (k,x)∧(mixKind P w).is k v=true)→StrsAre vs l
 | [],[],[],_,_,_=>.nil
 | [],[],_::_,_,h,_=>by cases h
 | [],_::_,_,h,_,_=>by cases h
 | _::_,[],_,h,_,_=>by cases h
 | _::_,_::_,[],_,h,_=>by cases h
 | i::l,(k,x)::kvs,v::vs,e,hl,h=>by
  have e1:k=Sum.inr i:=(List.cons.inj e).1
  obtain⟨k',x',q1,q2⟩:=h 0 v rfl
  have q1:some (k,x)=some (k',x'):=q1
  cases q1
  subst e1
  rcases keyIs_shape (k:=Sum.inr i) (v:=v) q2 with ⟨j,t,a1,_⟩ | ⟨y,t,a1,rfl⟩
  ·cases a1
  ·cases a1
   exact .cons i t (keys_strs (kvs:=kvs) (List.cons.inj e).2 (by simpa using hl) fun n v' q=>h (n+1) v' (by simpa using q))
theorem vals_strs:∀ {us:List Value}{l:List Str},StrsAre us l→Vals (l.map V.str) us
 | _,_,.nil=>.nil
 | _,_,.cons y t h=>.cons ⟨t,rfl⟩ (vals_strs h)
theorem strs_len:∀ {us:List Value}{l:List Str},StrsAre us l→us.length=l.length
 | _,_,.nil=>rfl
 | _,_,.cons _ _ h=>by simp[strs_len h]
theorem sort_strs {prog:Program}{w:World}{A:Around}{E:Value→Shared→Prop}{s:Shared}{a:Addr}{vs:List Value}{ss:List Str}{n:Nat}{P:PySem.Fin→Shared→Prop} (ho:s.heap.get? a=some (seqObj "list" vs.toArray n)) (hi:StrsAre vs ss) (hl:vs.length<64)
  (h:∀ (out:Array Value) (ss':List Str),StrsAre out.toList ss'→ss'.Perm ss→sortedS ss'=true→P (Fin.done (Flow.ret Value.none)) { s with heap:=sortedHeap s.heap a vs out }):wpAny (model prog w) A (Builtin.«list.sort» { pos:=[Value.ref a] }) P E s :=
 list_sort_treeK strKind_oneLt ho hi.keysOf (fun v₁ v₂ rest e=>by subst e;exact keyKind_strs hi) hl fun st' p1 p2=>by
  obtain⟨ss',a1,a2,a3⟩:=sorted_out_str hi p1 p2
  exact h _ ss' a1 a2 a3
theorem call_sortedDs (hc:X.calm=true):CallR X (.builtin "sorted") (fun xs H Q=>∃ (a:Addr) (us:List (Key×V)) (l:List Str),xs=[.ref a]∧Rd H a (.dK us)∧us.map (·.1)=l.map Sum.inr∧l.length<64∧∀ p,H p=none→∀ l',l'.Perm l→sortedS l'=true→Q (.ref p) (upd H p (.lst (l'.map V.str)))):=by
 intro pins s σ H xs us0 Q I r h
 obtain⟨a,us,l,rfl,hq,hk,hl,q⟩:=h
 obtain⟨u,rfl,rx⟩:=vals1 r
 cases rx
 obtain⟨hz,hd,kvs,rel,o,es,ep,dd⟩:=dk_rd I.hok hq
 have hkv:kvs.map (·.1)=l.map Sum.inr:=(KV.keysEq rel).symm.trans hk
 have hlen:kvs.length=l.length:=by simpa using congrArg List.length hkv
 refine Calls.call_function_entry kind_sorted plain_sorted entry_sorted (args_sorted1 _) ?_
 unfold Builtin.«sorted»
 refine wpAny_bind (m:=checkCount "sorted" 1 1 _) (wpAny_pure ?_)
 refine wpAny_bind (collect_dict (A:=X.A.in1) (knd:=mixKind X.prog X.w) (kvs:=kvs) (ep:=ep) (I.ok.hd hc) hd ⟨o,es,dd⟩ (by rw[SZ_eq];show kvs.length≤16777216;omega) fun vs s' pv kk hg ho=>?_)
 have i1:=keys_strs hkv pv.1 pv.2
 have hvl:vs.length=l.length:=pv.1.trans hlen
 have I1:Inv X pins σ H s':=by
  obtain⟨h',g',d',t',o'⟩:=s'
  dsimp only at hg ho kk
  subst hg ho
  exact inv_drawn (I.kept (h':=h') (t':=t') kk) d'
 refine wpAny_bind (wpAny_newList ?_ (by rw[SZ_eq];show vs.length≤16777216;omega))
 have hoL:(s'.heap.push (seqObj "list" vs.toArray 0)).get? s'.heap.objs.size=some (seqObj "list" vs.toArray 0):=Heap.get?_push_size _ rfl
 show wpAny _ _ _ _ _ { s' with heap:=s'.heap.push (seqObj "list" vs.toArray 0) }
 refine wpAny_bind (wpAny_holding (wpAny_call_entry slot_list_sort ⟨_,hoL,rfl⟩ entry_list_sort (sort_strs hoL i1 (by omega) fun out ns2 a1 a2 a3=>⟨_,rfl,?_⟩) (args_list_sort _)))
 refine wpAny_pure ⟨_,rfl,?_⟩
 obtain⟨e,he⟩:=sortedHeap_at (out:=out) hoL
 refine⟨.ref s'.heap.objs.size,_,I1.laid (t':=s'.toks) (fun b o q1=>?_) (Nat.le_refl _) (show ObjOk X.prog X.w (upd H s'.heap.objs.size (.lst (ns2.map V.str))) _ _ (.lst (ns2.map V.str)) from ⟨?_,out.toList,e,vals_strs a1,?_⟩),rfl,?_⟩
 ·have hlt:=Heap.lt_size q1
  show (sortedHeap (s'.heap.push (seqObj "list" vs.toArray 0)) s'.heap.objs.size vs out).get? b=some o
  rw[sortedHeap_old (Nat.ne_of_lt hlt) (by rw[size_push'];exact Nat.lt_succ_of_lt hlt)]
  exact Heap.get?_push_of_some _ q1
 ·rw[List.length_map,SZ_eq]
  have:=a2.length_eq
  show ns2.length≤16777216
  omega
 ·show (sortedHeap (s'.heap.push (seqObj "list" vs.toArray 0)) s'.heap.objs.size vs out).get? s'.heap.objs.size=_
  rw[he]
 ·exact q _ (I1.hok.fresh (Nat.le_refl _)) ns2 a2 a3
theorem call_sortedL (hc:X.calm=true):CallR X (.builtin "sorted") (fun xs H Q=>∃ (p:Addr) (l:List Str),xs=[.ref p]∧SqL X.K H p (l.map V.str)∧l.length<64∧∀ p,H p=none→∀ l',l'.Perm l→sortedS l'=true→Q (.ref p) (upd H p (.lst (l'.map V.str)))):=by
 intro pins s σ H xs us Q I r h
 obtain⟨p,l,rfl,hq,hl,q⟩:=h
 obtain⟨u,rfl,rx⟩:=vals1 r
 cases rx
 obtain⟨its,rv,pl,hz⟩:=I.list hq
 have ii:StrsAre its l:=by
  have go:∀ {l:List Str}{us:List Value},Vals (l.map V.str) us→StrsAre us l:=by
   intro l
   induction l with
   | nil=>intro us h;cases h;exact .nil
   | cons s l ih =>
    intro us h
    cases h with
    | cons r rs =>
     obtain⟨t,rfl⟩:=r
     exact .cons _ _ (ih rs)
  exact go rv
 have hlen:=strs_len ii
 refine sorted_strs pl.isList ii (by omega) fun out ss' a1 a2 a3=>?_
 obtain⟨e,he⟩:=sortedAll_at s.heap its out
 refine⟨.ref (s.heap.objs.size+1),_,I.laid (t':=s.toks) (fun b o q=>sortedAll_old q) (Nat.le_succ _) (show ObjOk X.prog X.w (upd H (s.heap.objs.size+1) (.lst (ss'.map V.str))) _ _ (.lst (ss'.map V.str)) from ⟨?_,out.toList,e,vals_strs a1,he⟩),rfl,q _ (I.hok.fresh (Nat.le_succ _)) ss' a2 a3⟩
 rw[List.length_map,SZ_eq]
 have:=a2.length_eq
 show ss'.length≤16777216
 omega
end
theorem ord_uniq {α:Type}{r:α→α→Prop} (anti:∀ a b,r a b→r b a→a=b):∀ {a b:List α},a.Perm b→a.Pairwise r→b.Pairwise r→a=b
 | [],b,p,_,_=>(List.length_eq_zero_iff.mp p.length_eq.symm).symm
 | x::a,[],p,_,_=>by have:=p.length_eq;simp at this
 | x::a,y::b,p,ha,hb=>by
  rw[List.pairwise_cons] at ha hb
  have e:x=y:=by
   have hx:x∈y::b:=p.mem_iff.mp List.mem_cons_self
   have hy:y∈x::a:=p.mem_iff.mpr List.mem_cons_self
   rcases List.mem_cons.mp hx with h | h
   ·exact h
   ·rcases List.mem_cons.mp hy with h' | h'
    ·exact h'.symm
    ·exact anti x y (ha.1 y h') (hb.1 x h)
  subst e
  rw[ord_uniq anti (List.Perm.cons_inv p) ha.2 hb.2]
theorem risingS_pairwise:∀ (l:List Str) (x:Str),risingS x l=true→(x::l).Pairwise fun a b=>a.cps.toList≤b.cps.toList
 | [],x,_=>by simp
 | y::l,x,h=>by
  rw[risingS.eq_2,Bool.and_eq_true,Bool.not_eq_true',ltCps_eq,decide_eq_false_iff_not] at h
  have ih:=risingS_pairwise l y h.2
  have hxy:x.cps.toList≤y.cps.toList:=List.not_lt.mp h.1
  rw[List.pairwise_cons]
  refine⟨fun z hz=>?_,ih⟩
  rcases List.mem_cons.mp hz with rfl | hz
  ·exact hxy
  ·exact List.le_trans hxy ((List.pairwise_cons.mp ih).1 z hz)
theorem sortedS_pairwise {l:List Str} (h:sortedS l=true):l.Pairwise fun a b=>a.cps.toList≤b.cps.toList:=by
 cases l with
 | nil=>exact .nil
 | cons x l=>exact risingS_pairwise l x h
theorem srtS_perm (l:List (List Nat)):(srtS l).Perm l:=List.mergeSort_perm _ _
theorem srtS_pairwise (l:List (List Nat)):(srtS l).Pairwise (·≤·):=by
 have:=List.pairwise_mergeSort (le:=fun a b:List Nat=>decide (a≤b)) (fun a b c h1 h2=>by simp only[decide_eq_true_eq] at *;exact List.le_trans h1 h2) (fun a b=>by simp only[Bool.or_eq_true,decide_eq_true_eq];exact List.le_total a b) l
 exact this.imp fun h=>by simpa using h
theorem srt_uniq {l:List (List Nat)}{l':List Str} (p:l'.Perm (l.map SS)) (h:sortedS l'=true):l'=(srtS l).map SS:=by
 refine ord_uniq (r:=fun a b:Str=>a.cps.toList≤b.cps.toList) (fun a b h1 h2=>?_) (p.trans ((srtS_perm l).map SS).symm) (sortedS_pairwise h) ?_
 ·have:=List.le_antisymm h1 h2
  cases a;cases b
  simp at this
  subst this
  rfl
 ·exact List.pairwise_map.mpr ((srtS_pairwise l).imp fun h=>by simpa [SS] using h)
theorem ints_keys:∀ {ks:List D}{l:List Int}{us:List (Key×V)},ints? ks=some l→ks.map keyD=us.map (fun p=>some p.1)→us.map (·.1)=l.map Sum.inl
 | [],_,[],e,_=>by cases e;rfl
 | [],_,_::_,_,h=>by cases h
 | _::_,_,[],_,h=>by cases h
 | d::ks,l,u::us,e,h=>by
  cases d with
  | int i =>
   have e:(ints? ks).map (i::·)=some l:=e
   cases q:ints? ks with
   | none=>rw[q] at e;cases e
   | some r =>
    rw[q] at e
    cases e
    have h1:some (Sum.inl i)=some u.1:=(List.cons.inj h).1
    simp[ints_keys q (List.cons.inj h).2,← Option.some.inj h1]
  | _=>cases e
theorem strs_keys:∀ {ks:List D}{l:List (List Nat)}{us:List (Key×V)},strs? ks=some l→ks.map keyD=us.map (fun p=>some p.1)→us.map (·.1)=(l.map SS).map Sum.inr
 | [],_,[],e,_=>by cases e;rfl
 | [],_,_::_,_,h=>by cases h
 | _::_,_,[],_,h=>by cases h
 | d::ks,l,u::us,e,h=>by
  cases d with
  | str i =>
   have e:(strs? ks).map (i::·)=some l:=e
   cases q:strs? ks with
   | none=>rw[q] at e;cases e
   | some r =>
    rw[q] at e
    cases e
    have h1:some (Sum.inr (SS i))=some u.1:=(List.cons.inj h).1
    have:=strs_keys q (List.cons.inj h).2
    simp only[List.map_cons]
    rw[this,← Option.some.inj h1]
  | _=>cases e
theorem RepVs.strs {K:PySem.W.Frag}{H:Hp}{th:Th}:∀ l:List (List Nat),RepVs K H th (l.map D.str) ((l.map SS).map V.str)
 | []=>.nil
 | x::l=>.cons (.str x) (RepVs.strs l)
section
variable {X:Cx}{C:CC}{G:List Den}{k:Nat}
theorem d_dlen {o:Expr}{p:PX}{np pos:Pos} (O:CtxOk X C G k) (hx:C.isBl "len"=true) (hs:starEach [o] X.env=[(false,eval o X.env)]) (ho:PE X o (rdE X.K G p)):PE X (.Call (.Name "len" np) [o] [] pos) (rdE X.K G (.dlen p)):=by
 obtain⟨g1,l1⟩:=Bool.and_eq_true_iff.mp hx
 have hc:CallR X (.builtin "len") (fun xs H Q=>∃ a kvs,xs=[V.ref a]∧Rd H a (.dK kvs)∧Q (.int kvs.length) H):=by
  intro pins s σ H xs us Q I r h
  obtain⟨a,kvs,rfl,ha,q⟩:=h
  obtain⟨u,rfl,ru⟩:=vals1 r
  cases ru
  exact d_len I ha fun t s' I'=>⟨.int kvs.length,H,I',⟨t,rfl⟩,q⟩
 refine (pe_callB hc (isGl_ok O g1).1 (O.bl _ l1) boot_len (pa_cons ho pa_nil hs) (he:=hs) (hpl:=rfl)).imp fun σ H Q ⟨th,ρ,h,d,h',w,en,e1,kk⟩=>?_
 rw[ev] at e1
 obtain⟨⟨d1,h1⟩,q1,e1⟩:=obs e1
 obtain⟨⟨n,kvs⟩,q2,e1⟩:=obs e1
 cases e1
 refine⟨th,ρ,h,d1,_,w,en,q1,fun x H1 th1 r1 w1 g1=>?_⟩
 obtain⟨a,us,rfl,hn,hH,k1,k2⟩:=w1.dctAt q2 r1
 refine⟨a,us,rfl,hH,?_⟩
 have hl:kvs.length=us.length:=by simpa using congrArg List.length k1
 have:=kk (.int kvs.length) H1 th1 (.int _) w1 g1
 rw[hl] at this
 exact this
theorem d_dsrt {o:Expr}{p:PX}{np pos:Pos} (O:CtxOk X C G k) (hx:C.isBl "sorted"=true) (hs:starEach [o] X.env=[(false,eval o X.env)]) (ho:PE X o (rdE X.K G p)):PE X (.Call (.Name "sorted" np) [o] [] pos) (rdE X.K G (.dsrt p)):=by
 obtain⟨g1,l1⟩:=Bool.and_eq_true_iff.mp hx
 refine (pe_callB (CallR.or (call_sortedDi O.calm) (call_sortedDs O.calm)) (isGl_ok O g1).1 (O.bl _ l1) boot_sorted (pa_cons ho pa_nil hs) (he:=hs) (hpl:=rfl)).imp fun σ H Q ⟨th,ρ,h,d,h',w,en,e1,kk⟩=>?_
 rw[ev] at e1
 obtain⟨⟨d1,h1⟩,q1,e1⟩:=obs e1
 obtain⟨⟨n,kvs⟩,q2,e1⟩:=obs e1
 obtain⟨d2,q3,e1⟩:=obs e1
 cases e1
 refine⟨th,ρ,h,d1,_,w,en,q1,fun x H1 th1 r1 w1 g1=>?_⟩
 obtain⟨a,us,rfl,hn,hH,k1,k2⟩:=w1.dctAt q2 r1
 have k1':(kvs.map (·.1)).map keyD=us.map (fun p=>some p.1):=by rw[List.map_map];exact k1
 unfold srtK at q3
 dsimp only at q3
 cases ei:ints? (kvs.map (·.1)) with
 | some l =>
  rw[ei] at q3
  dsimp only at q3
  by_cases hl:l.length<64
  ·rw[if_pos hl] at q3
   cases q3
   refine .inl ⟨a,us,l,rfl,hH,ints_keys ei k1',hl,fun p hp=>?_⟩
   have g:=Gr.laid (H:=H1) (o:=.lst ((l.mergeSort fun a b=>decide (a≤b)).map V.int)) th1 hp
   exact kk _ _ th1 (.lst (SqL.of upd_same) (w1.notin hp) (RepVs.ints _)) (w1.laid hp) (g1.trans g)
  ·rw[if_neg hl] at q3;cases q3
 | none =>
  rw[ei] at q3
  dsimp only at q3
  cases es:strs? (kvs.map (·.1)) with
  | none=>rw[es] at q3;cases q3
  | some l =>
   rw[es] at q3
   dsimp only at q3
   by_cases hl:l.length<64
   ·rw[if_pos hl] at q3
    cases q3
    refine .inr ⟨a,us,l.map SS,rfl,hH,strs_keys es k1',by simpa using hl,fun p hp l' p1 p2=>?_⟩
    rw[srt_uniq p1 p2]
    have g:=Gr.laid (H:=H1) (o:=.lst (((srtS l).map SS).map V.str)) th1 hp
    exact kk _ _ th1 (.lst (SqL.of upd_same) (w1.notin hp) (RepVs.strs _)) (w1.laid hp) (g1.trans g)
   ·rw[if_neg hl] at q3;cases q3
theorem d_srtT {o:Expr}{p:PX}{np pos:Pos} (O:CtxOk X C G k) (hx:C.isBl "sorted"=true) (hs:starEach [o] X.env=[(false,eval o X.env)]) (ho:PE X o (rdE X.K G p)):PE X (.Call (.Name "sorted" np) [o] [] pos) (rdE X.K G (.srtT p)):=by
 obtain⟨g1,l1⟩:=Bool.and_eq_true_iff.mp hx
 refine (pe_callB (call_sortedL O.calm) (isGl_ok O g1).1 (O.bl _ l1) boot_sorted (pa_cons ho pa_nil hs) (he:=hs) (hpl:=rfl)).imp fun σ H Q ⟨th,ρ,h,d,h',w,en,e1,kk⟩=>?_
 rw[ev] at e1
 obtain⟨⟨d1,h1⟩,q1,e1⟩:=obs e1
 dsimp only at e1
 refine⟨th,ρ,h,d1,h1,w,en,q1,fun x H1 th1 r1 w1 g1=>?_⟩
 have rw1:=r1.view w1
 cases ev1:vw h1 d1 with
 | lst xs =>
  rw[ev1] at e1 rw1
  dsimp only at e1
  obtain⟨l,q2,e1⟩:=obs e1
  by_cases hl:l.length<64
  ·rw[if_pos hl] at e1
   cases e1
   obtain⟨a,vs,rfl,q,rr⟩:=rw1.ilst
   have ev2:=strs_rep rr q2
   subst ev2
   have q':SqL X.K H1 a ((l.map SS).map V.str):=by rw[List.map_map];exact q
   refine⟨a,l.map SS,rfl,q',by simpa using hl,fun p hp l' p1 p2=>?_⟩
   rw[srt_uniq p1 p2]
   have g:=Gr.laid (H:=H1) (o:=.lst (((srtS l).map SS).map V.str)) th1 hp
   exact kk _ _ th1 (.lst (SqL.of upd_same) (w1.notin hp) (RepVs.strs _)) (w1.laid hp) (g1.trans g)
  ·rw[if_neg hl] at e1;cases e1
 | _=>rw[ev1] at e1;cases e1
end
section
variable {X:Cx}{C:CC}{G:List Den}{k:Nat}{EX:Nat→Hp→Prop}{tg:Expr}
theorem IterOf.stop0 {K:PySem.W.Frag}{H:Hp}{th:Th}{J:It}{ds:List D} (it:IterOf K H th J ds) (e:ds=[]):J.stop 0 H:=by
 cases it with
 | lst q n r=>subst e;cases r;exact⟨[],q,Nat.le_refl _⟩
 | tup q r=>subst e;cases r;exact⟨[],q,Nat.le_refl _⟩
 | str s =>
  have:s=[]:=by simpa using e
  subst this
  exact Nat.le_refl _
 | rng n =>
  have:n=0:=by simpa using e
  subst this
  exact Nat.le_refl _
theorem d_forE {tg iter:Expr}{body:List Stmt}{t:PTg}{it:PI}{pos:Pos} (S:CtxS X C G k EX) (hs:∀ x,foldedSetIterable iter X.env x=pure x) (hi:L2.PI X tg iter (rdI X.K G it)) :
  PS X (.For tg iter body [] pos) (rdS X.K G EX (.forE t it)):=by
 have hg:PG X tg (fun _ _ _ _=>False):=fun pins s σ H v u Q I r h=>h.elim
 have hb:PSs X body (fun _ _ _=>False):=fun pins s σ H D0 I h=>h.elim
 refine (ps_for S.own S.ok.calm hi hg hb hs).imp fun D0 σ H ⟨th,ρ,h,w,e,qq⟩=>?_
 unfold exS at qq
 cases e1:evI G it ρ h with
 | none=>rw[e1] at qq;exact qq.elim
 | some dd =>
  obtain⟨ds,h1⟩:=dd
  rw[e1] at qq
  dsimp only at qq
  cases ds with
  | cons=>exact qq.elim
  | nil =>
   refine⟨th,ρ,h,[],h1,w,e,e1,fun J H1 th1 itr w1 g1=>?_⟩
   refine⟨fun i m σ2 H2=>i=0∧σ2=σ∧H2=H1,⟨0,rfl,rfl,rfl⟩,?_⟩
   rintro i m σ2 H2 ⟨rfl,rfl,rfl⟩
   exact .inl ⟨itr.stop0 rfl,qq σ2 H2 th1 (e.mono g1 w1.kd) w1 g1⟩
end
noncomputable def Itdn (n:Nat):It:=⟨fun i _=>i<n+1,fun i H x H'=>H'=H∧x=.int ((n:Int) - i),fun i _=>n+1≤i⟩
theorem turn_down {P:Program}{w:World}{K:PySem.W.Frag}{tg:Expr} (it:Addr) (n:Nat):Turn P w K tg (Itdn n) [it] it (fun i h=>IsRangeIter h it ((n:Int)+(i:Nat) * (-1)) (((n+1:Nat):Int) - (i:Nat)) (-1)) where
 mem:=by simp
 obj:=fun i h st b hb=>by
  have e:b=it:=by simpa using hb
  subst e
  exact⟨_,st,fun v z=>by
   have z':Data.fields _=Data.cell v:=z
   cases z'⟩
 keep:=fun i h h' st k=>k it (by simp) _ st
 item:=by
  intro X hP hw hK hc i pins s σ H E I hf st hg
  subst hP hw hK
  obtain⟨f0,f1,f2,f3,f4,f5⟩:=hf it (by simp)
  have W:=Walks.range (prog:=X.prog) (w:=X.w) (I.ok.hd hc) it (n:Int) (-1) (n+1)
  refine W.item i s _ _ hg st fun v h' tk hv st' kk=>?_
  obtain⟨t,rfl⟩:=hv
  have I1:Inv X pins σ H { s with heap:=h',toks:=tk }:=I.turned (fun b o hb e=>kk b o (by simpa using hb) e) f0 f1 f3 f4 f5
  refine⟨_,rfl,go_of (s:={ s with heap:=h',toks:=tk }) (n:="range_iterator") st' rfl rfl (by decide) ⟨.int ((n:Int) - i),H,I1,⟨t,?_⟩,⟨rfl,rfl⟩,st',fun b hb=>(hf b hb).1⟩⟩
  congr 1
  omega
 done:=by
  intro X hP hw hK hc i pins s σ H E I hf st hg
  subst hP hw hK
  obtain⟨f0,f1,f2,f3,f4,f5⟩:=hf it (by simp)
  exact wpAny_pyNext_range_end (I.ok.hd hc) st (by have:n+1≤i:=hg;omega) fun h' eb=>⟨rfl,I.turned (t':=s.toks) (fun b o hb e=>eb b o hb e) f0 f1 f3 f4 f5⟩
 self:=fun _ _ _ _ _ st h=>wpAny_pyIter_rangeiter st h
theorem rangeSize_down (n:Nat):Builtin.Range.rangeSize (n:Int) (-1) (-1)=((n+1:Nat):Int):=by
 unfold Builtin.Range.rangeSize
 rw[if_neg (by decide),if_pos (by omega),show (-(-1:Int))=1 from rfl,Int.ediv_one]
 omega
theorem small_down {n:Nat} (h:(n:Int)<2 ^ 62):Builtin.Range.small (n:Int) (-1) (-1)=true:=by
 unfold Builtin.Range.small
 rw[rangeSize_down]
 simp only[Builtin.Range.rangeFitsLong,Bool.and_eq_true,Bool.or_eq_true,decide_eq_true_eq,beq_iff_eq,show ¬ ((-1:Int) > 0) by decide,if_false]
 omega
section
variable {X:Cx}{C:CC}{G:List Den}{k:Nat}{EX:Nat→Hp→Prop}{tg:Expr}
theorem down_it {pins:List (Addr×Obj)}{σ:St}{H:Hp}{s:Shared}{R:It→Hp→Prop}{E:Value→Shared→Prop}{n:Nat}{t u v:Tok}{tk:Nat} (I:Inv X pins σ H s) (h1:(n:Int)<2 ^ 62)
  (q:R (Itdn n) H):wpAny (model X.prog X.w) X.A (pyIter (.ref s.heap.objs.size)) (PIE X pins σ tg R) E { s with heap:=s.heap.push { cls:=.type "range",data:=.fields #[.int n t,.int (-1) u,.int (-1) v] },toks:=tk }:=by
 refine wpAny_pyIter_range (IsRange.new ..) (small_down h1) ?_
 have I1:Inv X pins σ H { s with heap:=s.heap.push { cls:=.type "range",data:=.fields #[.int n t,.int (-1) u,.int (-1) v] },toks:=tk }:=I.kept fun b o e=>Heap.get?_push_of_some _ e
 refine⟨(s.heap.push { cls:=.type "range",data:=.fields #[.int n t,.int (-1) u,.int (-1) v] }).objs.size,[(s.heap.push { cls:=.type "range",data:=.fields #[.int n t,.int (-1) u,.int (-1) v] }).objs.size],_,_,H,rfl,
  I1.kept (t':=tk) fun b o e=>Heap.get?_push_of_some _ e,turn_down _ n,?_,fun b hb=>?_,q⟩
 ·have e1:(n:Int)+((0:Nat):Int) * (-1)=n:=by simp
  have e2:((n+1:Nat):Int) - ((0:Nat):Int)=Builtin.Range.rangeSize n (-1) (-1):=by rw[rangeSize_down];simp
  show IsRangeIter _ _ ((n:Int)+((0:Nat):Int) * (-1)) (((n+1:Nat):Int) - ((0:Nat):Int)) (-1)
  rw[e1,e2]
  exact Heap.get?_push_size _ rfl
 ·have e:b=(s.heap.push { cls:=.type "range",data:=.fields #[.int n t,.int (-1) u,.int (-1) v] }).objs.size:=by simpa using hb
  subst e
  exact I1.fpOk (Nat.le_refl _) (I1.hok.fresh (Nat.le_refl _))
theorem pi_down {a b c:Expr}{ta:TA}{p pos:Pos} (hg:Gl X "range") (hm:X.mg "range"=none) (ha:PA X [a,b,c] ta) (hs:starEach [a,b,c] X.env=[(false,eval a X.env),(false,eval b X.env),(false,eval c X.env)]) (hs2:starEach [b,c] X.env=[(false,eval b X.env),(false,eval c X.env)]) :
  L2.PI X tg (.Call (.Name "range" p) [a,b,c] [] pos) (fun σ H R=>ta σ H fun vs H1=>∃ n:Nat,vs=[.int n,.int (-1),.int (-1)]∧(n:Int)<2 ^ 62∧R (Itdn n) H1):=by
 intro pins s σ H R I h
 refine Call_ (ld_blt I hg hm boot_range (PyProof.Rows.callWith_type1 (thn (ha pos pins s σ H _ I h) fun us s1 ⟨vs,H1,I1,r1,q1⟩=>?_) (by rw[hs,hs2]) (by rw[hs2];rfl)))
 obtain⟨n,e,q1,q⟩:=q1
 subst e
 cases r1 with
 | cons r rr =>
  cases rr with
  | cons r' rr =>
   cases rr with
   | cons r2 rr =>
    cases rr
    obtain⟨t,rfl⟩:=r
    obtain⟨t',rfl⟩:=r'
    obtain⟨t2,rfl⟩:=r2
    exact call_range_3 (by decide) (down_it I1 q1 q) (Or.inl (PyProof.noPylong_small (by decide)))
theorem for_down {n:Nat}{g:TG}{tb:TS}{D0:Ends}{σ:St}{H:Hp} (Pv:Nat→St→Hp→Prop) (h0:Pv 0 σ H)
  (hs:∀ i σ H,i<n+1→Pv i σ H→g (.int ((n:Int) - i)) σ H fun σ2 H2=>tb { D0 with nx:=Pv (i+1),ct:=Pv (i+1),bk:=D0.nx } σ2 H2) (hd:∀ σ H,Pv (n+1) σ H→D0.nx σ H) :
  ∃ W:Nat→Nat→St→Hp→Prop,(∃ m,W 0 m σ H)∧∀ i m σ H,W i m σ H →
   ((Itdn n).stop i H∧D0.nx σ H)∨((Itdn n).go i H∧∃ N:St→Hp→Prop,(∀ σ' H',N σ' H'→∃ m',m'<m∧W (i+1) m' σ' H')∧∀ x H',(Itdn n).yld i H x H'→g x σ H' fun σ2 H2=>tb { D0 with nx:=N,ct:=N,bk:=D0.nx } σ2 H2):=by
 refine⟨fun i m σ H=>m=n+1 - i∧i≤n+1∧Pv i σ H,⟨n+1,by simp,Nat.zero_le _,h0⟩,?_⟩
 rintro i m σ H ⟨rfl,hi,p⟩
 by_cases hlt:i<n+1
 ·refine .inr ⟨hlt,Pv (i+1),fun σ' H' p'=>⟨n+1 - (i+1),by omega,rfl,hlt,p'⟩,fun x H' y=>?_⟩
  obtain⟨e,y⟩:=y
  subst e y
  exact hs i σ _ hlt p
 ·have e:i=n+1:=by omega
  subst e
  exact .inl ⟨Nat.le_refl _,hd σ H p⟩
theorem d_forN {tg a b c:Expr}{body:List Stmt}{t:PTg}{p:PX}{bs:List PSt}{np cpos pos:Pos} (S:CtxS X C G k EX) (hx:C.isBl "range"=true) (hst:starEach [a,b,c] X.env=[(false,eval a X.env),(false,eval b X.env),(false,eval c X.env)]) (hs2:starEach [b,c] X.env=[(false,eval b X.env),(false,eval c X.env)])
  (hs3:starEach [c] X.env=[(false,eval c X.env)]) (hs:∀ x,foldedSetIterable (.Call (.Name "range" np) [a,b,c] [] cpos) X.env x=pure x) (ha:PE X a (rdE X.K G p)) (hb:PE X b (rdE X.K G (.neg (.con (.int 1))))) (hc:PE X c (rdE X.K G (.neg (.con (.int 1))))) (hg:PG X tg (rdG X.K t)) (hbs:PSs X body (rdSs X.K G EX bs)) :
  PS X (.For tg (.Call (.Name "range" np) [a,b,c] [] cpos) body [] pos) (rdS X.K G EX (.forN t p bs)):=by
 obtain⟨g1,l1⟩:=Bool.and_eq_true_iff.mp hx
 have O:=S.ok
 have hA:PA X [a,b,c] (rdA X.K G [p,.neg (.con (.int 1)),.neg (.con (.int 1))]):=a_cons ha (a_cons hb (a_cons hc a_nil hs3) (by rw[hs2,hs3])) (by rw[hst,hs2])
 refine (ps_for S.own O.calm (pi_down (isGl_ok O g1).1 (O.bl _ l1) hA hst hs2) hg hbs hs).imp fun D0 σ H ⟨th,ρ,h,w,e,qq⟩=>?_
 unfold exS at qq
 cases e1:ev G p ρ h with
 | none=>rw[e1] at qq;exact qq.elim
 | some dd =>
  obtain⟨d,h1⟩:=dd
  rw[e1] at qq
  dsimp only at qq
  cases e2:dnD d with
  | none=>rw[e2] at qq;exact qq.elim
  | some ds =>
   rw[e2] at qq
   have qq:RK X.K EX D0 th H (forL (fun d ρ h=>match setT t d ρ with | some ρ'=>exSs G bs ρ' h | none=>.bad) ds ρ h1):=qq
   obtain⟨n,rfl,hn,rfl⟩:∃ n:Nat,d=.int n∧(n:Int)<2 ^ 62∧ds=(List.range (n+1)).map fun (i:Nat)=>.int ((n:Int) - i):=by
    cases d with
    | int z =>
     rw[dnD] at e2
     by_cases hz:0≤z∧z<2 ^ 62
     ·rw[if_pos hz] at e2
      cases e2
      obtain⟨n,rfl⟩:∃ n:Nat,z=n:=⟨z.toNat,by omega⟩
      exact⟨n,rfl,hz.2,rfl⟩
     ·rw[if_neg hz] at e2;cases e2
    | _=>cases e2
   refine⟨th,ρ,h,[.int n,.int (-1),.int (-1)],h1,w,e,by simp[evs,e1,ev],fun vs H1 th1 r1 w1 g1=>?_⟩
   cases r1 with
   | cons ra rr =>
    cases rr with
    | cons rb rr =>
     cases rr with
     | cons rc rr =>
      cases rr
      cases ra
      cases rb
      cases rc
      refine⟨n,rfl,hn,?_⟩
      refine for_down (fun i σ2 H2=>∃ th2 ρ2 h2,Wd X.K th2 h2 H2∧EnvR X.K H2 th2 ρ2 σ2∧Gr th1 th2 H1 H2 ∧
        RK X.K EX D0 th2 H2 (forL (fun d ρ h=>match setT t d ρ with | some ρ'=>exSs G bs ρ' h | none=>.bad) (((List.range (n+1)).map fun (i:Nat)=>D.int ((n:Int) - i)).drop i) ρ2 h2))
       ⟨th1,ρ,h1,w1,e.mono g1 w1.kd,Gr.refl _ _,by rw[List.drop_zero];exact RK.mono g1 qq⟩ ?_ ?_
      ·rintro i σ2 H2 hi ⟨th2,ρ2,h2,w2,e2,g2,q2⟩
       have hlt:i<((List.range (n+1)).map fun (i:Nat)=>D.int ((n:Int) - i)).length:=by simpa using hi
       have hdr:((List.range (n+1)).map fun (i:Nat)=>D.int ((n:Int) - i)).drop i=.int ((n:Int) - i)::((List.range (n+1)).map fun (i:Nat)=>D.int ((n:Int) - i)).drop (i+1):=by
        rw[List.drop_eq_getElem_cons hlt,List.getElem_map,List.getElem_range]
       rw[hdr] at q2
       unfold forL at q2
       cases es:setT t (.int ((n:Int) - i)) ρ2 with
       | none=>rw[es] at q2;exact q2.elim
       | some ρ3 =>
        rw[es] at q2
        have r0:RepV X.K H2 th2 (.int ((n:Int) - i)) (.int ((n:Int) - i)):=.int _
        refine⟨th2,ρ2,h2,.int ((n:Int) - i),ρ3,w2,e2,r0,es,fun σ3 e3=>?_⟩
        refine⟨th2,ρ3,h2,w2,e3,?_⟩
        dsimp only at q2
        cases er:exSs G bs ρ3 h2 with
        | nx ρ4 h4 =>
         rw[er] at q2
         intro σ5 H5 th5 e5 w5 g5
         exact⟨th5,ρ4,h4,w5,e5,g2.trans g5,RK.mono g5 q2⟩
        | ct ρ4 h4 =>
         rw[er] at q2
         intro σ5 H5 th5 e5 w5 g5
         exact⟨th5,ρ4,h4,w5,e5,g2.trans g5,RK.mono g5 q2⟩
        | bk ρ4 h4 =>
         rw[er] at q2
         intro σ5 H5 th5 e5 w5 g5
         exact q2 σ5 H5 th5 e5 w5 g5
        | rt d4 h4=>rw[er] at q2;exact q2
        | exc _ _ _=>rw[er] at q2;exact q2
        | bad=>rw[er] at q2;exact q2.elim
      ·rintro σ2 H2 ⟨th2,ρ2,h2,w2,e2,g2,q2⟩
       rw[List.drop_eq_nil_of_le (by simp)] at q2
       exact q2 σ2 H2 th2 e2 w2 (Gr.refl _ _)
end
section
variable {X:Cx}{C:CC}{G:List Den}{k:Nat}
theorem op_repLS:OpR X (binaryOp .Mult) (fun x y H Q=>∃ l k xs,x=.ref l∧y=.int k∧SqL X.K H l xs∧(k=0∨k=1)∧∀ p,H p=none→Q (.ref p) (upd H p (.lst (List.replicate k.toNat xs).flatten))):=by
 intro pins s σ H x y v u Q I rx ry h
 obtain⟨l,k,xs,rfl,rfl,hH,hk,q⟩:=h
 cases rx
 obtain⟨t,rfl⟩:=ry
 obtain⟨its,r,pl,hz1⟩:=I.list hH
 have hl:=r.length
 have hz:xs.length * k.toNat≤sizeLine:=by
  rcases hk with rfl | rfl
  ·simp
  ·simpa using hz1
 obtain⟨⟨cls,dd,data,sl⟩,e,hc,n,hd⟩:=pl.isList
 simp only at hc hd
 subst hc hd
 have hlen:its.toArray.size * k.toNat≤sizeLine:=by rw[List.size_toArray,← hl];exact hz
 have hcap:¬ its.toArray.size * k.toNat > (2 ^ 63 - 1) / 8:=by
  have:(sizeLine:Nat)≤(2 ^ 63 - 1) / 8:=by decide
  omega
 have hfit:¬ (!Builtin.List.listFitsIndex k)=true:=by
  rw[fitsIndex_both (by omega) (by omega)]
  exact Bool.false_ne_true
 have hlong:¬ Builtin.List.listTooLong (its.toArray.size * k.toNat)=true:=by
  rw[notLongL hlen]
  exact Bool.false_ne_true
 have hnew:List.foldl (fun x1 x2=>x1++x2) #[] (List.replicate (if its.toArray.isEmpty=true then 0 else k.toNat) its.toArray)=(List.replicate k.toNat its).flatten.toArray:=by
  have f0:∀ m:Nat,List.foldl (fun x1 x2=>x1++x2) #[] (List.replicate m its.toArray)=(List.replicate m its).flatten.toArray:=fun m=>by
   have:=foldl_rep its m []
   rw[List.nil_append] at this
   exact this
  rw[f0]
  cases its with
  | nil=>simp
  | cons a r'=>rw[if_neg (by simp)]
 refine wpAny_binaryOp_repeat_ref (T:="list") (U:="int") (by decide) ⟨_,e,rfl⟩ (fun s'=>typeIs_int s' k t) noFill_list_mul PySem.F.fills_int_mul PySem.F.slot_int_rmul repeat_list PySem.F.slot_int_index.lookup
  (call_meets PySem.F.slot_int_rmul (typeIs_int s k t) PySem.F.entry_int_rmul (PySem.F.args_int_rmul_2 _ _) (lm_int_rmul_list_any k t l its.toArray n dd sl)
   ⟨e,rfl,⟨_,e,rfl⟩,call_meets PySem.F.slot_list_mul ⟨_,e,rfl⟩ PySem.F.entry_list_mul (PySem.F.args_list_mul_2 _ _) (lm_list_mul_any l its.toArray n dd sl k t hfit hcap hlong) ⟨e,?_⟩⟩)
 rw[hnew]
 exact⟨.ref _,_,I.lnew (t':=s.toks) (r.rep k.toNat) (by rw[len_rep,Nat.mul_comm];exact hz),rfl,q _ I.fresh⟩
theorem d_lrep {a b:Expr}{p q:PX}{pos:Pos} (ha:PE X a (rdE X.K G p)) (hb:PE X b (rdE X.K G q)):PE X (.BinOp a .Mult b pos) (rdE X.K G (.lrep p q)):=by
 refine (pe_op op_repLS ha hb).imp fun σ H Q ⟨th,ρ,h,d,h',w,e,e1,kk⟩=>?_
 rw[ev] at e1
 obtain⟨⟨d1,h1⟩,q1,e1⟩:=obs e1
 obtain⟨⟨d2,h2⟩,q2,e1⟩:=obs e1
 dsimp only at e1
 refine rd2 w e q1 q2 fun x y H' th' r1 r2 w' g=>?_
 have rw1:=r1.view w'
 cases ev1:vw h2 d1 with
 | lst xs =>
  rw[ev1] at e1 rw1
  cases d2 with
  | int i =>
   dsimp only at e1
   obtain⟨a,vs,rfl,sq,rr⟩:=rw1.ilst
   cases r2
   by_cases h0:i=0
   ·subst h0
    rw[if_pos rfl] at e1
    cases e1
    refine⟨a,0,vs,rfl,rfl,sq,.inl rfl,fun p hp=>?_⟩
    have g2:=Gr.laid (H:=H') (o:=.lst []) th' hp
    exact kk _ _ th' (.lst (SqL.of upd_same) (w'.notin hp) .nil) (w'.laid hp) (g.trans g2)
   ·rw[if_neg h0] at e1
    by_cases h1:i=1
    ·subst h1
     rw[if_pos rfl] at e1
     cases e1
     refine⟨a,1,vs,rfl,rfl,sq,.inr rfl,fun p hp=>?_⟩
     have g2:=Gr.laid (H:=H') (o:=.lst (List.replicate (1:Int).toNat vs).flatten) th' hp
     have e0:(List.replicate (1:Int).toNat vs).flatten=vs:=by simp
     have rr':RepVs X.K (upd H' p (.lst (List.replicate (1:Int).toNat vs).flatten)) th' xs (List.replicate (1:Int).toNat vs).flatten:=by
      have:=rr.mono g2 w'.kd
      rw[e0] at this ⊢
      exact this
     exact kk _ _ th' (.lst (SqL.of upd_same) (w'.notin hp) rr') (w'.laid hp) (g.trans g2)
    ·rw[if_neg h1] at e1;cases e1
  | _=>cases e1
 | _=>rw[ev1] at e1;cases e1
end
section
variable {X:Cx}{C:CC}{G:List Den}{k:Nat}
theorem base_ok {o:Expr} (h:noSuper o=true) (m:Str) (env:Env):attributeBase o m env (eval o env)=eval o env:=by
 cases o with
 | Call f as ks p =>
  cases as with
  | nil =>
   cases ks with
   | nil=>cases h
   | cons _ _=>cases f<;>rfl
  | cons _ _=>cases f<;>cases ks<;>rfl
 | _=>rfl
theorem few1 {a:Expr}{env:Env}{cpos:Pos} (hs:starEach [a] env=[(false,eval a env)]):((backTo cpos (starEach [a] env)).all (fun x=>!x.1)&&(backToKw cpos (keywordEach [] env)).all (fun x=>x.1.isSome)
   && decide ([a].length+([]:List Keyword).length+(if ([]:List Keyword).isEmpty then 0 else 1)<30))=true:=by
 rw[hs];rfl
theorem rd_mt {m:Mt}{T:String}{o:PX}{ps:List PX}{r:V→List V→Hp→VK→Prop} (hT:∀ d v H th ds,mtD m d ds≠none→RepV X.K H th d v→tyV X.K T v H)
  (hr:∀ (x:V) (xs:List V) (H:Hp) (Q:VK) (th:Th) (h:AH) (d0 d:D) (ds:List D),Wd X.K th h H→RepV X.K H th d0 x→RepWs X.K H th ds xs→mtD m d0 ds=some d→(∀ v H',RepV X.K H' th d v→Wd X.K th h H'→Gr th th H H'→Q v H')→r x xs H Q)
  {σ:St}{H:Hp}{Q:VK} (h:rdE X.K G (.mt m o ps) σ H Q):tBM X.K T r (rdE X.K G o) (rdA X.K G ps) σ H Q:=by
 obtain⟨th,ρ,h,d,h',w,en,e1,kk⟩:=h
 unfold ev at e1
 obtain⟨⟨d1,h1⟩,q1,e1⟩:=obs e1
 obtain⟨⟨ds,h2⟩,q2,e1⟩:=obs e1
 obtain⟨d3,q3,e1⟩:=obs e1
 cases e1
 refine⟨th,ρ,h,d1,h1,w,en,q1,fun x H1 th1 r1 w1 g1=>⟨?_,th1,ρ,h1,ds,_,w1,en.mono g1 w1.kd,q2,fun xs H2 th2 r2 w2 g2=>?_⟩⟩
 ·exact hT d1 x H1 th1 _ (by rw[q3];simp) r1
 ·exact hr x xs H2 Q th2 _ _ _ _ w2 (r1.mono g2 w2.kd) (r2.views w2) q3 fun v H' r w' g'=>kk v H' th2 r w' ((g1.trans g2).trans g')
theorem join_eq (sep:List Nat):∀ l:List (List Nat),Txt.join (SS sep) (l.map SS)=SS (joinD sep l):=by
 intro l
 show Builtin.Str.glued (SS sep) (l.map SS)=_
 rw[StrLaws.glued_eq_join]
 induction l with
 | nil=>rfl
 | cons x l ih =>
  cases l with
  | nil=>rfl
  | cons y r =>
   show SS x++SS sep++Str.join (SS sep) ((y::r).map SS)=_
   rw[ih,SS_append,SS_append]
   rfl
theorem strsAre_of {l:List (List Nat)}:∀ {us:List Value},Vals (l.map fun s=>V.str (SS s)) us→StrsAre us (l.map SS):=by
 induction l with
 | nil=>intro us h;cases h;exact .nil
 | cons s l ih =>
  intro us h
  cases h with
  | cons r rs =>
   obtain⟨t,rfl⟩:=r
   exact .cons _ _ (ih rs)
theorem m_join {o a:Expr}{po pa:PX}{apos cpos:Pos} (hb:noSuper o=true) (hl:(apos.endLine==cpos.line)=true) (ho:PE X o (rdE X.K G po)) (ha:PE X a (rdE X.K G pa)) (hs:starEach [a] X.env=[(false,eval a X.env)]) :
  PE X (.Call (.Attribute o "join" apos) [a] [] cpos) (rdE X.K G (.mt .join po [pa])):=by
 refine (pe_bm (r:=fun x xs H Q=>∃ (z:List Nat) (p:Addr) (l:List (List Nat)),x=.str (SS z)∧xs=[.ref p]∧SqL X.K H p (l.map fun s=>V.str (SS s))∧(l.map List.length).sum+l.length * z.length≤SZ∧Q (.str (SS (joinD z l))) H)
  PySem.F.plainAttrs_str PySem.F.slot_str_join PySem.F.type_str_join ?_ ho (a_cons ha a_nil hs) (base_ok hb _ _) (few1 hs) hl hs rfl).imp fun σ H Q h=>rd_mt ?_ ?_ h
 ·intro pins s σ H x xs v us Q I rx rs h
  obtain⟨z,p,l,rfl,rfl,q,hz,qq⟩:=h
  obtain⟨t,rfl⟩:=rx
  obtain⟨u,rfl,ru⟩:=vals1 rs
  cases ru
  obtain⟨its,rv,pl,_⟩:=I.list q
  refine join_list (ys:=l.map SS) pl.isList (by simpa using strsAre_of rv) ?_ fun t' k'=>?_
  ·rw[List.map_map]
   have e:(l.map ((fun x:Str=>x.length) ∘ SS))=l.map List.length:=List.map_congr_left fun s _=>SS_length s
   rw[e,List.length_map,SS_length]
   exact hz
  ·rw[join_eq]
   exact⟨.str _,H,I.tok _,⟨t',rfl⟩,qq⟩
 ·intro d v H th ds hn r
  cases d with
  | str z=>cases r;exact rfl
  | _=>exact absurd rfl hn
 ·intro x xs H Q th h d0 d ds w r0 rs e kk
  cases d0 with
  | str z =>
   cases rs with
   | nil=>cases e
   | cons r1 rs =>
    cases rs with
    | cons _ _=>rename_i d1 _ _ _ _ _ _ _;cases d1<;>cases e
    | nil =>
     rename_i d1 v1
     cases d1 with
     | lst y =>
      have e:((strs? y).bind fun l=>if (l.map List.length).sum+l.length * z.length≤SZ then some (D.str (joinD z l)) else none)=some d:=e
      obtain⟨l,e1,e2⟩:=obs e
      split at e2
      ·rename_i hz
       cases e2
       cases r0
       obtain⟨a,vs,rfl,q,rr⟩:=r1.ilst
       have ev:=strs_rep rr e1
       subst ev
       exact⟨z,a,l,rfl,rfl,q,hz,kk _ H (.str _) w (Gr.refl _ _)⟩
      ·cases e2
     | _=>cases e
  | _=>cases e
theorem m_append {o a:Expr}{po pa:PX}{apos cpos:Pos} (hb:noSuper o=true) (hl:(apos.endLine==cpos.line)=true) (ho:PE X o (rdE X.K G po)) (ha:PE X a (rdE X.K G pa)) (hs:starEach [a] X.env=[(false,eval a X.env)]) :
  PE X (.Call (.Attribute o "append" apos) [a] [] cpos) (rdE X.K G (.app po pa)):=by
 refine (pe_bm PySem.F.plainAttrs_list PySem.F.slot_list_append PySem.F.type_list_append mt_append ho (a_cons ha a_nil hs) (base_ok hb _ _) (few1 hs) hl hs rfl).imp fun σ H Q h=>?_
 obtain⟨th,ρ,h,d,h',w,en,e1,kk⟩:=h
 unfold ev at e1
 obtain⟨⟨d1,h1⟩,q1,e1⟩:=obs e1
 dsimp only at e1
 cases d1 with
 | ref n =>
  dsimp only at e1
  cases g1:h1[n]? with
  | none=>rw[g1] at e1;cases e1
  | some o1 =>
   rw[g1] at e1
   cases o1 with
   | lst xs1 =>
    dsimp only at e1
    obtain⟨⟨d2,h2⟩,q2,e1⟩:=obs e1
    dsimp only at e1
    cases g2:h2[n]? with
    | none=>rw[g2] at e1;cases e1
    | some o2 =>
     rw[g2] at e1
     cases o2 with
     | lst xs =>
      dsimp only at e1
      split at e1
      ·rename_i hz
       cases e1
       refine⟨th,ρ,h,_,h1,w,en,q1,fun x H1 th1 r1 w1 gr1=>?_⟩
       cases r1 with
       | ref ea =>
        rename_i aa
        obtain⟨vs1,ev1,rv1⟩:=w1.obj n aa _ ea g1
        refine⟨.inl ⟨rfl,vs1,SqL.of ev1⟩,th1,ρ,h1,[d2],h2,w1,en.mono gr1 w1.kd,by unfold evs;rw[q2];rfl,fun vs H2 th2 r2 w2 gr2=>?_⟩
        cases r2 with
        | cons ra rs =>
         cases rs
         rename_i va
         have ea2:th2[n]?=some aa:=by
          obtain⟨t,rfl⟩:=gr2.pre
          rw[List.getElem?_append_left (List.getElem?_eq_some_iff.mp ea).1]
          exact ea
         obtain⟨vs2,ev2,rv2⟩:=w2.obj n aa _ ea2 g2
         have hm:=List.mem_of_getElem? ea2
         have gw:=Gr.wrote (H:=H2) (o:=.lst (vs2++[va])) hm ev2
         refine⟨aa,vs2,_,rfl,rfl,ev2,by rw[← rv2.length,SZ_eq];exact hz,kk .non _ th2 .non (w2.wrote ea2 ev2 ⟨_,upd_same,?_⟩) ((gr1.trans gr2).trans gw)⟩
         exact (rv2.append (.cons ra .nil)).mono gw w2.kd
      ·cases e1
     | _=>cases e1
   | _=>cases e1
 | _=>cases e1
noncomputable def tyName:Ty→Option String
 | .bool=>some "bool" | .tuple=>some "tuple" | .list=>some "list"
 | _=>none
theorem isi_ok {T:String}{ty:Ty} (hT:tyName ty=some T):CallR X (.builtin "isinstance") (fun xs H Q=>∃ x th h d b,xs=[x,.ty T]∧Wd X.K th h H∧RepW X.K H th d x∧isiD d ty=some b∧Q (.bl b) H):=by
 intro pins s σ H xs us Q I r h
 obtain⟨x,th,ah,d,b,rfl,w,rx,e,q⟩:=h
 obtain⟨u,c,rfl,ru,rc⟩:=vals2 r
 cases rc
 have fin:∀ tk,EP X pins σ Q (.bool b) { s with toks:=tk }:=fun tk=>⟨.bl b,H,I.tok _,rfl,q⟩
 have key:∀ (t:String),(∀ bb,isiD d ty=some bb→PySem.W.kitOne X.K (.type t) (.type T)=some bb)→∀ {HH},PySem.W.KitX X.K u (.type t) HH→HH s.heap→(u≠.builtin "__main__.__loader__#opaque") →
   wpAny (model X.prog X.w) X.A (call (.builtin "isinstance") [u,.type T]) (EP X pins σ Q) X.xe s:=fun t ht HH Z hp hx=>PySem.W.kia_one Z I.kIn hp (ht b e) hx fin
 cases d with
 | non =>
  cases rx.inon;cases ru
  refine key "NoneType" ?_ PySem.W.kitx_none True.intro (fun z=>nomatch z)
  intro bb e';cases ty<;>cases hT<;>cases e'<;>rfl
 | bl y =>
  cases rx.ibl;cases ru
  refine key "bool" ?_ PySem.W.kitx_bool True.intro (fun z=>nomatch z)
  intro bb e';cases ty<;>cases hT<;>cases e'<;>rfl
 | int y =>
  cases rx.iint;obtain⟨t,rfl⟩:=ru
  refine key "int" ?_ PySem.W.kitx_int True.intro (fun z=>nomatch z)
  intro bb e';cases ty<;>cases hT<;>cases e'<;>rfl
 | str y =>
  cases rx.istr;obtain⟨t,rfl⟩:=ru
  refine key "str" ?_ PySem.W.kitx_str True.intro (fun z=>nomatch z)
  intro bb e';cases ty<;>cases hT<;>cases e'<;>rfl
 | tup y =>
  obtain⟨a,vs,rfl,qq,rr⟩:=rx.itup
  cases ru
  obtain⟨its,vv,⟨o,ho,hc,_⟩,hz⟩:=I.tuple qq
  refine key "tuple" ?_ PySem.W.kitx_tuple ⟨o,ho,hc⟩ (fun z=>nomatch z)
  intro bb e';cases ty<;>cases hT<;>cases e'<;>rfl
 | lst y =>
  obtain⟨a,vs,rfl,qq,rr⟩:=rx.ilst
  cases ru
  obtain⟨its,vv,pl,hz⟩:=I.list qq
  obtain⟨o,ho,hc,_⟩:=pl.isList
  refine key "list" ?_ PySem.W.kitx_list ⟨o,ho,hc⟩ (fun z=>nomatch z)
  intro bb e';cases ty<;>cases hT<;>cases e'<;>rfl
 | _=>cases ty<;>cases e
theorem e_isi {a:Expr}{p:PX}{t x:Str}{ty:Ty}{np tp pos:Pos} (O:CtxOk X C G k) (hx:x="isinstance") (hb:C.isBl x=true) (ha:PE X a (rdE X.K G p)) (ht:tyOf C t=some ty) (hs:starEach [a,.Name t tp] X.env=(false,eval a X.env)::starEach [.Name t tp] X.env) :
  PE X (.Call (.Name x np) [a,.Name t tp] [] pos) (rdE X.K G (.isi p ty)):=by
 subst hx
 unfold CC.isBl at hb
 rw[Bool.and_eq_true] at hb
 obtain⟨g,pl⟩:=isGl_ok O hb.1
 obtain⟨h4,h5,h6⟩:=plain_debug pl
 unfold tyOf at ht
 split at ht
 ·rename_i hbl
  unfold CC.isBl at hbl
  rw[Bool.and_eq_true] at hbl
  obtain⟨g2,pl2⟩:=isGl_ok O hbl.1
  obtain⟨i4,i5,i6⟩:=plain_debug pl2
  have go:∀ (T:String),tyName ty=some T→bootBuiltins t=some (.type T)→PE X (.Call (.Name "isinstance" np) [a,.Name t tp] [] pos) (rdE X.K G (.isi p ty)):=by
   intro T hT hv
   have hn:PE X (.Name t tp) (tC (.ty T)):=pe_bltn g2 (O.bl t hbl.2) hv rfl i6 i4
   refine (pe_callB (isi_ok hT) g (O.bl _ hb.2) boot_isinstance (pa_cons ha (pa_cons hn pa_nil rfl) hs) h6 h4 hs rfl).imp fun σ H Q h=>?_
   obtain⟨th,ρ,h,d,h',w,en,e1,kk⟩:=h
   unfold ev at e1
   obtain⟨⟨d1,h1⟩,q1,e1⟩:=obs e1
   obtain⟨b,q2,e1⟩:=obs e1
   cases e1
   exact⟨th,ρ,h,d1,_,w,en,q1,fun v H1 th1 r1 w1 g1=>⟨v,th1,_,_,b,rfl,w1,r1.view w1,q2,kk _ H1 th1 (.bl _) w1 g1⟩⟩
  split at ht
  ·rename_i c;cases ht;cases eq_of_beq c;exact go "bool" rfl (by decide +kernel)
  split at ht
  ·rename_i c;cases ht;cases eq_of_beq c;exact go "tuple" rfl (by decide +kernel)
  split at ht
  ·rename_i c;cases ht;cases eq_of_beq c;exact go "list" rfl (by decide +kernel)
  ·cases ht
 ·cases ht
end
theorem codeAny_compLoop_go {prog:Program}{w:World}{A:Around}{R:Result→Shared→Prop}{s:Shared}{elt target iter:Expr}{ifs:List Expr}{scope:Scope}{pos:Pos}{it acc:Value}{env:Env} (I:Nat→Shared→Prop)
  (turn:∀ n s,I n s→wpAny (model prog w) A (pyNext it) (fun r s₁=>match r with
   | none=>R (.ok .next) s₁
   | some v=>wpAny (model prog w) A (letOwnedTupleGo target it v) (fun _ s₁=>wpAny (model prog w) A (assign target env v) (fun _ s₂ =>
     wpAny (model prog w) A (forIn ifs true fun c r=>if r=true then do let ok ← isTrue c env (eval c env);pure (ForInStep.yield ok) else pure (ForInStep.yield r)) (fun ok s₃ =>
      if ok=true then wpAny (model prog w) A (eval elt env) (fun x s₄ =>
       wpAny (model prog w) A (call (.builtin "list.append") [acc,x]) (fun _ s₅=>∃ m,m<n∧I m s₅) (notedBy (model prog w) A env fun e s'=>R (.error e) s') s₄) (notedBy (model prog w) A env fun e s'=>R (.error e) s') s₃
      else ∃ m,m<n∧I m s₃) (notedBy (model prog w) A env fun e s'=>R (.error e) s') s₂) (notedBy (model prog w) A env fun e s'=>R (.error e) s') s₁) (notedBy (model prog w) A env fun e s'=>R (.error e) s') s₁) (notedBy (model prog w) A env fun e s'=>R (.error e) s') s)
  (n:Nat) (h:I n s) :
  codeAny (model prog w) A (.compLoop (.ListComp elt [⟨target,iter,ifs,0⟩] scope pos) 0 it acc env) R s:=by
 refine codeAny_loop rfl I (fun n s hI=>?_) n h
 show wpAny _ A ((compTurn (.ListComp elt [⟨target,iter,ifs,0⟩] scope pos) 0 it acc env).onRaise (fun x=>do noteFrame x env;theTreesLotGoes x)) _ _ s
 refine wpAny_noted ?_
 rw[compTurn_list]
 refine wpAny_bind (wpAny_standAt (wpAny_bind (wpAny_mono (turn n s hI) (fun r s₁ h₁=>?_) fun _ _ h'=>h')))
 cases r with
 | none=>exact wpAny_pure h₁
 | some v =>
  refine wpAny_bind (wpAny_mono h₁ (fun _ s₁ h₁=>?_) fun _ _ h'=>h')
  refine wpAny_bind (wpAny_mono h₁ (fun _ s₂ h₂=>wpAny_bind (wpAny_mono h₂ (fun ok s₃ h₃=>?_) fun _ _ h'=>h')) fun _ _ h'=>h')
  cases ok with
  | true =>
   rw[if_pos rfl] at h₃
   rw[if_pos rfl]
   exact wpAny_bind (wpAny_bind (wpAny_mono h₃ (fun x s₄ h₄=>wpAny_bind (wpAny_mono h₄ (fun _ s₅ h₅=>wpAny_pure (wpAny_pure ⟨rfl,h₅⟩)) fun _ _ h'=>h')) fun _ _ h'=>h'))
  | false =>
   rw[if_neg Bool.false_ne_true] at h₃
   rw[if_neg Bool.false_ne_true]
   exact wpAny_pure ⟨rfl,h₃⟩
noncomputable def cloFold (cells:List (Str×Addr)):List (Str×NameKind)→List (Str×Addr)→List (Str×Addr)
 | [],acc=>acc
 | (n,q)::r,acc=>if q==.free then cloFold cells r ((n,(cells.lookup n).getD 0)::acc) else cloFold cells r acc
theorem closureFor_eq {scope:Scope}{env:Env} (h:∀ y∈scope.names,y.2=.free→∃ c,env.cells.lookup y.1=some c):closureFor scope env=pure (cloFold env.cells scope.names []):=by
 unfold closureFor
 have go:∀ (names:List (Str×NameKind)) (acc:List (Str×Addr)),(∀ y∈names,y.2=.free→∃ c,env.cells.lookup y.1=some c) →
   (forIn names acc fun (x:Str×NameKind) (r:List (Str×Addr))=>if (x.2==NameKind.free)=true then do let __do_lift ← cellOf env x.1;pure (ForInStep.yield ((x.1,__do_lift)::r)) else pure (ForInStep.yield r):Sem (List (Str×Addr)))=pure (cloFold env.cells names acc):=by
  intro names
  induction names with
  | nil=>intro acc _;rfl
  | cons y r ih =>
   intro acc hy
   obtain⟨n,q⟩:=y
   rw[List.forIn_cons]
   by_cases hq:q=.free
   ·subst hq
    obtain⟨c,hc⟩:=hy (n,.free) List.mem_cons_self rfl
    have e:cellOf env n=pure c:=by unfold cellOf;rw[hc]
    have e2:cloFold env.cells ((n,NameKind.free)::r) acc=cloFold env.cells r ((n,c)::acc):=by
     have hc':env.cells.lookup n=some c:=hc
     simp[cloFold,hc']
    rw[e2]
    simp only[beq_self_eq_true,if_true,e]
    exact ih ((n,c)::acc) fun y h1 h2=>hy y (List.mem_cons_of_mem _ h1) h2
   ·have hf:(q==NameKind.free)=false:=by simpa using hq
    have e2:cloFold env.cells ((n,q)::r) acc=cloFold env.cells r acc:=by simp[cloFold,hf]
    rw[e2]
    simp only[hf,Bool.false_eq_true,if_false]
    exact ih acc fun y h1 h2=>hy y (List.mem_cons_of_mem _ h1) h2
 show (forIn scope.names [] _>>=fun r=>pure r)=_
 rw[go scope.names [] h]
 rfl
theorem cloFold_lookup (cells:List (Str×Addr)) (x:Str):∀ (names:List (Str×NameKind)) (acc:List (Str×Addr)),(names.map (·.1)).Nodup →
  (cloFold cells names acc).lookup x=if (x,NameKind.free)∈names then some ((cells.lookup x).getD 0) else acc.lookup x:=by
 intro names
 induction names with
 | nil=>intro acc _;simp[cloFold]
 | cons y r ih =>
  intro acc nd
  obtain⟨n,q⟩:=y
  rw[List.map_cons,List.nodup_cons] at nd
  by_cases hq:q=.free
  ·subst hq
   have e0:cloFold cells ((n,NameKind.free)::r) acc=cloFold cells r ((n,(cells.lookup n).getD 0)::acc):=by simp[cloFold]
   rw[e0,ih _ nd.2]
   by_cases hx:x=n
   ·subst hx
    have:¬ ((x,NameKind.free)∈r):=fun h=>nd.1 (List.mem_map.mpr ⟨_,h,rfl⟩)
    rw[if_neg this,if_pos List.mem_cons_self]
    simp[List.lookup_cons]
   ·have e:((x,NameKind.free)∈(n,NameKind.free)::r) ↔ (x,NameKind.free)∈r:=by
     rw[List.mem_cons]
     constructor
     ·rintro (h | h)
      ·exact absurd (congrArg Prod.fst h) hx
      ·exact h
     ·exact .inr
    simp only[e]
    split
    ·rfl
    ·rw[List.lookup_cons]
     rw[show (x==n)=false by simpa using hx]
  ·have hf:(q==NameKind.free)=false:=by simpa using hq
   have e0:cloFold cells ((n,q)::r) acc=cloFold cells r acc:=by simp[cloFold,hf]
   rw[e0,ih _ nd.2]
   have e:((x,NameKind.free)∈(n,q)::r) ↔ (x,NameKind.free)∈r:=by
    rw[List.mem_cons]
    constructor
    ·rintro (h | h)
     ·exact absurd (congrArg Prod.snd h).symm hq
     ·exact h
    ·exact .inr
   simp only[e]
theorem iter_step {K : PySem.W.Frag} {H1 H : Hp} {th1 th : Th} {J : It} {ds : List D} (it : IterOf K H1 th1 J ds) (g : Gr th1 th H1 H) (kd : ∀ a ∈ th, K.lookup a = none) (i : Nat) :
    (∀ d, ds[i]? = some d → J.go i H ∧ ∀ x H', J.yld i H x H' → H' = H ∧ RepV K H th d x) ∧ (ds.length ≤ i → J.stop i H) := by
  cases it with
  | @lst a vs ds q n r =>
    have q2 := SqL.mono g n q
    refine ⟨fun d hd => ?_, fun hl => ⟨vs, q2, by rw [← r.length]; exact hl⟩⟩
    obtain ⟨v, e1, r1⟩ := r.get hd
    refine ⟨⟨vs, v, q2, e1⟩, fun x H' y => ⟨y.1, ?_⟩⟩
    have := y.2 vs q2
    rw [e1] at this
    cases this
    exact r1.mono g kd
  | @tup a vs ds q r =>
    have q2 := SqT.mono g q
    refine ⟨fun d hd => ?_, fun hl => ⟨vs, q2, by rw [← r.length]; exact hl⟩⟩
    obtain ⟨v, e1, r1⟩ := r.get hd
    refine ⟨⟨vs, v, q2, e1⟩, fun x H' y => ⟨y.1, ?_⟩⟩
    have := y.2 vs q2
    rw [e1] at this
    cases this
    exact r1.mono g kd
  | str z =>
    have hz : (SS z).cps.size = z.length := by simp
    refine ⟨fun d hd => ?_, fun hl => (by show (SS z).cps.size ≤ i; rw [hz]; simpa using hl)⟩
    have hi : i < z.length := by
      have := (List.getElem?_eq_some_iff.mp hd).1
      simpa using this
    refine ⟨by show i < (SS z).cps.size; rw [hz]; exact hi, fun x H' y => ⟨y.1, ?_⟩⟩
    obtain ⟨_, c, ec, y⟩ := y
    have ez : z[i]? = some c := by simpa using ec
    rw [List.getElem?_map, ez] at hd
    cases hd
    rw [y]
    exact .str [c]
  | rng n =>
    refine ⟨fun d hd => ?_, fun hl => (by have h : n ≤ i := by simpa using hl
                                          exact h)⟩
    have hi : i < n := by
      have := (List.getElem?_eq_some_iff.mp hd).1
      simpa using this
    have ed : d = .int (i : Int) := by
      rw [List.getElem?_map, List.getElem?_range hi] at hd
      exact (Option.some.inj hd).symm
    refine ⟨hi, fun x H' y => ⟨y.1, ?_⟩⟩
    have := y.2
    rw [this, ed]
    have z : (0 : Int) + (i : Int) = (i : Int) := by omega
    rw [z]
    exact .int _
theorem hok_laid0 {P:Program}{w:World}{H:Hp}{h:Heap}{a:Addr}{o:HO} (x:HOk P w H h) (hn:H a=none) (new:ObjOk P w (upd H a o) h a o):HOk P w (upd H a o) h:=fun b u e=>by
 by_cases hb:b=a
 ·subst hb;rw[upd_same] at e;cases e;exact new
 ·rw[upd_ne hb] at e
  exact (x b u e).stay (fun c v _ q=>q) (fun c q=>by rw[upd_ne (ne_of_none q hn)];exact q) (fun c xs q=>by rw[upd_ne (ne_of_none q hn)];exact q)
theorem _root_.L2.Inv.track {X : Cx} {pins : List (Addr × Obj)} {σ : L2.St} {H : Hp} {s : Shared} {a : Addr} {vs : List V} {its : List Value} {n : Nat} (I : Inv X pins σ H s) (hn : H a = none) (hL : a ≠ X.env.locals) (h1 : a ∈ X.ex ∨ X.s₀.heap.objs.size ≤ a)
    (h2 : ∀ x c, X.env.cells.lookup x = some c → c ≠ a) (h3 : ∀ p ∈ X.pn ++ pins, p.1 ≠ a) (e : s.heap.get? a = some { cls := .type "list", data := .seq its.toArray n }) (r : Vals vs its) (hz : vs.length ≤ sizeLine) :
    Inv X pins σ (upd H a (.lst vs)) s := by
  have st := Inv.step (g' := s.gens) (t' := s.toks) (d' := s.drawn) (ch := [a]) (h' := s.heap) (H' := upd H a (.lst vs)) I
    (fun b hb => by have e : b = a := by simpa using hb
                    subst e; exact ⟨h1, hL, h2, h3⟩)
    (fun b o _ _ _ q _ => q) (fun b o _ _ _ q _ => ⟨o.slots, q⟩)
    (fun b o hb q qn => by rw [upd_ne (by simpa using hb)]; exact qn) (fun b o _ q => ⟨o, q⟩)
    (fun b xs q => by rw [upd_ne (ne_of_none q hn)]; exact q) (fun b o u q => by rw [upd_ne (ne_of_none q hn)]; exact q)
    (fun b ps q => ⟨#[], by rw [upd_ne (ne_of_none q hn)]; simpa using q⟩) (fun m q => q)
    (hok_laid0 I.hok hn ⟨hz, its, n, r, e⟩) I.bare
  exact st
noncomputable def kvs (σ:St) (is:List Nat):St:=is.map fun i=>(σ[i]?).bind id
noncomputable def compCx (X:Cx) (x:Str) (fvs:List Str) (sc:Scope) (cl:List (Str×Addr)) (Cc:Addr) (s2:Shared) (H2:Hp) (fp:List Addr) (xe:Value→Shared→Prop):Cx :=
 { X with N:=x::fvs,s₀:=s2,H₀:=H2,env:=compEnvC sc cl Cc X.env,outer:=X.stack,ex:=fp,fn:=fun _=>false,pn:=[],xe:=xe }
structure CompOk (C:CC) (x:Str) (sc:Scope):Prop where
 kind:sc.kind=.function
 loc:sc.names.lookup x=some .local
 pl:plainName x=true
 nocell:∀ y∈sc.names,y.2≠.cell
 locs:∀ y∈sc.names,y.2=.local→sc.names.lookup y.1=some .local
 nd:(sc.names.map (·.1)).Nodup
 fr:∀ y∈sc.names,y.2=.free→lk C.nm y.1=some .cell∨lk C.nm y.1=some .free
theorem compOk_of {C:CC}{x:Str}{sc:Scope} (h:compOk C x sc=true):CompOk C x sc:=by
 unfold compOk at h
 simp only[Bool.and_eq_true] at h
 obtain⟨⟨⟨⟨⟨⟨h1,h2⟩,h3⟩,h4⟩,h5⟩,h6⟩,h7⟩:=h
 refine⟨by simpa using h1,by simpa using h2,h3,fun y hy e=>?_,fun y hy e=>?_,by simpa using h6,fun y hy e=>?_⟩
 ·have:=List.all_eq_true.mp h4 y hy
  rw[e] at this
  cases this
 ·have:=List.all_eq_true.mp h5 y hy
  rw[e] at this
  simpa using this
 ·have:=List.all_eq_true.mp h7 y hy
  rw[e] at this
  simpa using this
theorem free_mem {names:List (Str×NameKind)}{y:Str} (h:y∈freeNames names):(y,NameKind.free)∈names:=by
 unfold freeNames at h
 obtain⟨⟨n,q⟩,hm,e⟩:=List.mem_filterMap.mp h
 dsimp only at e
 split at e
 ·rename_i hq
  cases e
  have:q=.free:=by simpa using hq
  subst this
  exact hm
 ·cases e
theorem nodup_free {names:List (Str×NameKind)} (nd:(names.map (·.1)).Nodup):(freeNames names).Nodup:=by
 unfold freeNames
 induction names with
 | nil=>exact List.nodup_nil
 | cons y r ih =>
  obtain⟨n,q⟩:=y
  rw[List.map_cons,List.nodup_cons] at nd
  rw[List.filterMap_cons]
  by_cases hq:q=.free
  ·subst hq
   have:(if (NameKind.free==NameKind.free)=true then some n else none)=some n:=by simp
   simp only[this]
   rw[List.nodup_cons]
   exact⟨fun h=>nd.1 (List.mem_map.mpr ⟨_,free_mem h,rfl⟩),ih nd.2⟩
  ·have hf:(q==NameKind.free)=false:=by simpa using hq
   simp only[hf,Bool.false_eq_true,if_false]
   exact ih nd.2
theorem lookup_mem {names:List (Str×NameKind)} (nd:(names.map (·.1)).Nodup) {y:Str}{q:NameKind} (h:(y,q)∈names):names.lookup y=some q:=by
 induction names with
 | nil=>cases h
 | cons z r ih =>
  obtain⟨n,q'⟩:=z
  rw[List.map_cons,List.nodup_cons] at nd
  rw[List.lookup_cons]
  rcases List.mem_cons.mp h with e | e
  ·cases e;simp
  ·have:y≠n:=fun z=>nd.1 (List.mem_map.mpr ⟨_,e,z⟩)
   rw[show (y==n)=false by simpa using this]
   exact ih nd.2 e
theorem varsOf_get {C:CC}:∀ (l:List Str) (is:List Nat),varsOf C l=some is→l.length=is.length∧∀ (j:Nat) (i:Nat),is[j]?=some i→∃ y,l[j]?=some y∧C.var y=some i
 | [],is,h=>by cases h;exact⟨rfl,fun j i e=>by simp at e⟩
 | y::r,is,h=>by
  unfold varsOf at h
  split at h
  ·rename_i i l e1 e2
   cases h
   obtain⟨a,b⟩:=varsOf_get r l e2
   refine⟨by simp[a],fun j i' e=>?_⟩
   cases j with
   | zero=>simp at e;subst e;exact⟨y,rfl,e1⟩
   | succ j=>exact b j i' (by simpa using e)
  ·cases h
theorem reNames_eq {X:Cx}{C:CC}{G:List Den}{k:Nat} (O:CtxOk X C G k) (hk:X.env.scope.kind=.function) (sc:Scope):(relabel sc X.env).names=reNames C sc.names:=by
 unfold relabel reNames
 dsimp only
 refine List.map_congr_left fun y _=>?_
 obtain⟨n,q⟩:=y
 have e:X.env.kindOf n=lk C.nm n:=lookupEq O
 simp only[hk,e,beq_self_eq_true,Bool.and_true]
section
variable {X:Cx}{C:CC}{G:List Den}{k:Nat}{pins:List (Addr×Obj)}{σ:St}{H2:Hp}{s2:Shared}{x:Str}{sc:Scope}{keep:List Nat}{fp:List Addr}{xe:Value→Shared→Prop}
noncomputable abbrev clo (X:Cx) (sc:Scope):List (Str×Addr):=cloFold X.env.cells sc.names []
noncomputable abbrev cX' (X:Cx) (x:Str) (sc:Scope) (Cc:Addr) (s2:Shared) (H2:Hp) (fp:List Addr) (xe:Value→Shared→Prop):Cx:=compCx X x (freeNames sc.names) sc (clo X sc) Cc s2 H2 fp xe
theorem cells_free (I : Inv X pins σ H2 s2) (O : CtxOk X C G k) (Q : CompOk C x sc) : ∀ y ∈ sc.names, y.2 = .free → ∃ c, X.env.cells.lookup y.1 = some c := fun y hy e =>
  I.ok.has y.1 (by rcases Q.fr y hy e with h | h
                   · exact .inl ((lookupEq O).trans h)
                   · exact .inr ((lookupEq O).trans h))
theorem clo_some (I:Inv X pins σ H2 s2) (O:CtxOk X C G k) (Q:CompOk C x sc) {y:Str}{c:Addr} (h:(clo X sc).lookup y=some c):(y,NameKind.free)∈sc.names∧X.env.cells.lookup y=some c:=by
 rw[cloFold_lookup _ _ _ _ Q.nd] at h
 split at h
 ·rename_i hm
  obtain⟨c',hc⟩:=cells_free I O Q _ hm rfl
  have hc:X.env.cells.lookup y=some c':=hc
  rw[hc] at h
  cases h
  exact⟨hm,hc⟩
 ·cases h
theorem clo_of (I:Inv X pins σ H2 s2) (O:CtxOk X C G k) (Q:CompOk C x sc) {y:Str} (hm:(y,NameKind.free)∈sc.names):∃ c,X.env.cells.lookup y=some c∧(clo X sc).lookup y=some c:=by
 obtain⟨c,hc⟩:=cells_free I O Q _ hm rfl
 have hc:X.env.cells.lookup y=some c:=hc
 refine⟨c,hc,?_⟩
 rw[cloFold_lookup _ _ _ _ Q.nd,if_pos hm,hc]
 rfl
theorem re_lookup (O:CtxOk X C G k) (hk:X.env.scope.kind=.function) (Q:CompOk C x sc) {y:Str}{q:NameKind} (hm:(y,q)∈sc.names) :
  (relabel sc X.env).names.lookup y=some (if (q==.free&&X.env.kindOf y==some .cell)=true then .cell else q):=by
 have nd:((relabel sc X.env).names.map (·.1)).Nodup:=by
  have e:(relabel sc X.env).names.map (·.1)=sc.names.map (·.1):=by
   unfold relabel
   dsimp only
   rw[List.map_map]
   refine List.map_congr_left fun z _=>?_
   show (if _ then _ else _:Str×NameKind).1=z.1
   split<;>rfl
  rw[e]
  exact Q.nd
 refine lookup_mem nd ?_
 unfold relabel
 dsimp only
 refine List.mem_map.mpr ⟨(y,q),hm,?_⟩
 simp only[hk,beq_self_eq_true,Bool.and_true]
 split<;>rfl
theorem free_kind (O:CtxOk X C G k) (hk:X.env.scope.kind=.function) (Q:CompOk C x sc) {y:Str} (hm:(y,NameKind.free)∈sc.names):(relabel sc X.env).names.lookup y=some .cell∨(relabel sc X.env).names.lookup y=some .free:=by
 rw[re_lookup O hk Q hm]
 split
 ·exact .inl rfl
 ·exact .inr rfl
theorem mem_of_lookup {names:List (Str×NameKind)}{y:Str}{q:NameKind} (h:names.lookup y=some q):(y,q)∈names:=by
 induction names with
 | nil=>cases h
 | cons z r ih =>
  obtain⟨n,q'⟩:=z
  rw[List.lookup_cons] at h
  split at h
  ·rename_i e
   cases h
   have:y=n:=by simpa using e
   rw[this]
   exact List.mem_cons_self
  ·exact List.mem_cons_of_mem _ (ih h)
theorem kind_free (O:CtxOk X C G k) (hk:X.env.scope.kind=.function) (Q:CompOk C x sc) {y:Str} (h:(relabel sc X.env).names.lookup y=some .cell∨(relabel sc X.env).names.lookup y=some .free):(y,NameKind.free)∈sc.names:=by
 have:∃ q,(y,q)∈(relabel sc X.env).names∧(q=.cell∨q=.free):=by
  rcases h with h | h
  ·exact⟨_,mem_of_lookup h,.inl rfl⟩
  ·exact⟨_,mem_of_lookup h,.inr rfl⟩
 obtain⟨q,hm,hq⟩:=this
 unfold relabel at hm
 dsimp only at hm
 obtain⟨⟨n,q'⟩,hm',e⟩:=List.mem_map.mp hm
 by_cases hf:q'=.free
 ·subst hf
  simp only at e
  split at e
  ·cases e;exact hm'
  ·cases e;exact hm'
 ·have hff:(q'==NameKind.free)=false:=by simpa using hf
  simp only[hff,Bool.false_and,Bool.false_eq_true,if_false] at e
  cases e
  rcases hq with rfl | rfl
  ·exact absurd rfl (Q.nocell _ hm')
  ·exact hm'
theorem inv_comp {h4:Heap}{tk:Nat}{m:Str→Option Value}{ob:Obj} (I:Inv X pins σ H2 s2) (O:CtxOk X C G k) (Q:CompOk C x sc) (hv:varsOf C (freeNames sc.names)=some keep)
  (hf:∀ b∈fp,FpOk X pins H2 b) (hfo:∀ b∈fp,∃ o,s2.heap.get? b=some o)
  (k4:∀ b o,s2.heap.get? b=some o→h4.get? b=some o) (hacc:h4.get? s2.heap.objs.size=some ob) (hob:∀ v,ob.data≠.cell v) (ns:h4.Ns (s2.heap.objs.size+1) m) :
  Inv (cX' X x sc (s2.heap.objs.size+1) s2 H2 fp xe) [(s2.heap.objs.size,ob)] (none::kvs σ keep) H2 { s2 with heap:=h4,toks:=tk }:=by
 have hk:=I.ok.kind
 have stk:∀ b∈frs X.stack,b<s2.heap.objs.size:=fun b hb=>by
  rcases List.mem_cons.mp (I.stkSub b hb) with e | e
  ·rw[e];exact I.lt
  ·exact Nat.lt_of_not_le fun h=>I.nofs h e
 have cl_lt:∀ y c,(clo X sc).lookup y=some c→c<s2.heap.objs.size:=fun y c e=>by
  obtain⟨_,h2⟩:=clo_some I O Q e
  obtain⟨v,hv⟩:=I.cell y c h2
  exact hv.lt
 have fp_lt:∀ b∈fp,b<s2.heap.objs.size:=fun b hb=>let ⟨o,e⟩:=hfo b hb;Heap.lt_size e
 have okX:(cX' X x sc (s2.heap.objs.size+1) s2 H2 fp xe).Ok:={
  mod:=I.ok.mod
  kind:=Q.kind
  glob:=I.ok.glob
  blt:=I.ok.blt
  above:=Nat.le_succ _
  inj:=fun y z c e1 e2=>I.ok.inj y z c (clo_some I O Q e1).2 (clo_some I O Q e2).2
  has:=fun y h=>by
   obtain⟨c,_,e⟩:=clo_of I O Q (kind_free O hk Q h)
   exact⟨c,e⟩
  cab:=fun y c e=>by cases e
  hd:=I.ok.hd
  frames:=I.ok.frames
  stk:=.inl rfl
  exf:=fun b hb=>⟨Nat.ne_of_lt (Nat.lt_succ_of_lt (fp_lt b hb)),fun y c e=>(hf b hb).2.2.2.2.1 y c (clo_some I O Q e).2⟩
  bs:=fun b o e=>I.bs b o e
  bsz:=Nat.le_trans I.ok.bsz I.sz
  noex:=fun b o e hb=>by
   obtain⟨h0,_,_,h3,_⟩:=hf b hb
   obtain⟨e1,e2⟩:=I.ok.bs b o e
   rcases h3 with h3 | h3
   ·exact I.ok.noex b o e h3
   ·exact absurd (Heap.lt_size e1) (Nat.not_lt.mpr h3)
  exfs:=fun b hb hs=>by
   obtain⟨_,h1,h2,_⟩:=hf b hb
   rcases List.mem_cons.mp (I.stkSub b hs) with e | e
   ·exact h1 e
   ·exact h2 e
  funs:=I.stack
  frf:=fun b hb=>I.stkFree b hb }
 obtain⟨vlen,vget⟩:=varsOf_get _ _ hv
 refine {
  ok:=okX
  os:=rfl
  bare:=I.bare
  base:=Un.kept k4
  loc:=⟨m,ns,fun i y v e1 e2 hV=>?_⟩
  cell:=fun y c e=>?_
  free:=I.hok.fresh (Nat.le_succ _)
  freeC:=fun y c e=>I.freeC y c (clo_some I O Q e).2
  pin:=fun p hp=>?_
  hok:=I.hok.kept k4
  len:=?_ }
 ·cases i with
  | zero=>simp at e2
  | succ j =>
   have e2:(kvs σ keep)[j]?=some (some v):=by simpa using e2
   have e1:(x::freeNames sc.names)[j+1]?=some y:=e1
   have e1:(freeNames sc.names)[j]?=some y:=by simpa using e1
   unfold kvs at e2
   rw[List.getElem?_map] at e2
   cases ek:keep[j]? with
   | none=>rw[ek] at e2;cases e2
   | some i =>
    rw[ek] at e2
    have e2:(σ[i]?).bind id=some v:=by simpa using e2
    have e3:σ[i]?=some (some v):=by
     cases q:σ[i]? with
     | none=>rw[q] at e2;cases e2
     | some z=>rw[q] at e2;simpa using e2
    obtain⟨y',ey,hy⟩:=vget j i ek
    rw[e1] at ey
    cases ey
    obtain⟨n1,n2,_⟩:=var_ok O hy
    obtain⟨m0,hm0,look⟩:=I.loc
    obtain⟨u,ru,lu⟩:=look i y v n1 e3 n2
    have hm:=free_mem (List.mem_of_getElem? e1)
    refine⟨u,ru,.inr ⟨free_kind O hk Q hm,?_⟩⟩
    obtain⟨c,c1,c2⟩:=clo_of I O Q hm
    refine⟨c,c2,?_⟩
    rcases lu with ⟨kl,_⟩ | ⟨_,c',c3,c4⟩
    ·have kl:X.env.scope.names.lookup y=some .local:=kl
     rw[lookupEq O] at kl
     rcases Q.fr _ hm rfl with h | h
     ·rw[kl] at h;cases h
     ·rw[kl] at h;cases h
    ·rw[c1] at c3
     cases c3
     exact c4.keeps k4
 ·obtain⟨v,hv⟩:=I.cell y c (clo_some I O Q e).2
  exact⟨v,hv.keeps k4⟩
 ·have hp:p=(s2.heap.objs.size,ob):=by simpa [compCx] using hp
  subst hp
  refine⟨hacc,I.hok.fresh (Nat.le_refl _),Nat.ne_of_lt (Nat.lt_succ_self _),fun hb=>Nat.lt_irrefl _ (stk _ hb),hob⟩
 ·show (none::kvs σ keep).length=(x::freeNames sc.names).length
  simp[kvs,vlen]
theorem ctx_comp (I:Inv X pins σ H2 s2) (O:CtxOk X C G k) (Q:CompOk C x sc) (Cc:Addr):CtxOk (cX' X x sc Cc s2 H2 fp xe) { C with N:=x::freeNames sc.names,nm:=reNames C sc.names } G k where
 N:=rfl
 nm:=reNames_eq O I.ok.kind sc
 nd:=by
  show (x::freeNames sc.names).Nodup
  rw[List.nodup_cons]
  refine⟨fun h=>?_,nodup_free Q.nd⟩
  have:=lookup_mem Q.nd (free_mem h)
  rw[Q.loc] at this
  cases this
 calm:=O.calm
 room:=O.room
 ct:=O.ct
 fs:=fun i y f h1 h0 h2=>let ⟨j,hj,M⟩:=O.fs i y f h1 h0 h2;⟨j,hj,⟨M.ex⟩⟩
 bl:=O.bl
 gl:=O.gl
 fa:=O.fa
 fd:=O.fd
 ms:=fun i c m φ h1 h2=>⟨(O.ms i c m φ h1 h2).ex⟩
 mn:=fun i c φ h1 h2=>let ⟨j,hj,M⟩:=O.mn i c φ h1 h2;⟨j,hj,⟨M.ex⟩⟩
end
noncomputable abbrev lobj (its:List Value) (n:Nat):Obj:={ cls:=.type "list",data:=.seq its.toArray n }
noncomputable def turnF (G:List Den) (pe:PX) (cond:Option PB) (keep:List Nat) (ρ:Ev) (d:D) (h:AH):Option (Option D×AH):=match cond with
 | none=>(ev G pe (some d::keep.map (getV ρ)) h).bind fun q=>some (some q.1,q.2)
 | some c=>(evB G c (some d::keep.map (getV ρ)) h).bind fun q=>if q.1=true then (ev G pe (some d::keep.map (getV ρ)) q.2).bind fun r=>some (some r.1,r.2) else some (none,q.2)
section
variable {X:Cx}{C:CC}{G:List Den}{k:Nat}{pins:List (Addr×Obj)}{σ:St}{H2:Hp}{s2:Shared}{x:Str}{sc:Scope}{keep:List Nat}{fp:List Addr}
noncomputable abbrev C' (C:CC) (x:Str) (sc:Scope):CC:={ C with N:=x::freeNames sc.names,nm:=reNames C sc.names }
theorem kvs_env {K:PySem.W.Frag}{H:Hp}{th:Th}{ρ:Ev} (en:EnvR K H th ρ σ) (z:Option D) (y:Option V) (hz:∀ d,z=some d→∃ v,y=some v∧RepV K H th d v):EnvR K H th (z::keep.map (getV ρ)) (y::kvs σ keep):=by
 refine⟨by simp[kvs],fun i d e=>?_⟩
 cases i with
 | zero =>
  have e:z=some d:=by simpa [getV] using e
  obtain⟨v,e1,r⟩:=hz d e
  exact⟨v,by simp[e1],r⟩
 | succ j =>
  unfold getV at e
  rw[List.getElem?_cons_succ,List.getElem?_map] at e
  cases ek:keep[j]? with
  | none=>rw[ek] at e;cases e
  | some i =>
   rw[ek] at e
   have e:getV ρ i=some d:=by simpa [getV] using e
   obtain⟨v,e1,r⟩:=en.val i d e
   refine⟨v,?_,r⟩
   rw[List.getElem?_cons_succ]
   unfold kvs
   rw[List.getElem?_map,ek]
   simp[e1]
theorem comp_loop {elt iter : Expr} {ifs : List Expr} {px pos : Pos} {J : It} {it : Addr} {tn : Nat → Heap → Prop} {ds out : List D} {th2 : Th} {h2 h5 : AH} {ρ : Ev} {pe : PX} {cond : Option PB} {s4 : Shared} {R : Result → Shared → Prop} {Cc acc : Addr}
    (O : CtxOk X C G k) (Q : CompOk C x sc) (hCx : CtxOk (cX' X x sc Cc s2 H2 fp (notedBy (model X.prog X.w) X.A (compEnvC sc (clo X sc) Cc X.env) fun e s' => R (.error e) s')) (C' C x sc) G k)
    (T : Turn X.prog X.w X.K (.Name x px) J fp it tn) (itr : IterOf X.K H2 th2 J ds)
    (hE : ∀ X', CtxOk X' (C' C x sc) G k → PE X' elt (rdE X'.K G pe))
    (hI : (ifs = [] ∧ cond = none) ∨ ∃ c b, ifs = [c] ∧ cond = some b ∧ ∀ X', CtxOk X' (C' C x sc) G k → PT X' c (rdB X'.K G b))
    (en : EnvR X.K H2 th2 ρ σ) (w2 : Wd X.K th2 h2 H2)
    (hrun : compL (turnF G pe cond keep ρ) ds h2 = some (out, h5)) (hz : out.length ≤ SZ) (hCc : Cc ≠ acc) (hfa : acc ∉ fp)
    (I4 : Inv (cX' X x sc Cc s2 H2 fp (notedBy (model X.prog X.w) X.A (compEnvC sc (clo X sc) Cc X.env) fun e s' => R (.error e) s')) [(acc, lobj [] 0)] (none :: kvs σ keep) H2 s4)
    (t0 : tn 0 s4.heap) (hfr : ∀ b ∈ fp, H2 b = none) (ha2 : s2.heap.objs.size ≤ acc) (hac : ∀ y c, (clo X sc).lookup y = some c → c ≠ acc)
    (fin : ∀ s' H' th' its n vs xv, Inv (cX' X x sc Cc s2 H2 fp (notedBy (model X.prog X.w) X.A (compEnvC sc (clo X sc) Cc X.env) fun e s' => R (.error e) s')) [(acc, lobj its n)] (xv :: kvs σ keep) H' s' →
      Vals vs its → RepVs X.K H' th' out vs → Wd X.K th' h5 H' → Gr th2 th' H2 H' → R (.ok .next) s') :
    codeAny (model X.prog X.w) X.A (.compLoop (.ListComp elt [⟨.Name x px, iter, ifs, 0⟩] sc pos) 0 (.ref it) (.ref acc) (compEnvC sc (clo X sc) Cc X.env)) R s4 := by
  generalize hxe : (notedBy (model X.prog X.w) X.A (compEnvC sc (clo X sc) Cc X.env) fun e s' => R (.error e) s') = xe at hCx I4 fin
  generalize hX' : cX' X x sc Cc s2 H2 fp xe = X' at hCx I4 fin
  have p1 : X'.prog = X.prog := by rw [← hX']; rfl
  have p2 : X'.w = X.w := by rw [← hX']; rfl
  have p3 : X'.K = X.K := by rw [← hX']; rfl
  have p4 : X'.A = X.A := by rw [← hX']; rfl
  have p5 : X'.env = compEnvC sc (clo X sc) Cc X.env := by rw [← hX']; rfl
  have p6 : X'.xe = xe := by rw [← hX']; rfl
  have p7 : X'.ex = fp := by rw [← hX']; rfl
  have p8 : X'.pn = [] := by rw [← hX']; rfl
  have p9 : X'.s₀ = s2 := by rw [← hX']; rfl
  have nd' : X'.N.Nodup := by rw [hCx.N]; exact hCx.nd
  have n0 : X'.N[0]? = some x := by rw [hCx.N]; rfl
  have okX := I4.ok
  have fpok : ∀ {H : Hp} {ps : List (Addr × Obj)}, (∀ b ∈ fp, H b = none) → (∀ p ∈ ps, p.1 ∉ fp) → ∀ b ∈ fp, FpOk X' ps H b := fun hn hp b hb => by
    have hb' : b ∈ X'.ex := by rw [p7]; exact hb
    obtain ⟨e1, e2⟩ := okX.exf b hb'
    refine ⟨hn b hb, e1, okX.exfs b hb', .inl hb', e2, fun p h e => ?_⟩
    rw [p8] at h
    exact hp p (by simpa using h) (e ▸ hb)
  obtain ⟨L, hL⟩ : ∃ L : Nat → Shared → Prop, ∀ n s, L n s ↔ ∃ i H th h its ep vs acc0 xv rest, n = ds.length - i ∧ i ≤ ds.length ∧ Inv X' [(acc, lobj its ep)] (xv :: kvs σ keep) H s ∧ tn i s.heap ∧ (∀ b ∈ fp, H b = none) ∧
    Wd X.K th h H ∧ Gr th2 th H2 H ∧ Vals vs its ∧ RepVs X.K H th acc0 vs ∧ compL (turnF G pe cond keep ρ) (ds.drop i) h = some (rest, h5) ∧ out = acc0 ++ rest := ⟨_, fun _ _ => Iff.rfl⟩
  refine codeAny_compLoop_go L ?_ ds.length
    ((hL _ _).mpr ⟨0, H2, th2, h2, [], 0, [], [], none, out, rfl, Nat.zero_le _, I4, t0, hfr, w2, Gr.refl _ _, .nil, .nil, by rw [List.drop_zero]; exact hrun, rfl⟩)
  intro n s hn
  obtain ⟨i, H, th, h, its, ep, vs, acc0, xv, rest, rfl, hi, I, st, fr, w, g, rv, ra, hrest, hout⟩ := (hL _ _).mp hn
  obtain ⟨stepA, stepB⟩ := iter_step itr g w.kd i
  have pn1 : ∀ p ∈ [(acc, lobj its ep)], p.1 ∉ fp := fun p hp => by have e : p = (acc, lobj its ep) := by simpa using hp
                                                                    rw [e]; exact hfa
  rw [hxe]
  by_cases hlt : i < ds.length
  ·
    have hd : ds[i]? = some ds[i] := List.getElem?_eq_getElem hlt
    have hdr : ds.drop i = ds[i] :: ds.drop (i + 1) := List.drop_eq_getElem_cons hlt
    generalize ds[i] = d at hd hdr
    rw [hdr] at hrest
    unfold compL at hrest
    obtain ⟨⟨od, h7⟩, f1, hrest⟩ := obs hrest
    obtain ⟨⟨rest', h8⟩, f2, hrest⟩ := obs hrest
    have er : rest = putO od rest' := by cases hrest; rfl
    have e8 : h5 = h8 := by cases hrest; rfl
    subst er e8
    obtain ⟨go, yl⟩ := stepA d hd
    have item := T.item X' p1 p2 p3 hCx.calm i _ s _ H xe I (fpok fr pn1) st go
    rw [p4] at item
    refine thn item fun r s1 ⟨u, hr, h1⟩ => ?_
    subst hr
    refine thn h1 fun _ s5 ⟨xval, H5, I5, r5, y5, st5, fr5⟩ => ?_
    obtain ⟨rfl, rx⟩ := yl xval H5 y5
    have I5' := I5.pinned (fpok fr5 pn1) (T.obj _ _ st5)
    have asg := pg_name (X := X') (pos := px) nd' n0 (.inl (by rw [p5]; exact lookup_relabel_local Q.loc)) (.inr (by rw [p5]; exact lookup_relabel_local Q.loc)) _ s5 _ H5 xval u
      (fun σ' H' => σ' = (some xval :: kvs σ keep) ∧ H' = H5) I5' r5 ⟨rfl, rfl⟩
    rw [p1, p2, p4, p5, p6] at asg
    refine thn asg fun _ s6 ⟨σ6, H6, I6, e6, e6'⟩ => ?_
    subst e6 e6'
    have en6 : EnvR X.K H6 th (some d :: keep.map (getV ρ)) (some xval :: kvs σ keep) := kvs_env (en.mono g w.kd) (some d) (some xval) fun d' e => by cases e; exact ⟨xval, rfl, rx⟩
    have keepTn : ∀ {s9 : Shared} {σ9 : St} {H9 : Hp}, Inv X' ([(acc, lobj its ep)] ++ pinsAt fp s5.heap) σ9 H9 s9 → tn (i + 1) s9.heap ∧ (∀ b ∈ fp, H9 b = none) ∧ s9.heap.get? acc = some (lobj its ep) ∧ H9 acc = none := fun I9 => by
      refine ⟨T.keep _ _ _ st5 fun b hb o e => (I9.pin (b, o) (List.mem_append_right _ (List.mem_append_right _ (mem_pinsAt hb e)))).1, fun b hb => ?_, ?_, ?_⟩
      · obtain ⟨o, e, _⟩ := T.obj _ _ st5 b hb
        exact (I9.pin (b, o) (List.mem_append_right _ (List.mem_append_right _ (mem_pinsAt hb e)))).2.1
      · exact (I9.pin (acc, lobj its ep) (List.mem_append_right _ (List.mem_append_left _ List.mem_cons_self))).1
      · exact (I9.pin (acc, lobj its ep) (List.mem_append_right _ (List.mem_append_left _ List.mem_cons_self))).2.1
    have lenV := ra.length
    have lenI := rv.length
    have emit : ∀ (h6 : AH) (s7 : Shared) (H7 : Hp) (th7 : Th) (de : D), Inv X' ([(acc, lobj its ep)] ++ pinsAt fp s5.heap) (some xval :: kvs σ keep) H7 s7 → Wd X.K th7 h6 H7 → Gr th th7 H6 H7 → ev G pe (some d :: keep.map (getV ρ)) h6 = some (de, h7) → od = some de →
        wpAny (model X.prog X.w) X.A (eval elt (compEnvC sc (clo X sc) Cc X.env)) (fun y s₄ => wpAny (model X.prog X.w) X.A (call (.builtin "list.append") [.ref acc, y]) (fun _ s₅ => ∃ m, m < ds.length - i ∧ L m s₅) xe s₄) xe s7 := by
      intro h6 s7 H7 th7 de I7 w7 g7 e7 eo
      have run := hE X' hCx _ s7 _ H7 (fun v H' => ∃ th', RepV X.K H' th' de v ∧ Wd X.K th' h7 H' ∧ Gr th7 th' H7 H') I7
        ⟨th7, _, h6, de, h7, by rw [p3]; exact w7, by rw [p3]; exact en6.mono g7 w7.kd, e7, fun v H' th' r w' g' => ⟨th', by rw [p3] at r; exact r, by rw [p3] at w'; exact w', g'⟩⟩
      rw [p1, p2, p4, p5, p6] at run
      refine thn run fun y s8 ⟨v, H8, I8, rv8, th8, r8, w8, g8⟩ => ?_
      obtain ⟨tn8, fr8, e8, n8⟩ := keepTn I8
      have hsz : its.toArray.size < sizeLine := by
        rw [List.size_toArray, SZ_eq, ← lenI, ← lenV]
        have : out.length = acc0.length + (rest'.length + 1) := by rw [hout, eo]; simp [putO]
        show acc0.length < 16777216
        have : out.length ≤ 16777216 := hz
        omega
      refine call_meets F.slot_list_append ⟨_, e8, rfl⟩ F.entry_list_append (F.args_list_append_2 _ _) (PySem.list_append acc its.toArray ep y (by omega)) ⟨e8, ?_⟩
      have q := PySem.IsL.update e8 (fun a => a.push y)
      have ea : its.toArray.push y = (its ++ [y]).toArray := by simp
      rw [ea] at q
      obtain ⟨ep', q⟩ : ∃ n', (s8.heap.update acc (Obj.mapSeq fun a => a.push y)).get? acc = some (lobj (its ++ [y]) n') := ⟨_, q⟩
      have I8b : Inv X' (pinsAt fp s5.heap) (some xval :: kvs σ keep) H8 s8 := I8.pins_of fun p hp => I8.pin p (List.mem_append_right _ (List.mem_append_right _ hp))
      have I9 : Inv X' (pinsAt fp s5.heap) (some xval :: kvs σ keep) H8 { s8 with heap := s8.heap.update acc (Obj.mapSeq fun a => a.push y) } := by
        refine I8b.turned (t' := s8.toks) (it := acc) (fun b o hb e => (Heap.get?_update_other s8.heap _ (Ne.symm hb)).trans e) n8 (by rw [p5]; exact Ne.symm hCc) (.inr (by rw [p9]; exact ha2)) (by rw [p5]; exact hac) fun p hp e => ?_
        rw [p8] at hp
        exact hfa (e ▸ (of_pinsAt (by simpa using hp)).1)
      have accP := I8.pin (acc, lobj its ep) (List.mem_append_right _ (List.mem_append_left _ List.mem_cons_self))
      have I10 : Inv X' [(acc, lobj (its ++ [y]) ep')] (some xval :: kvs σ keep) H8 { s8 with heap := s8.heap.update acc (Obj.mapSeq fun a => a.push y) } := I9.pins_of fun p hp => by
        have e : p = (acc, lobj (its ++ [y]) ep') := by simpa using hp
        subst e
        exact ⟨q, n8, accP.2.2.1, accP.2.2.2.1, fun v z => nomatch z⟩
      refine ⟨ds.length - (i + 1), by omega, (hL _ _).mpr ⟨i + 1, H8, th8, h7, its ++ [y], _, vs ++ [v], acc0 ++ [de], some xval, rest', rfl, hlt, I10, ?_, fr8, w8, (g.trans g7).trans g8, rv.append (.cons rv8 .nil), ?_, f2, by rw [hout, eo]; simp [putO]⟩⟩
      · exact T.keep _ _ _ tn8 fun b hb o e => (Heap.get?_update_other s8.heap _ (show acc ≠ b from fun z => hfa (by rw [z]; exact hb))).trans e
      · exact ((ra.mono g7 w7.kd).mono g8 w8.kd).append (.cons r8 .nil)
    rcases hI with ⟨rfl, rfl⟩ | ⟨c, b, rfl, rfl, hT⟩
    · refine wpAny_tests_nil ?_
      rw [if_pos rfl]
      unfold turnF at f1
      obtain ⟨⟨de, h7'⟩, f3, f4⟩ := obs f1
      cases f4
      exact emit h s6 H6 th de I6 w (Gr.refl _ _) f3 rfl
    · unfold turnF at f1
      obtain ⟨⟨t, h6⟩, f3, f4⟩ := obs f1
      have run := hT X' hCx _ s6 _ H6 (fun b H' => b = t ∧ ∃ th', Wd X.K th' h6 H' ∧ Gr th th' H6 H') I6
        ⟨th, _, h, t, h6, by rw [p3]; exact w, by rw [p3]; exact en6, f3, fun H' th' w' g' => ⟨rfl, th', by rw [p3] at w'; exact w', g'⟩⟩
      rw [p1, p2, p4, p5, p6] at run
      refine wpAny_tests_one (thn run fun ok s7 ⟨H7, I7, e7, th7, w7, g7⟩ => ?_)
      subst e7
      cases ok with
      | true =>
        rw [if_pos rfl]
        have f4 : ((ev G pe (some d :: keep.map (getV ρ)) h6).bind fun r => some (some r.1, r.2)) = some (od, h7) := f4
        obtain ⟨⟨de, h7'⟩, f5, f6⟩ := obs f4
        cases f6
        exact emit h6 s7 H7 th7 de I7 w7 g7 f5 rfl
      | false =>
        rw [if_neg Bool.false_ne_true]
        have f4 : some (none, h6) = some (od, h7) := f4
        cases f4
        obtain ⟨tn7, fr7, e7, n7⟩ := keepTn I7
        refine ⟨ds.length - (i + 1), by omega, (hL _ _).mpr ⟨i + 1, H7, th7, _, its, ep, vs, acc0, some xval, rest', rfl, hlt, I7.pins_of fun p hp => I7.pin p (List.mem_append_right _ (List.mem_append_left _ hp)), tn7, fr7, w7, g.trans g7, rv, ra.mono g7 w7.kd, f2, hout⟩⟩
  · have hle : ds.length ≤ i := Nat.le_of_not_lt hlt
    have done := T.done X' p1 p2 p3 hCx.calm i _ s _ H xe I (fpok fr pn1) st (stepB hle)
    rw [p4] at done
    refine thn done fun r s1 ⟨hr, I1⟩ => ?_
    subst hr
    have hdr : ds.drop i = [] := List.drop_eq_nil_of_le hle
    rw [hdr] at hrest
    cases hrest
    rw [List.append_nil] at hout
    subst hout
    exact fin s1 H th its ep vs xv I1 rv ra w g
end
section
variable {X:Cx}{C:CC}{G:List Den}{k:Nat}{x:Str}{sc:Scope}{keep:List Nat}
theorem comp_ev {pe:PX}{cond:Option PB}{src:PI}{ρ:Ev}{h h':AH}{d:D} (e1:ev G (.comp pe cond src keep) ρ h=some (d,h')) :
  ∃ ds h2 out,evI G src ρ h=some (ds,h2)∧compL (turnF G pe cond keep ρ) ds h2=some (out,h')∧out.length≤SZ∧d=.lst out:=by
 unfold ev at e1
 obtain⟨⟨ds,h2⟩,q1,e1⟩:=obs e1
 obtain⟨⟨out,h5⟩,q2,e1⟩:=obs e1
 split at e1
 ·rename_i hz
  cases e1
  refine⟨ds,h2,out,q1,?_,hz,rfl⟩
  rw[← q2]
  rfl
 ·cases e1
structure CompEnd (X:Cx) (pins:List (Addr×Obj)) (σ:St) (th2:Th) (H2:Hp) (s2:Shared) (out:List D) (h5:AH) (s':Shared):Prop where
 ex:∃ (H':Hp) (th':Th) (vs:List V) (oC:Obj) (m:Str→Option Value),s'.heap.get? (s2.heap.objs.size+1)=some oC∧(∀ v,oC.data≠.cell v)∧s'.heap.Ns (s2.heap.objs.size+1) m ∧
  Inv X (pins++[(s2.heap.objs.size+1,oC)]) σ (upd H' s2.heap.objs.size (.lst vs)) s'∧RepV X.K (upd H' s2.heap.objs.size (.lst vs)) th' (.lst out) (.ref s2.heap.objs.size)∧Wd X.K th' h5 (upd H' s2.heap.objs.size (.lst vs))∧Gr th2 th' H2 (upd H' s2.heap.objs.size (.lst vs))
theorem comp_block {pins:List (Addr×Obj)}{σ:St}{H2:Hp}{s2:Shared}{elt iter:Expr}{ifs:List Expr}{px pos:Pos}{J:It}{it:Addr}{fp:List Addr}{tn:Nat→Heap→Prop}{ds out:List D}{th2:Th}{h2 h5:AH}{ρ:Ev}{pe:PX}{cond:Option PB}{RR:Value→Addr→Result→Shared→Prop}{E:Value→Shared→Prop}
  (I:Inv X pins σ H2 s2) (O:CtxOk X C G k) (Q:CompOk C x sc) (hv:varsOf C (freeNames sc.names)=some keep)
  (T:Turn X.prog X.w X.K (.Name x px) J fp it tn) (t0:tn 0 s2.heap) (hf:∀ b∈fp,FpOk X pins H2 b) (itr:IterOf X.K H2 th2 J ds)
  (hE:∀ X',CtxOk X' (C' C x sc) G k→PE X' elt (rdE X'.K G pe))
  (hI:(ifs=[]∧cond=none)∨∃ c b,ifs=[c]∧cond=some b∧∀ X',CtxOk X' (C' C x sc) G k→PT X' c (rdB X'.K G b))
  (en:EnvR X.K H2 th2 ρ σ) (w2:Wd X.K th2 h2 H2) (hrun:compL (turnF G pe cond keep ρ) ds h2=some (out,h5)) (hz:out.length≤SZ)
  (hRR:∀ s',CompEnd X pins σ th2 H2 s2 out h5 s'→RR (.ref s2.heap.objs.size) (s2.heap.objs.size+1) (.ok .next) s') :
  wpAny (model X.prog X.w) X.A (newList []) (fun acc s₃=>wpAny (model X.prog X.w) X.A (newFunctionEnv sc X.env.globals (clo X sc) [] X.env.qual none .none (some X.env)) (fun cenv s₄ =>
   codeAny (model X.prog X.w) X.A (.compStart (.ListComp elt [⟨.Name x px,iter,ifs,0⟩] sc pos) 0 (.ref it) acc { cenv with scope:=relabel sc X.env }) (RR acc cenv.locals) s₄) E s₃) E s2:=by
 have hfo:∀ b∈fp,∃ o,s2.heap.get? b=some o:=fun b hb=>let ⟨o,e,_⟩:=T.obj _ _ t0 b hb;⟨o,e⟩
 have fp_lt:∀ b∈fp,b<s2.heap.objs.size:=fun b hb=>let ⟨o,e⟩:=hfo b hb;Heap.lt_size e
 refine wpAny_newObj_type (wpAny_newFunctionEnv Q.nocell (by intro y hy;simp at hy) (fun h₁ hns₁ hsb₁=>?_) Q.kind)
 dsimp only at hns₁ hsb₁ ⊢
 have hC:(s2.heap.push { cls:=.type "list",dict:=none,data:=.seq ([]:List Value).toArray }).objs.size=s2.heap.objs.size+1:=by rw[Heap.size_push]
 rw[hC] at hns₁ hsb₁
 have k4:∀ b o,s2.heap.get? b=some o→h₁.get? b=some o:=fun b o e=>hsb₁.extBut b o (Nat.ne_of_lt (Nat.lt_succ_of_lt (Heap.lt_size e))) (Heap.get?_push_of_some _ (Heap.get?_push_of_some _ e))
 have hacc:h₁.get? s2.heap.objs.size=some (lobj [] 0):=hsb₁.extBut _ _ (Nat.ne_of_lt (Nat.lt_succ_self _)) (Heap.get?_push_of_some _ (Heap.get?_push_size _ rfl))
 have I4:=inv_comp (xe:=notedBy (model X.prog X.w) X.A (compEnvC sc (clo X sc) (s2.heap.objs.size+1) X.env) fun e s'=>RR (.ref s2.heap.objs.size) (s2.heap.objs.size+1) (.error e) s') (tk:=s2.toks+([]:List (Str×Value)).length) I O Q hv hf hfo k4 hacc (fun v z=>nomatch z) hns₁
 have cl_lt:∀ y c,X.env.cells.lookup y=some c→c<s2.heap.objs.size:=fun y c e=>let ⟨v,hv⟩:=I.cell y c e;hv.lt
 have loop:=comp_loop (s4:={ s2 with heap:=h₁,toks:=s2.toks+([]:List (Str×Value)).length }) (iter:=iter) (pos:=pos) (ifs:=ifs) (px:=px) (R:=RR (.ref s2.heap.objs.size) (s2.heap.objs.size+1)) (Cc:=s2.heap.objs.size+1) (acc:=s2.heap.objs.size) O Q (ctx_comp I O Q _) T itr hE hI en w2 hrun hz (Nat.succ_ne_self _) (fun h=>Nat.lt_irrefl _ (fp_lt _ h)) I4
  (T.keep _ _ _ t0 fun b hb o e=>k4 b o e) (fun b hb=>(hf b hb).1) (Nat.le_refl _) (fun y c e=>Nat.ne_of_lt (cl_lt y c (clo_some I O Q e).2)) (fun s' H' th' its n vs xv I' rv ra w' g'=>hRR s' ⟨?_⟩)
 ·rw[hC]
  exact codeAny_compStart_list loop (T.self _ 0 _ _ _ (T.keep _ _ _ t0 fun b hb o e=>k4 b o e) loop)
 ·have J1:Inv X pins σ H' s':=I.call' I'.os I'.base I'.hok I'.bare fun b hb=>⟨(hf b hb).2.2.2.1,(hf b hb).2.1,(hf b hb).2.2.2.2.1,(hf b hb).2.2.2.2.2⟩
  obtain⟨m,hn,_⟩:=I'.loc
  obtain⟨oC,es,epo,hoC,hdC,_⟩:=id hn
  have hpa:=I'.pin (s2.heap.objs.size,lobj its n) (List.mem_append_right _ List.mem_cons_self)
  have hCn:H' (s2.heap.objs.size+1)=none:=I'.free
  have pin_lt:∀ p∈X.pn++pins,p.1<s2.heap.objs.size:=fun p hp=>Heap.lt_size (I.pin p hp).1
  have lsz:vs.length≤sizeLine:=by rw[← ra.length,SZ_eq];exact hz
  have J2:Inv X pins σ (upd H' s2.heap.objs.size (.lst vs)) s':=J1.track hpa.2.1 (Ne.symm (Nat.ne_of_lt I.lt)) (.inr I.sz) (fun y c e=>Nat.ne_of_lt (cl_lt y c e)) (fun p hp=>Nat.ne_of_lt (pin_lt p hp)) hpa.1 rv lsz
  have hoC':s'.heap.get? (s2.heap.objs.size+1)=some oC:=hoC
  have nocell:∀ v,oC.data≠.cell v:=fun v z=>by rw[hdC] at z;cases z
  have J3:Inv X (pins++[(s2.heap.objs.size+1,oC)]) σ (upd H' s2.heap.objs.size (.lst vs)) s':=J2.pins_of fun p hp=>by
   rcases List.mem_append.mp hp with z | z
   ·exact J2.pin p (List.mem_append_right _ z)
   ·have e:p=(s2.heap.objs.size+1,oC):=by simpa using z
    subst e
    refine⟨hoC',by rw[upd_ne (Nat.succ_ne_self _)];exact hCn,Ne.symm (Nat.ne_of_lt (Nat.lt_succ_of_lt I.lt)),fun hb=>?_,nocell⟩
    exact I.nofs (Nat.le_succ _) hb
  have gl:=Gr.laid (H:=H') (o:=.lst vs) th' hpa.2.1
  exact⟨H',th',vs,oC,m,hoC',nocell,hn,J3,.lst (SqL.of upd_same) (w'.notin hpa.2.1) (ra.mono gl w'.kd),w'.laid hpa.2.1,g'.trans gl⟩
theorem e_comp {elt iter:Expr}{ifs:List Expr}{px pos:Pos}{pe:PX}{cond:Option PB}{src:PI} (O:CtxOk X C G k) (Q:CompOk C x sc) (hv:varsOf C (freeNames sc.names)=some keep)
  (hi:L2.PI X (.Name x px) iter (rdI X.K G src)) (hE:∀ X',CtxOk X' (C' C x sc) G k→PE X' elt (rdE X'.K G pe))
  (hI:(ifs=[]∧cond=none)∨∃ c b,ifs=[c]∧cond=some b∧∀ X',CtxOk X' (C' C x sc) G k→PT X' c (rdB X'.K G b)) (hs:∀ v,foldedSetIterable iter X.env v=pure v) :
  PE X (.ListComp elt [⟨.Name x px,iter,ifs,0⟩] sc pos) (rdE X.K G (.comp pe cond src keep)):=by
 intro pins s σ H Qv I hq
 obtain⟨th,ρ,h,d,h',w,en,e1,kk⟩:=hq
 obtain⟨ds,h2,out,q1,q2,hz,rfl⟩:=comp_ev e1
 rw[eval_ListComp]
 refine wpAny_comprehension_free (use:=none) rfl hs (closureFor_eq (cells_free I O Q)) Q.kind Q.locs ?_
 refine thn (hi pins s σ H (fun J H'=>∃ th2,IterOf X.K H' th2 J ds∧Wd X.K th2 h2 H'∧Gr th th2 H H') I ⟨th,ρ,h,ds,h2,w,en,q1,fun J H' th' i w' g=>⟨th',i,w',g⟩⟩) fun v s1 h1=>?_
 refine thn h1 fun itv s2 ⟨it,fp,tn,J,H2,e,I2,T,t0,hf,th2,itr,w2,g2⟩=>?_
 subst e
 refine comp_block (RR:=fun acc Cc=>compPost (model X.prog X.w) X.A X.xe none (EP X pins σ Qv) acc Cc) I2 O Q hv T t0 hf itr hE hI (en.mono g2 w2.kd) w2 q2 hz fun s' ⟨H',th',vs,oC,m,hoC,nc,hn,J3,r,w',g'⟩=>?_
 refine⟨m,hn,fun h'' hs''=>?_⟩
 have J4:Inv X pins σ (upd H' s2.heap.objs.size (.lst vs)) { s' with heap:=h'' }:=by
  have pc:=J3.pin (s2.heap.objs.size+1,oC) (List.mem_append_right _ (List.mem_append_right _ (by simp)))
  refine (J3.unpinned).turned (t':=s'.toks) (it:=s2.heap.objs.size+1) (fun b o hb e=>hs''.extBut b o hb e) pc.2.1 pc.2.2.1 (.inr (Nat.le_trans I2.sz (Nat.le_succ _))) (fun y c e=>?_) fun p hp=>?_
  ·obtain⟨v,hv⟩:=I2.cell y c e
   exact Nat.ne_of_lt (Nat.lt_succ_of_lt hv.lt)
  ·exact Nat.ne_of_lt (Nat.lt_succ_of_lt (Heap.lt_size (I2.pin p hp).1))
 exact⟨.ref s2.heap.objs.size,_,J4,rfl,kk _ _ th' r w' (g2.trans g')⟩
end
section
variable {X:Cx}{C:CC}{G:List Den}{k:Nat}{EX:Nat→Hp→Prop}{x:Str}{sc:Scope}{keep:List Nat}
theorem s_comp {elt iter:Expr}{ifs:List Expr}{px pos py spos:Pos}{pe:PX}{cond:Option PB}{src:PI}{y:Str}{i:Nat} (S:CtxS X C G k EX) (Q:CompOk C x sc) (hv:varsOf C (freeNames sc.names)=some keep)
  (hl:isLoc (lk C.nm y)=true) (hy:C.var y=some i)
  (hsw:swapsWith (.ListComp elt [⟨.Name x px,iter,ifs,0⟩] sc pos) (some (.Name y py)) spos.line X.env=pure true)
  (hi:L2.PI X (.Name x px) iter (rdI X.K G src)) (hE:∀ X',CtxOk X' (C' C x sc) G k→PE X' elt (rdE X'.K G pe))
  (hI:(ifs=[]∧cond=none)∨∃ c b,ifs=[c]∧cond=some b∧∀ X',CtxOk X' (C' C x sc) G k→PT X' c (rdB X'.K G b)) (hs:∀ v,foldedSetIterable iter X.env v=pure v) :
  PS X (.Assign [.Name y py] (.ListComp elt [⟨.Name x px,iter,ifs,0⟩] sc pos) spos) (rdS X.K G EX (.asg (.nm i) (.comp pe cond src keep))):=by
 have O:=S.ok
 intro pins s σ H D0 I hq
 obtain⟨th,ρ,h,w,en,qq⟩:=hq
 unfold exS at qq
 have ee:evR G (.comp pe cond src keep) ρ h=(match ev G (.comp pe cond src keep) ρ h with | some p=>.ok p.1 p.2 | none=>.bad):=rfl
 rw[ee] at qq
 cases e1:ev G (.comp pe cond src keep) ρ h with
 | none=>rw[e1] at qq;exact qq.elim
 | some dd =>
  obtain⟨d,h'⟩:=dd
  rw[e1] at qq
  obtain⟨ds,h2,out,q1,q2,hz,rfl⟩:=comp_ev e1
  have qq:RK X.K EX D0 th H (.nx (ρ.set i (some (.lst out))) h'):=qq
  rw[exec_Assign_Name_used _ _ _ _ hsw]
  refine wpAny_bind (wpAny_standAt (wpAny_bind ?_))
  show wpAny _ X.A (do let _ ← comprehension (.ListComp elt [⟨.Name x px,iter,ifs,0⟩] sc pos) sc X.env _ (newList []) false (eval iter X.env) (some (assign (.Name y py) X.env))) _ _ s
  refine wpAny_bind (wpAny_mono (wpAny_comprehension_free (use:=some (assign (.Name y py) X.env)) (Q:=fun _ s'=>SP X pins D0 .next s') rfl hs (closureFor_eq (cells_free I O Q)) Q.kind Q.locs ?_) (fun _ s' hq=>wpAny_pure (wpAny_pure hq)) fun _ _ e=>e)
  refine thn (hi pins s σ H (fun J H'=>∃ th2,IterOf X.K H' th2 J ds∧Wd X.K th2 h2 H'∧Gr th th2 H H') I ⟨th,ρ,h,ds,h2,w,en,q1,fun J H' th' i w' g=>⟨th',i,w',g⟩⟩) fun v s1 h1=>?_
  refine thn h1 fun itv s2 ⟨it,fp,tn,J,H2,e,I2,T,t0,hf,th2,itr,w2,g2⟩=>?_
  subst e
  refine comp_block (RR:=fun acc Cc=>compPost (model X.prog X.w) X.A X.xe (some (assign (.Name y py) X.env)) (fun _ s'=>SP X pins D0 .next s') acc Cc) I2 O Q hv T t0 hf itr hE hI (en.mono g2 w2.kd) w2 q2 hz fun s' ⟨H',th',vs,oC,m,hoC,nc,hn,J3,r,w',g'⟩=>?_
  have hg:=g_name (pos:=py) S hl hy (pins++[(s2.heap.objs.size+1,oC)]) s' σ (upd H' s2.heap.objs.size (.lst vs)) (.ref s2.heap.objs.size) (.ref s2.heap.objs.size) (fun σ' H''=>H''=upd H' s2.heap.objs.size (.lst vs)∧EnvR X.K H'' th' (ρ.set i (some (.lst out))) σ') J3 rfl
   ⟨th',ρ,h',.lst out,_,w',(en.mono g2 w2.kd).mono g' w'.kd,r,rfl,fun σ' e=>⟨rfl,e⟩⟩
  show wpAny _ X.A (assign (.Name y py) X.env (.ref s2.heap.objs.size)) _ _ _
  refine thn hg fun _ s'' ⟨σ',H'',J4,e4,en4⟩=>?_
  subst e4
  have pc:=J4.pin (s2.heap.objs.size+1,oC) (List.mem_append_right _ (List.mem_append_right _ (by simp)))
  refine⟨m,hn.at fun o e=>by rw[hoC] at e;cases e;exact pc.1,fun h'' hs''=>?_⟩
  have J5:Inv X pins σ' (upd H' s2.heap.objs.size (.lst vs)) { s'' with heap:=h'' }:=by
   refine (J4.unpinned).turned (t':=s''.toks) (it:=s2.heap.objs.size+1) (fun b o hb e=>hs''.extBut b o hb e) pc.2.1 pc.2.2.1 (.inr (Nat.le_trans I2.sz (Nat.le_succ _))) (fun y c e=>?_) fun p hp=>?_
   ·obtain⟨v,hv⟩:=I2.cell y c e
    exact Nat.ne_of_lt (Nat.lt_succ_of_lt hv.lt)
   ·exact Nat.ne_of_lt (Nat.lt_succ_of_lt (Heap.lt_size (I2.pin p hp).1))
  exact⟨σ',_,J5,qq σ' _ th' en4 w' (g2.trans g')⟩
end
section
variable {X:Cx}{C:CC}{G:List Den}{k:Nat}{EX:Nat→Hp→Prop}
theorem e_fn {x:Str}{pos:Pos} (O:CtxOk X C G k) (hg:C.isGl x=true) (h:C.fs.contains x=true):PE X (.Name x pos) (rdE X.K G (.con (.fn x))):=by
 obtain⟨g,pl⟩:=isGl_ok O hg
 obtain⟨h4,h5,_⟩:=plain_debug pl
 obtain⟨a,ha⟩:=O.fa x h pl
 refine (pe_glob (v:=.ref a) g (O.gl x a ha) rfl h4).imp fun σ H Q ⟨th,ρ,ah,d',h',w,e,q,kk⟩=>?_
 cases q
 exact kk _ H th (.fn ha) w (Gr.refl _ _)
theorem r_of {e:Expr}{p:PX} (h:PE X e (rdE X.K G p)) (h1:∀ i ps,p≠.call i ps) (h2:∀ i fs ps,p≠.callV i fs ps) (h3:∀ i c m o xs,p≠.mcall i c m o xs):PE X e (rdR X.K G EX p):=by
 refine h.imp fun σ H Q ⟨th,ρ,h,w,en,e1⟩=>?_
 have ee:evR G p ρ h=(match ev G p ρ h with | some p=>.ok p.1 p.2 | none=>.bad):=by
  unfold evR
  split
  ·exact absurd rfl (h1 _ _)
  ·exact absurd rfl (h2 _ _ _)
  ·exact absurd rfl (h3 _ _ _ _ _)
  ·rfl
 rw[ee] at e1
 cases q:ev G p ρ h with
 | none=>rw[q] at e1;exact e1.elim
 | some d=>rw[q] at e1;exact⟨th,ρ,h,d.1,d.2,w,en,q,e1⟩
theorem evs_len {G:List Den}:∀ {ps:List PX}{ρ:Ev}{h h':AH}{ds:List D},evs G ps ρ h=some (ds,h')→ds.length=ps.length
 | [],ρ,h,h',ds,e=>by unfold evs at e;cases e;rfl
 | p::ps,ρ,h,h',ds,e=>by
  unfold evs at e
  obtain⟨⟨d1,h1⟩,q1,e⟩:=obs e
  obtain⟨⟨d2,h2⟩,q2,e⟩:=obs e
  cases e
  simp[evs_len q2]
theorem s_rai {x:Str}{c:Nat}{e:Expr}{es:List Expr}{ps:List PX}{np cpos pos:Pos} (S:CtxS X C G k EX) (hg:C.isGl x=true) (hc:errs.findIdx? (·==x)=some c) (her:C.er.contains c=true) (hl:ps.length≤20) (ha:PA X (e::es) (rdA X.K G ps))
  (he:starEach (e::es) X.env=(false,eval e X.env)::starEach es X.env) (hpl:(backTo cpos (starEach es X.env)).any (·.1)=false) :
  PS X (.Raise (some (.Call (.Name x np) (e::es) [] cpos)) none pos) (rdS X.K G EX (.rai c ps)):=by
 have O:=S.ok
 obtain⟨g,pl⟩:=isGl_ok O hg
 obtain⟨h4,h5,_⟩:=plain_debug pl
 obtain⟨x',Ca,bm,nid,B,iid,hx',OC,FB⟩:=S.er c her
 have ex:x'=x:=by
  have:=findIdx_get hc
  rw[hx'] at this
  exact Option.some.inj this
 subst ex
 intro pins s σ H D0 I hq
 obtain⟨th,ρ,h,w,en,qq⟩:=hq
 unfold exS at qq
 cases q1:evs G ps ρ h with
 | none=>rw[q1] at qq;exact qq.elim
 | some dd =>
  obtain⟨ds,h1⟩:=dd
  rw[q1] at qq
  have qq:∀ H' th',Wd X.K th' h1 H'→Gr th th' H H'→EX c H':=qq
  have ecv:ecV X.mg c=.ref Ca:=by
   unfold ecV
   rw[hx']
   show (X.mg x').getD .none=_
   rw[OC.bound]
   rfl
  obtain⟨tl,N,nm,q,bs,hdct,sn,sub,ab,col,dd',k0,k1,k2,k3,k5,mN,hC,hN,hni,T⟩:=OC.obj
  refine wpAny_Raise_call_subT (C:=Ca) (nm:=nm) (q:=q) (N:=N) (bs:=bs) (bm:=tl) (hdct:=hdct) (sn:=sn) (sub:=sub) (ab:=ab) (col:=col) (dd:=dd') (k0:=k0) (k1:=k1) (k2:=k2) (k3:=k3) (k5:=k5)
   FB (mN:=mN) (T.hasType FB.hasBase) (I.ok.hd O.calm) (by rw[he];show (false||(backTo cpos (starEach es X.env)).any (·.1))=false;rw[hpl];rfl) hni (ld_glob I g OC.bound ⟨rfl,?_⟩ h4)
  have run:=ha cpos pins s σ H (fun vs H1=>∃ th1,RepVs X.K H1 th1 ds vs∧Wd X.K th1 h1 H1∧Gr th th1 H H1) I ⟨th,ρ,h,ds,h1,w,en,q1,fun vs H1 th1 r1 w1 g1=>⟨th1,r1,w1,g1⟩⟩
  have run2:wpAny (model X.prog X.w) X.A (spliced (backTo cpos (starEach (e::es) X.env))) (fun us s2=>us.length≤sizeLine∧(∀ b o,X.base.get? b=some o→s2.heap.get? b=some o)∧∀ h' e,Heap.MadeExcOf s2.heap h' e (.ref Ca) us→X.xe (.ref e) { s2 with heap:=h' }) X.xe s:=by
   refine thn run fun us s2 ⟨vs,H1,I2,r,th1,r1,w1,gr1⟩=>⟨?_,I2.bk,fun h' e2 hm=>?_⟩
   ·rw[← r.length,← r1.length,evs_len q1,SZ_eq]
    show ps.length≤16777216
    omega
   ·rcases S.xm with z | xm
    ·rw[z] at her;cases her
    ·exact xm I2 hm ⟨c,ecv.symm,qq H1 th1 w1 gr1⟩
  rw[he] at run2 ⊢
  exact Calls.evalArgs_plain (wpAny_mono run2 (fun vs s₂ h₂=>⟨rfl,h₂.1,h₂.2.1 _ _ hC,hN.keeps h₂.2.1,T.keeps h₂.2.1,h₂.2.2⟩) fun _ _ y=>y)
end
structure RoomH (k:Nat) (A:Around):Prop where
 dp:A.depth+3 * k+5<recursionLimit
 un:A.units+16 * k+200<cLine
def WordOk (P:Program) (w:World) (K:PySem.W.Frag) (mg:Str→Option Value) (base:Heap) (k:Nat) (W:Str) (ws:List (Nat×D)):Prop :=
 ∃ fa:Addr,mg W=some (.ref fa)∧PySem.W.keepIn K (.ref fa)=true∧∀ (A:Around) (outer:List Env) (s:Shared) (H:Hp) (x:Addr) (ob:Obj) (vs:Array Value) (c:Nat) (t:List Nat),
  A.handled=some (.ref x)→RoomH k A→Env0 P w K mg base A outer s H→s.heap.get? x=some ob→ob.cls=ecV mg c→ob.data=.fields vs→vs[2]?=some .none→H x=none→x ∉ frs outer→ws.lookup c=some (.str t) →
   codeAny (model P w) A (.call (.ref fa) ⟨[.ref x],[]⟩) (L2.CR CX0 outer P w H s (fun v H'=>v=.str (SS t)∧∀ b o,H b=some o→H' b=some o) E0) s
def TwOk (X:Cx) (C:CC) (k:Nat):Prop:=∀ P W ws,C.tw=some (P,W,ws)→∃ Pc,X.mg P=some (.ref Pc)∧WordOk X.prog X.w X.K X.mg X.base k W ws∧∀ c d,ws.lookup c=some d→PySem.W.exmOne X.K (ecV X.mg c) (.ref Pc)=some true
noncomputable def noCall:PX→Bool
 | .call _ _ | .callV _ _ _ | .mcall _ _ _ _ _=>false
 | _=>true
def UC (C:CC) (x:Str) (sc:Scope) (G:List Den) (k:Nat) (P:Cx→Prop):Prop:=∀ X',CtxOk X' (C' C x sc) G k→P X'
theorem uc_mk {C:CC}{x:Str}{sc:Scope}{G:List Den}{k:Nat}{P:Cx→Prop} (h:∀ X',CtxOk X' (C' C x sc) G k→P X'):UC C x sc G k P:=h
section
variable {X:Cx}{C:CC}{G:List Den}{k:Nat}{EX:Nat→Hp→Prop}
theorem x_con {c:Const}{j:Nat}{pos:Pos}{p:PX} (h:kCon c=some p):PE X (.Constant c j pos) (rdE X.K G p):=by
 cases c with
 | none=>cases h;exact e_con pe_non fun H th=>.non
 | bool b=>cases h;exact e_con pe_bl fun H th=>.bl b
 | int i=>cases h;exact e_con pe_int fun H th=>.int i
 | str s =>
  cases h
  refine e_con pe_str fun H th=>?_
  have:s=SS s.cps.toList:=by cases s;simp[SS]
  rw[this]
  exact .str _
 | _=>cases h
theorem x_name {x:Str}{pos:Pos}{p:PX} (O:CtxOk X C G k) (h:kName C x=some p):PE X (.Name x pos) (rdE X.K G p):=by
 unfold kName at h
 split at h
 ·rename_i i hv;cases h;exact e_var O hv
 ·split at h
  ·rename_i hg
   cases e:List.lookup x C.ct with
   | none =>
    rw[e] at h
    dsimp only at h
    split at h
    ·rename_i hf;cases h;exact e_fn O hg hf
    ·cases h
   | some d=>rw[e] at h;cases h;exact e_glob O hg e
  ·cases h
theorem d_rng {tg a:Expr}{p:PX}{ps pos:Pos} (O:CtxOk X C G k) (hgl:C.isGl "range"=true) (hbl:C.bl.contains "range"=true) (hs:starEach [a] X.env=[(false,eval a X.env)]) (ha:PE X a (rdE X.K G p)):L2.PI X tg (.Call (.Name "range" ps) [a] [] pos) (rdI X.K G (.rng p)) :=
 i_rng (isGl_ok O hgl).1 (O.bl _ hbl) ha hs
theorem d_r {e:Expr}{p:PX} (hn:noCall p=true) (h:PE X e (rdE X.K G p)):PE X e (rdR X.K G EX p) :=
 r_of h (fun i ps z=>by rw[z] at hn;cases hn) (fun i fs ps z=>by rw[z] at hn;cases hn) fun i c m o xs z=>by rw[z] at hn;cases hn
theorem d_comp0 {x:Str}{sc:Scope}{keep:List Nat}{elt iter:Expr}{px pos:Pos}{pe:PX}{src:PI} (O:CtxOk X C G k) (Q:compOk C x sc=true) (hv:varsOf C (freeNames sc.names)=some keep) (hs:∀ v,foldedSetIterable iter X.env v=pure v)
  (hi:L2.PI X (.Name x px) iter (rdI X.K G src)) (hE:UC C x sc G k fun X'=>PE X' elt (rdE X'.K G pe)):PE X (.ListComp elt [⟨.Name x px,iter,[],0⟩] sc pos) (rdE X.K G (.comp pe none src keep)) :=
 e_comp O (compOk_of Q) hv hi hE (.inl ⟨rfl,rfl⟩) hs
theorem d_comp1 {x:Str}{sc:Scope}{keep:List Nat}{elt iter c:Expr}{px pos:Pos}{pe:PX}{b:PB}{src:PI} (O:CtxOk X C G k) (Q:compOk C x sc=true) (hv:varsOf C (freeNames sc.names)=some keep) (hs:∀ v,foldedSetIterable iter X.env v=pure v)
  (hi:L2.PI X (.Name x px) iter (rdI X.K G src)) (hE:UC C x sc G k fun X'=>PE X' elt (rdE X'.K G pe)) (hT:UC C x sc G k fun X'=>PT X' c (rdB X'.K G b)):PE X (.ListComp elt [⟨.Name x px,iter,[c],0⟩] sc pos) (rdE X.K G (.comp pe (some b) src keep)) :=
 e_comp O (compOk_of Q) hv hi hE (.inr ⟨c,b,rfl,rfl,hT⟩) hs
theorem d_asgC {x y:Str}{sc:Scope}{keep:List Nat}{elt iter:Expr}{px py cp pos:Pos}{pe:PX}{src:PI}{i:Nat} (S:CtxS X C G k EX) (hl:isLoc (lk C.nm y)=true) (hy:C.var y=some i) (Q:compOk C x sc=true) (hv:varsOf C (freeNames sc.names)=some keep) (hs:∀ v,foldedSetIterable iter X.env v=pure v)
  (hi:L2.PI X (.Name x px) iter (rdI X.K G src)) (hE:UC C x sc G k fun X'=>PE X' elt (rdE X'.K G pe)):PS X (.Assign [.Name y py] (.ListComp elt [⟨.Name x px,iter,[],0⟩] sc cp) pos) (rdS X.K G EX (.asg (.nm i) (.comp pe none src keep))):=by
 have hsw:∃ b:Bool,swapsWith (.ListComp elt [⟨.Name x px,iter,[],0⟩] sc cp) (some (.Name y py)) pos.line X.env=pure b:=⟨_,rfl⟩
 obtain⟨b,hb⟩:=hsw
 cases b with
 | false=>exact s_asg (d_r rfl (d_comp0 S.ok Q hv hs hi hE)) (g_name S hl hy) hb rfl rfl
 | true=>exact s_comp S (compOk_of Q) hv hl hy hb hi hE (.inl ⟨rfl,rfl⟩) hs
theorem d_rai {x:Str}{c:Nat}{e:Expr}{es:List Expr}{ps:List PX}{np cpos pos:Pos} (S:CtxS X C G k EX) (hg:C.isGl x=true) (hc:errs.findIdx? (·==x)=some c) (her:C.er.contains c=true) (hl:Nat.ble ps.length 20=true)
  (he:starEach (e::es) X.env=(false,eval e X.env)::starEach es X.env) (hpl:(backTo cpos (starEach es X.env)).any (·.1)=false) (ha:PA X (e::es) (rdA X.K G ps)) :
  PS X (.Raise (some (.Call (.Name x np) (e::es) [] cpos)) none pos) (rdS X.K G EX (.rai c ps)):=s_rai S hg hc her (Nat.le_of_ble_eq_true hl) ha he hpl
theorem d_for {tg iter:Expr}{body:List Stmt}{t:PTg}{it:PI}{b:List PSt}{pos:Pos} (S:CtxS X C G k EX) (hs:∀ x,foldedSetIterable iter X.env x=pure x) (hi:L2.PI X tg iter (rdI X.K G it)) (hg:PG X tg (rdG X.K t))
  (hb:PSs X body (rdSs X.K G EX b)):PS X (.For tg iter body [] pos) (rdS X.K G EX (.forS t it b)):=s_for S.own S.ok.calm hi hg hb hs
theorem t_and {a b:Expr}{rest:List Expr}{p q:PB}{pos:Pos} (ha:PT X a (rdB X.K G p)) (hb:PW X (.BoolOp .And (b::rest) pos) (rdB X.K G q)):PT X (.BoolOp .And (a::b::rest) pos) (rdB X.K G (.and p q)):=(w_and ha hb).pt
theorem t_or {a b:Expr}{rest:List Expr}{p q:PB}{pos:Pos} (ha:PT X a (rdB X.K G p)) (hb:PW X (.BoolOp .Or (b::rest) pos) (rdB X.K G q)):PT X (.BoolOp .Or (a::b::rest) pos) (rdB X.K G (.or p q)):=(w_or ha hb).pt
theorem d_blt {x:Str}{b:Bl}{e:Expr}{es:List Expr}{ps:List PX}{p pos:Pos} (O:CtxOk X C G k) (hx:C.isGl x=true) (hl:C.bl.contains x=true) (h:bltOf x ps=some (.blt b ps))
  (he:starEach (e::es) X.env=(false,eval e X.env)::starEach es X.env) (hpl:(backTo pos (starEach es X.env)).any (·.1)=false) (ha:PA X (e::es) (rdA X.K G ps)) :
  PE X (.Call (.Name x p) (e::es) [] pos) (rdE X.K G (.blt b ps)):=e_blt O hx hl h ha he hpl
end
section
variable {X:Cx}{C:CC}{G:List Den}{k:Nat}{EX:Nat→Hp→Prop}
theorem CtxOk.un1 (O:CtxOk X C G k):X.A.units+1<cLine:=by have:=O.units;omega
theorem d_fld {o:Expr}{p:PX}{c f:Str}{pos:Pos} (O:CtxOk X C G k) (hf:C.fd.contains (c,f)=true) (hb:attributeBase o f X.env (eval o X.env)=eval o X.env) (ho:PE X o (rdE X.K G p)):PE X (.Attribute o f pos) (rdE X.K G (.fld c p f)) :=
 e_fld (O.fd c f hf) hb ho
theorem d_dget {o i:Expr}{p q:PX}{pos:Pos} (O:CtxOk X C G k) (hs:NoSl i) (ho:PE X o (rdE X.K G p)) (hi:PE X i (rdE X.K G q)):PE X (.Subscript o i pos) (rdE X.K G (.dget p q)):=e_dget O.un1 hs ho hi
theorem d_dgetN {o i:Expr}{p q:PX}{apos cpos:Pos} (O:CtxOk X C G k) (h1:attributeBase o "get" X.env (eval o X.env)=eval o X.env)
  (h2:((backTo cpos (starEach [i] X.env)).all (fun x=>!x.1)&&(backToKw cpos (keywordEach [] X.env)).all (fun x=>x.1.isSome)&&decide (([i]:List Expr).length+([]:List Keyword).length+(if ([]:List Keyword).isEmpty then 0 else 1)<30))=true)
  (h3:(apos.endLine==cpos.line)=true) (h4:backTo cpos (starEach [i] X.env)=[(false,eval i X.env)]) (ho:PE X o (rdE X.K G p)) (hi:PE X i (rdE X.K G q)):PE X (.Call (.Attribute o "get" apos) [i] [] cpos) (rdE X.K G (.dgetN p q)) :=
 e_dgetN O.un1 ⟨h1,h2,h3,h4⟩ ho hi
theorem d_dpopN {o i:Expr}{p q:PX}{apos cpos fp:Pos}{j:Nat} (h1:attributeBase o "pop" X.env (eval o X.env)=eval o X.env)
  (h2:((backTo cpos (starEach [i,.Constant .none j fp] X.env)).all (fun x=>!x.1)&&(backToKw cpos (keywordEach [] X.env)).all (fun x=>x.1.isSome)&&decide (([i,.Constant .none j fp]:List Expr).length+([]:List Keyword).length+(if ([]:List Keyword).isEmpty then 0 else 1)<30))=true)
  (h3:(apos.endLine==cpos.line)=true) (h4:backTo cpos (starEach [i,.Constant .none j fp] X.env)=[(false,eval i X.env),(false,eval (.Constant .none j fp) X.env)]) (ho:PE X o (rdE X.K G p)) (hi:PE X i (rdE X.K G q)) :
  PE X (.Call (.Attribute o "pop" apos) [i,.Constant .none j fp] [] cpos) (rdE X.K G (.dpopN p q)):=e_dpopN ⟨h1,h2,h3,h4⟩ ho hi pe_non
theorem d_din {o i:Expr}{p q:PX}{pos:Pos} (O:CtxOk X C G k) (hm:behindInMarks .In o=false) (hi:PE X i (rdE X.K G q)) (ho:PE X o (rdE X.K G p)):PE X (.Compare i [.In] [o] pos) (rdE X.K G (.din false q p)):=e_din O.un1 hm hi ho
theorem d_fset {o e:Expr}{p q:PX}{c f:Str}{pos' pos:Pos} (O:CtxOk X C G k) (hf:C.fd.contains (c,f)=true) (hs:swapsWith e (some (.Attribute o f pos')) pos.line X.env=pure false) (he:PE X e (rdR X.K G EX q)) (ho:PE X o (rdE X.K G p)) :
  PS X (.Assign [.Attribute o f pos'] e pos) (rdS X.K G EX (.fset c p f q)):=s_fset (O.fd c f hf) hs he ho
theorem d_dput {o i e:Expr}{p q r:PX}{pos' pos:Pos} (O:CtxOk X C G k) (hs:swapsWith e (some (.Subscript o i pos')) pos.line X.env=pure false) (he:PE X e (rdR X.K G EX r)) (ho:PE X o (rdE X.K G p)) (hi:PE X i (rdE X.K G q)) :
  PS X (.Assign [.Subscript o i pos'] e pos) (rdS X.K G EX (.dput p q r)):=s_dput O.un1 hs he ho hi
theorem d_forD {tg iter:Expr}{body:List Stmt}{t:PTg}{p:PX}{b:List PSt}{pos:Pos} (S:CtxS X C G k EX) (hs:∀ x,foldedSetIterable iter X.env x=pure x) (ho:PE X iter (rdE X.K G p)) (hg:PG X tg (rdG X.K t))
  (hb:PSs X body (rdSs X.K G EX b)):PS X (.For tg iter body [] pos) (rdS X.K G EX (.forD t p b)):=s_forD S.own S.ok.calm ho hg hb hs
theorem d_rmcall {i:Nat}{c m:Str}{o e:Expr}{es:List Expr}{p:PX}{qs:List PX}{apos pos:Pos} (O:CtxOk X C G k) (xc:XC X (toE X.mg EX)) (hM:C.ms.contains (i,c,m)=true)
  (hst:starEach (e::es) X.env=(false,eval e X.env)::starEach es X.env) (hpl:(backTo pos (starEach es X.env)).any (·.1)=false)
  (ht:∃ pl,eval (.Call (.Attribute o m apos) (e::es) [] pos) X.env=(do
   let ov ← eval o X.env
   standAt apos.atName
   let (f,first) ← holding [ov] (getMethod ov m pl)
   callWith pos f first (backTo pos (starEach (e::es) X.env)) (backToKw pos (keywordEach [] X.env))))
  (ho:PE X o (rdE X.K G p)) (ha:PA X (e::es) (rdA X.K G qs)):PE X (.Call (.Attribute o m apos) (e::es) [] pos) (rdR X.K G EX (.mcall i c m p qs)) :=
 r_mcall (fun f h=>O.ms i c m f hM h) O.room xc hst hpl ht ho ha
theorem d_mcall {i:Nat}{c m:Str}{o e:Expr}{es:List Expr}{p:PX}{qs:List PX}{apos pos:Pos} (O:CtxOk X C G k) (hM:C.ms.contains (i,c,m)=true)
  (hst:starEach (e::es) X.env=(false,eval e X.env)::starEach es X.env) (hpl:(backTo pos (starEach es X.env)).any (·.1)=false)
  (ht:∃ pl,eval (.Call (.Attribute o m apos) (e::es) [] pos) X.env=(do
   let ov ← eval o X.env
   standAt apos.atName
   let (f,first) ← holding [ov] (getMethod ov m pl)
   callWith pos f first (backTo pos (starEach (e::es) X.env)) (backToKw pos (keywordEach [] X.env))))
  (ho:PE X o (rdE X.K G p)) (ha:PA X (e::es) (rdA X.K G qs)):PE X (.Call (.Attribute o m apos) (e::es) [] pos) (rdE X.K G (.mcall i c m p qs)) :=
 e_mcall (fun f h=>O.ms i c m f hM h) O.room hst hpl ht ho ha
theorem d_mcall0 {i:Nat}{c m:Str}{o:Expr}{p:PX}{apos pos:Pos} (O:CtxOk X C G k) (hM:C.ms.contains (i,c,m)=true)
  (ht:∃ pl,eval (.Call (.Attribute o m apos) [] [] pos) X.env=(do
   let ov ← eval o X.env
   standAt apos.atName
   let (f,first) ← holding [ov] (getMethod ov m pl)
   callWith pos f first (backTo pos (starEach [] X.env)) (backToKw pos (keywordEach [] X.env))))
  (ho:PE X o (rdE X.K G p)):PE X (.Call (.Attribute o m apos) [] [] pos) (rdE X.K G (.mcall i c m p [])):=e_mcall0 (fun f h=>O.ms i c m f hM h) O.room ht ho
theorem make_none {i:Nat}{c:Str}{qs:List PX} (hG:G[i]?=none) {σ:L2.St}{H:Hp}{Q:VK} (h:rdE X.K G (.make i c qs) σ H Q):False:=by
 obtain⟨th,ρ,h,d,h',w,en,e1,kk⟩:=h
 rw[ev] at e1
 obtain⟨⟨ds,h1⟩,q1,e1⟩:=obs e1
 rw[hG] at e1
 cases e1
theorem d_make {i:Nat}{c:Str}{e:Expr}{es:List Expr}{qs:List PX}{p pos:Pos} (O:CtxOk X C G k) (hM:C.mn.contains (i,c)=true) (hg:C.isGl c=true)
  (hst:starEach (e::es) X.env=(false,eval e X.env)::starEach es X.env) (hpl:(backTo pos (starEach es X.env)).any (·.1)=false) (ha:PA X (e::es) (rdA X.K G qs)):PE X (.Call (.Name c p) (e::es) [] pos) (rdE X.K G (.make i c qs)):=by
 obtain⟨g,pl⟩:=isGl_ok O hg
 obtain⟨h4,h5,_⟩:=plain_debug pl
 cases hG:G[i]? with
 | none=>exact pe_false fun σ H Q h=>make_none hG h
 | some f =>
  obtain⟨j,hj,M⟩:=O.mn i c f hM hG
  exact e_make (fun f' h=>by rw[hG] at h;cases h;exact M) (O.room.mono hj) g h4 hst hpl ha
theorem d_make0 {i:Nat}{c:Str}{p pos:Pos} (O:CtxOk X C G k) (hM:C.mn.contains (i,c)=true) (hg:C.isGl c=true):PE X (.Call (.Name c p) [] [] pos) (rdE X.K G (.make i c [])):=by
 obtain⟨g,pl⟩:=isGl_ok O hg
 obtain⟨h4,h5,_⟩:=plain_debug pl
 cases hG:G[i]? with
 | none=>exact pe_false fun σ H Q h=>make_none hG h
 | some f =>
  obtain⟨j,hj,M⟩:=O.mn i c f hM hG
  exact e_make0 (fun f' h=>by rw[hG] at h;cases h;exact M) (O.room.mono hj) g h4
end
theorem args_min_kd (a v d:Value):argsOk "min" ⟨[a],[(Str.ofString "key",v),(Str.ofString "default",d)]⟩:=by unfold argsOk;kernel_rfl
theorem ints_of:∀ {l:List D}{ns:List Int},ints? l=some ns→l=ns.map .int
 | [],ns,e=>by cases e;rfl
 | a::l,ns,e=>by
  cases a with
  | int i =>
   have e:(ints? l).map (i::·)=some ns:=e
   cases q:ints? l with
   | none=>rw[q] at e;cases e
   | some r =>
    rw[q] at e
    cases e
    rw[ints_of q]
    rfl
  | _=>cases e
theorem ints_mapD:∀ l:List Int,ints? (l.map .int)=some l
 | []=>rfl
 | a::l=>by
  show (ints? (l.map .int)).map (a::·)=_
  rw[ints_mapD l]
  rfl
theorem lexLt_ltL:∀ a b:List Int,HT.lexLt a b=ltL a b
 | [],[]=>rfl
 | [],_::_=>rfl
 | _::_,[]=>rfl
 | x::a,y::b=>by
  have ih:=lexLt_ltL a b
  unfold HT.lexLt ltL
  first | rw[ih] | simp[ih]
section
variable {X:Cx}{k:Nat}{f:Addr}{fd:FuncData}{ps:List Str}{sp:Sp}{pins:List (Addr×Obj)}{σ:L2.St}
theorem run_key {H:Hp}{s:Shared}{Q:VK}{us:List Value}{vs:List V}{E':Value→Shared→Prop} (F:FnOk X.prog X.w X.K X.mg X.base (CXM X.prog X.w) k f fd ps sp) (hr:Room (k+1) X.A) (hb:Binds X.K fd ps []) (I:Inv X pins σ H s) (r:Vals vs us) (h:sp vs H Q E0) :
  wpAny (model X.prog X.w) X.A.in1 (call (.ref f) us) (EP X pins σ Q) E' s:=by
 have hl:(us++[]).length=ps.length:=by rw[List.append_nil,← r.length];exact F.len _ _ _ _ h
 refine wpAny_call (codeAny_mono (F.run X.A.in1 X.stack s H ⟨us,[]⟩ (us++[]) vs Q E0 hr.in1 I.env0.in1 (hb s us I.kIn hl) (by rw[List.append_nil];exact r) h) fun r s' hq=>?_)
 cases r with
 | error e =>
  obtain⟨_,_,_,_,_,_,_,_,_,_,_,_,z⟩:=hq
  exact z.elim
 | ok fl =>
  cases fl with
  | ret u=>exact I.after hq
  | next=>exact False.elim hq
  | brk=>exact False.elim hq
  | cont=>exact False.elim hq
theorem Inv.setS {H:Hp}{s:Shared}{S:Addr}{xs:Array Value}{n:Nat} (I:Inv X pins σ H s) (f2:FpOk X pins H S) (ho:s.heap.get? S=some (seqObj "list" xs n)) (g:Array Value→Array Value) (t:Nat) :
  Inv X pins σ H { s with heap:=s.heap.update S (Obj.mapSeq g),toks:=t }:=by
 have s1:=Heap.SameBut.update s.heap S (Obj.mapSeq g)
 obtain⟨g0,g1,g2,g3,g4,g5⟩:=f2
 exact I.turned (fun b o hb e=>(s1.2 b hb).trans e) g0 g1 g3 g4 g5
variable {φ:Den}{l S J:Addr}{h:AH}{xs:List D}
theorem key_ok {j:Nat}{mg:Str→Option Value}{th:Th}{H:Hp}{x:D}{v:V}{ks:List Int}{E:XK} (ar:∀ ds h,φ ds h≠.bad→ds.length=j) (w:Wd X.K th h H) (r:RepV X.K H th x v) (e:keyO φ h x=some ks) :
  spOf X.K mg j φ [v] H (fun u H2=>∃ th2,RepV X.K H2 th2 (.tup (ks.map .int)) u∧Wd X.K th2 h H2∧Gr th th2 H H2) E:=by
 unfold keyO at e
 cases q:φ [x] h with
 | ok d h' =>
  rw[q] at e
  cases d with
  | tup kd =>
   dsimp only at e
   by_cases hh:h'=h
   ·rw[if_pos hh] at e
    subst hh
    have ek:=ints_of e
    subst ek
    refine⟨?_,th,h',[x],w,.cons r .nil,?_⟩
    ·have:=ar [x] h' (by rw[q];intro z;cases z)
     simpa using this
    ·rw[q]
     exact fun v H' th' r w g=>⟨th',r,w,g⟩
   ·rw[if_neg hh] at e;cases e
  | _=>cases e
 | exc c h'=>rw[q] at e;cases e
 | bad=>rw[q] at e;cases e
theorem min_loop (F:FnOk X.prog X.w X.K X.mg X.base (CXM X.prog X.w) k f fd ps (spOf X.K X.mg ps.length φ)) (hr:Room (k+1) X.A) (hb:Binds X.K fd ps []) (ar:∀ ds h,φ ds h≠.bad→ds.length=ps.length) (hc:X.calm=true) (hlJ:l≠J) (hSJ:S≠J) {d d1:D} (ev1:vw h d1=.lst xs) :
  ∀ (n j:Nat) (H:Hp) (s:Shared) (th:Th) (b:D) (vB:V) (vb:Value) (ks:List Int) (ka:Addr) (c:Nat) (Q:VK),xs.length - j=n→j≤xs.length→Inv X pins σ H s→Wd X.K th h H→RepV X.K H th d1 (.ref l) →
   s.heap.IsListIter J l j→s.heap.get? S=some (seqObj "list" #[vb,.ref ka] c)→FpOk X pins H S→FpOk X pins H J→RelV vB vb→RepV X.K H th b vB→RepV X.K H th (.tup (ks.map .int)) (.ref ka)→minGo φ h (xs.drop j) b ks=some d →
   (∀ v H' th',RepV X.K H' th' d v→Wd X.K th' h H'→Gr th th' H H'→Q v H') →
   codeAny (model X.prog X.w) X.A (.builtin "min.loop" ⟨[.ref J,.ref f,.ref S],[(Str.ofString "default",.none)]⟩) (fun r s'=>match r with | .ok (.ret v)=>EP X pins σ Q v s' | .ok _=>False | .error e=>X.xe e s') s:=by
 have hname:(toString "min"++toString ".loop":String)="min.loop":=by decide
 intro n
 induction n with
 | zero =>
  intro j H s th b vB vb ks ka c Q hn hj I wd r1 hit hS fS fJ rb rB rK e kk
  obtain⟨_,vs0,el,sq,rxs⟩:=RepW.ilst (ev1▸r1.view wd)
  cases el
  have ej:j=xs.length:=by omega
  subst ej
  rw[List.drop_length,minGo] at e
  cases e
  obtain⟨its,rv,pl,hz⟩:=I.list sq
  have hlen:its.length=xs.length:=by rw[rxs.length,rv.length]
  have W:=Walks.list (prog:=X.prog) (w:=X.w) (A:=X.A.in1) (I.ok.hd hc) J l hlJ its.toArray
  refine codeAny_builtin PySem.F.entry_min_loop ?_
  rw[Around.under_plainId PySem.F.plain_min_loop _]
  show wpAny _ X.A.in1 (seqItems? (.ref S)>>=_) _ _ _
  refine wpAny_bind (wpAny_seqItems hS rfl ?_)
  show wpAny _ X.A.in1 (tryCatch (pyNext (.ref J)) _>>=_) _ _ _
  refine wpAny_bind (wpAny_tryCatch (W.done _ _ _ ⟨by rw[List.size_toArray,hlen];exact hit,pl.isList⟩ fun h' tk' hk'=>?_))
  obtain⟨f0,f1,f2,f3,f4,f5⟩:=id fJ
  have I1:Inv X pins σ H { s with heap:=h',toks:=tk' }:=I.turned (fun b o hb e=>hk' b o (by simpa using hb) e) f0 f1 f3 f4 f5
  have hS':=hk' S _ (by simpa using hSJ) hS
  show wpAny _ X.A.in1 (updateSeq S (fun _=>#[])>>=_) _ _ _
  refine wpAny_bind ?_
  refine wpAny_updateSeq hS' rfl (wpAny_bind (wpAny_letGo (wpAny_pure ?_)))
  exact⟨vB,H,Inv.setS I1 fS hS' (fun _=>#[]) _,rb,kk vB H th rB wd (Gr.refl _ _)⟩
 | succ n ih =>
  intro j H s th b vB vb ks ka c Q hn hj I wd r1 hit hS fS fJ rb rB rK e kk
  obtain⟨_,vs0,el,sq,rxs⟩:=RepW.ilst (ev1▸r1.view wd)
  cases el
  have hlt:j<xs.length:=by omega
  have hdr:xs.drop j=xs[j]::xs.drop (j+1):=List.drop_eq_getElem_cons hlt
  rw[hdr,minGo] at e
  obtain⟨ks',ek,e⟩:=obs e
  obtain⟨its,rv,pl,hz⟩:=I.list sq
  have hlen:its.length=xs.length:=by rw[rxs.length,rv.length]
  have W:=Walks.list (prog:=X.prog) (w:=X.w) (A:=X.A.in1) (I.ok.hd hc) J l hlJ its.toArray
  refine codeAny_builtin PySem.F.entry_min_loop ?_
  rw[Around.under_plainId PySem.F.plain_min_loop _]
  show wpAny _ X.A.in1 (seqItems? (.ref S)>>=_) _ _ _
  refine wpAny_bind (wpAny_seqItems hS rfl ?_)
  show wpAny _ X.A.in1 (tryCatch (pyNext (.ref J)) _>>=_) _ _ _
  refine wpAny_bind (wpAny_tryCatch (W.item j _ _ _ (by rw[List.size_toArray,hlen];exact hlt) ⟨hit,pl.isList⟩ fun v h' tk' hP hst' hk'=>?_))
  have hv:its[j]?=some v:=by simpa using hP
  obtain⟨f0,f1,f2,f3,f4,f5⟩:=id fJ
  have I1:Inv X pins σ H { s with heap:=h',toks:=tk' }:=I.turned (fun b o hb e=>hk' b o (by simpa using hb) e) f0 f1 f3 f4 f5
  have hS':=hk' S _ (by simpa using hSJ) hS
  obtain⟨oJ,hoJ,hoc,hod⟩:=id hst'.1
  obtain⟨vx,ex,rx⟩:=rxs.get (List.getElem?_eq_getElem hlt)
  obtain⟨vx',ex',rel⟩:∃ u,its[j]?=some u∧RelV vx u:=rv.get ex
  rw[hv] at ex'
  cases ex'
  have I1':=I1.pinned (fp:=[J,S]) (fun b hb=>by
   rcases List.mem_cons.mp hb with rfl | hb
   ·exact fJ
   ·rw[List.mem_singleton.mp hb];exact fS) (fun b hb=>by
   rcases List.mem_cons.mp hb with rfl | hb
   ·exact⟨oJ,hoJ,fun v z=>by rw[hod] at z;cases z⟩
   ·rw[List.mem_singleton.mp hb];exact⟨_,hS',fun v z=>by cases z⟩)
  show wpAny _ X.A.in1 (tryCatch (holding [v] (call (.ref f) [v])) _>>=_) _ _ _
  refine wpAny_bind (wpAny_tryCatch (wpAny_holding (thn (run_key F hr hb I1' (.cons rel .nil) (key_ok ar wd rx ek)) fun u s2 ⟨vk,H2,I2,rk,th2,rK2,wd2,g2⟩=>?_)))
  have pJ:=(I2.pin (J,oJ) (List.mem_append_right _ (List.mem_append_right _ (mem_pinsAt (by simp) hoJ))))
  have pS:=(I2.pin (S,_) (List.mem_append_right _ (List.mem_append_right _ (mem_pinsAt (by simp) hS'))))
  have I3:=I2.unpinned
  obtain⟨kk2,vs2,evk,sq2,rs2⟩:=RepW.itup (show RepW X.K H2 th2 (.tup (ks'.map .int)) vk from rK2)
  subst evk
  cases rk
  obtain⟨_,vs1,e1,sq1,rs1⟩:=RepW.itup (show RepW X.K H2 th2 (.tup (ks.map .int)) (.ref ka) from rK.mono g2 wd2.kd)
  cases e1
  obtain⟨it1,rv1,p1,_⟩:=I3.tuple sq1
  obtain⟨it2,rv2,p2,_⟩:=I3.tuple sq2
  have i1:IntsAre it1.toArray.toList ks:=intsAre_of (by rw[← (ints_rep rs1 (ints_mapD ks)).1];exact rv1)
  have i2:IntsAre it2.toArray.toList ks':=intsAre_of (by rw[← (ints_rep rs2 (ints_mapD ks')).1];exact rv2)
  have fS2:FpOk X pins H2 S:=⟨pS.2.1,fS.2⟩
  have fJ2:FpOk X pins H2 J:=⟨pJ.2.1,fJ.2⟩
  have r12:=r1.mono g2 wd2.kd
  have hit2:s2.heap.IsListIter J l (j+1):=⟨oJ,pJ.1,hoc,hod⟩
  show wpAny _ X.A.in1 (tryCatch (holding [v,.ref kk2] (richCompare .Lt (.ref kk2) (.ref ka)>>=_)) _>>=_) _ _ _
  refine wpAny_bind (wpAny_tryCatch (wpAny_holding (wpAny_bind (HT.lt_tupInts p2 p1 i2 i1 (by have:=hr.un;show X.A.units+1<cLine;omega) ?_))))
  refine wpAny_bind (wpAny_holding (wpAny_truthy_bool ?_))
  refine wpAny_bind (wpAny_letGo (wpAny_pure ?_))
  rw[lexLt_ltL]
  by_cases hb':ltL ks' ks=true
  ·rw[if_pos hb'] at e
   simp only[hb',if_true]
   refine wpAny_bind ?_
   refine wpAny_updateSeq pS.1 rfl (wpAny_bind (wpAny_letGo ?_))
   rw[hname]
   have s1:=Heap.SameBut.update s2.heap S (Obj.mapSeq fun _=>#[v,.ref kk2])
   obtain⟨c2,hc2⟩:∃ c2,(s2.heap.update S (Obj.mapSeq fun _=>#[v,.ref kk2])).get? S=some (seqObj "list" #[v,.ref kk2] c2):=⟨_,get?_update_seq pS.1 fun _=>#[v,.ref kk2]⟩
   refine wpAny_pure ⟨plainId_quiet PySem.F.plain_min_loop _,ih (j+1) H2 _ th2 xs[j] vx v ks' kk2 c2 Q (by omega) hlt (Inv.setS I3 fS2 pS.1 _ _) wd2 r12 ⟨oJ,(s1.2 J hSJ.symm).trans pJ.1,hoc,hod⟩ hc2 fS2 fJ2 rel (rx.mono g2 wd2.kd) rK2 e fun v H' th' r w g=>kk v H' th' r w (g2.trans g)⟩
  ·rw[if_neg hb'] at e
   have hb':ltL ks' ks=false:=by simpa using hb'
   simp only[hb',Bool.false_eq_true,if_false]
   refine wpAny_bind (wpAny_letGo ?_)
   rw[hname]
   exact wpAny_pure ⟨plainId_quiet PySem.F.plain_min_loop _,ih (j+1) H2 s2 th2 b vB vb ks ka c Q (by omega) hlt I3 wd2 r12 hit2 pS.1 fS2 fJ2 rb (rB.mono g2 wd2.kd) (rK.mono g2 wd2.kd) e fun v H' th' r w g=>kk v H' th' r w (g2.trans g)⟩
end
section
variable {X:Cx}{k:Nat}{f:Addr}{fd:FuncData}{ps:List Str}{sp:Sp}{pins:List (Addr×Obj)}{σ:L2.St}{φ:Den}{l:Addr}{h:AH}{xs:List D}
theorem call_min (F:FnOk X.prog X.w X.K X.mg X.base (CXM X.prog X.w) k f fd ps (spOf X.K X.mg ps.length φ)) (hr:Room (k+1) X.A) (hb:Binds X.K fd ps []) (ar:∀ ds h,φ ds h≠.bad→ds.length=ps.length) (hc:X.calm=true) {d d1:D} (ev1:vw h d1=.lst xs)
  {H:Hp}{s:Shared}{th:Th}{Q:VK} (I:Inv X pins σ H s) (wd:Wd X.K th h H) (r1:RepV X.K H th d1 (.ref l)) (e:minD φ h xs=some d)
  (kk:∀ v H' th',RepV X.K H' th' d v→Wd X.K th' h H'→Gr th th' H H'→Q v H') :
  wpAny (model X.prog X.w) X.A (call (.builtin "min") [.ref l] [(Str.ofString "key",.ref f),(Str.ofString "default",.none)]) (EP X pins σ Q) X.xe s:=by
 have hname:(toString "min"++toString ".loop":String)="min.loop":=by decide
 obtain⟨_,vs0,el,sq,rxs⟩:=RepW.ilst (ev1▸r1.view wd)
 cases el
 obtain⟨its,rv,pl,hz⟩:=I.list sq
 obtain⟨ol,hol,_⟩:=id pl.isList
 have hll:l<s.heap.objs.size:=Heap.lt_size hol
 refine kmk_tree PySem.F.kind_min PySem.F.plain_min PySem.F.entry_min (args_min_kd _ _ _) ?_
 show wpAny _ X.A.in1 (Builtin.Builtins.bindParams "min" ["key","default"] 0 ⟨[],[(Str.ofString "key",.ref f),(Str.ofString "default",.none)]⟩>>=_) _ _ s
 refine wpAny_bind (wpAny_of_eq (show Builtin.Builtins.bindParams "min" ["key","default"] 0 ⟨[],[(Str.ofString "key",.ref f),(Str.ofString "default",.none)]⟩=pure [some (.ref f),some .none] from rfl) ?_)
 refine wpAny_bind (wpAny_pure ?_)
 refine wpAny_bind (wpAny_pyIter_list pl.isList ?_)
 refine wpAny_bind (wpAny_newList ?_ (Nat.zero_le _))
 rw[hname]
 have hS:(s.heap.push { cls:=.type "list_iterator",data:=.fields #[.ref l,.int 0 0] }).objs.size=s.heap.objs.size+1:=size_push' ..
 have hlJ:l≠s.heap.objs.size:=Nat.ne_of_lt hll
 have hSJ:(s.heap.push { cls:=.type "list_iterator",data:=.fields #[.ref l,.int 0 0] }).objs.size≠s.heap.objs.size:=by rw[hS];exact Nat.ne_of_gt (Nat.lt_succ_self _)
 refine wpAny_pure ⟨plainId_quiet PySem.F.plain_min_loop _,?_⟩
 have gJ:((s.heap.push { cls:=.type "list_iterator",data:=.fields #[.ref l,.int 0 0] }).push (seqObj "list" #[] 0)).get? s.heap.objs.size=some { cls:=.type "list_iterator",data:=.fields #[.ref l,.int 0 0] } :=
  Heap.get?_push_of_some _ (Heap.get?_push_size _ rfl)
 have gS:((s.heap.push { cls:=.type "list_iterator",data:=.fields #[.ref l,.int 0 0] }).push (seqObj "list" #[] 0)).get? (s.heap.push { cls:=.type "list_iterator",data:=.fields #[.ref l,.int 0 0] }).objs.size=some (seqObj "list" #[] 0):=Heap.get?_push_size _ rfl
 have keep:∀ b o,s.heap.get? b=some o→((s.heap.push { cls:=.type "list_iterator",data:=.fields #[.ref l,.int 0 0] }).push (seqObj "list" #[] 0)).get? b=some o:=fun b o e=>Heap.get?_push_of_some _ (Heap.get?_push_of_some _ e)
 have fJ:FpOk X pins H s.heap.objs.size:=I.fpOk (Nat.le_refl _) (I.hok.fresh (Nat.le_refl _))
 have fS:FpOk X pins H (s.heap.push { cls:=.type "list_iterator",data:=.fields #[.ref l,.int 0 0] }).objs.size:=I.fpOk (by rw[hS];exact Nat.le_succ _) (I.hok.fresh (by rw[hS];exact Nat.le_succ _))
 have I0:Inv X pins σ H { s with heap:=(s.heap.push { cls:=.type "list_iterator",data:=.fields #[.ref l,.int 0 0] }).push (seqObj "list" #[] 0),toks:=s.toks }:=I.kept keep
 generalize (s.heap.push { cls:=.type "list_iterator",data:=.fields #[.ref l,.int 0 0] }).objs.size=S at gS fS hSJ ⊢
 generalize s.heap.objs.size=J at gJ fJ hSJ hlJ ⊢
 show codeAny _ _ _ _ { s with heap:=(s.heap.push { cls:=.type "list_iterator",data:=.fields #[.ref l,.int 0 0] }).push (seqObj "list" #[] 0),toks:=s.toks }
 generalize (s.heap.push { cls:=.type "list_iterator",data:=.fields #[.ref l,.int 0 0] }).push (seqObj "list" #[] 0)=hp at gJ gS I0 ⊢
 obtain⟨its,rv,pl,hz⟩:=I0.list sq
 have hlen:its.length=xs.length:=by rw[rxs.length,rv.length]
 have W:=Walks.list (prog:=X.prog) (w:=X.w) (A:=X.A.in1) (I.ok.hd hc) J l hlJ its.toArray
 refine codeAny_builtin PySem.F.entry_min_loop ?_
 rw[Around.under_plainId PySem.F.plain_min_loop _]
 show wpAny _ X.A.in1 (seqItems? (.ref S)>>=_) _ _ _
 refine wpAny_bind (wpAny_seqItems gS rfl ?_)
 show wpAny _ X.A.in1 (tryCatch (pyNext (.ref J)) _>>=_) _ _ _
 obtain⟨f0,f1,f2,f3,f4,f5⟩:=id fJ
 cases xs with
 | nil =>
  rw[minD] at e
  cases e
  refine wpAny_bind (wpAny_tryCatch (W.done _ _ _ ⟨by rw[List.size_toArray,hlen];exact⟨_,gJ,rfl,rfl⟩,pl.isList⟩ fun h' tk' hk'=>?_))
  have I1:Inv X pins σ H { s with heap:=h',toks:=tk' }:=I0.turned (fun b o hb e=>hk' b o (by simpa using hb) e) f0 f1 f3 f4 f5
  show wpAny _ X.A.in1 (rule _>>=_) _ _ _
  refine wpAny_bind (wpAny_rule (wpAny_pure ?_))
  exact⟨.non,H,I1,rfl,kk .non H th .non wd (Gr.refl _ _)⟩
 | cons x xr =>
  rw[minD] at e
  obtain⟨ks',ek,e⟩:=obs e
  refine wpAny_bind (wpAny_tryCatch (W.item 0 _ _ _ (by rw[List.size_toArray,hlen];exact Nat.zero_lt_succ _) ⟨⟨_,gJ,rfl,rfl⟩,pl.isList⟩ fun v h' tk' hP hst' hk'=>?_))
  have hv:its[0]?=some v:=by simpa using hP
  have I1:Inv X pins σ H { s with heap:=h',toks:=tk' }:=I0.turned (fun b o hb e=>hk' b o (by simpa using hb) e) f0 f1 f3 f4 f5
  have hS':=hk' S _ (by simpa using hSJ) gS
  obtain⟨oJ,hoJ,hoc,hod⟩:=id hst'.1
  obtain⟨vx,ex,rx⟩:=rxs.get (i:=0) (d:=x) rfl
  obtain⟨vx',ex',rel⟩:∃ u,its[0]?=some u∧RelV vx u:=rv.get ex
  rw[hv] at ex'
  cases ex'
  have I1':=I1.pinned (fp:=[J,S]) (fun b hb=>by
   rcases List.mem_cons.mp hb with rfl | hb
   ·exact fJ
   ·rw[List.mem_singleton.mp hb];exact fS) (fun b hb=>by
   rcases List.mem_cons.mp hb with rfl | hb
   ·exact⟨oJ,hoJ,fun v z=>by rw[hod] at z;cases z⟩
   ·rw[List.mem_singleton.mp hb];exact⟨_,hS',fun v z=>by cases z⟩)
  show wpAny _ X.A.in1 (tryCatch (holding [v] (call (.ref f) [v])) _>>=_) _ _ _
  refine wpAny_bind (wpAny_tryCatch (wpAny_holding (thn (run_key F hr hb I1' (.cons rel .nil) (key_ok ar wd rx ek)) fun u s2 ⟨vk,H2,I2,rk,th2,rK2,wd2,g2⟩=>?_)))
  have pJ:=(I2.pin (J,oJ) (List.mem_append_right _ (List.mem_append_right _ (mem_pinsAt (by simp) hoJ))))
  have pS:=(I2.pin (S,_) (List.mem_append_right _ (List.mem_append_right _ (mem_pinsAt (by simp) hS'))))
  have I3:=I2.unpinned
  obtain⟨kk2,vs2,evk,sq2,rs2⟩:=RepW.itup (show RepW X.K H2 th2 (.tup (ks'.map .int)) vk from rK2)
  subst evk
  cases rk
  have fS2:FpOk X pins H2 S:=⟨pS.2.1,fS.2⟩
  have fJ2:FpOk X pins H2 J:=⟨pJ.2.1,fJ.2⟩
  have r12:=r1.mono g2 wd2.kd
  show wpAny _ X.A.in1 (updateSeq S (fun _=>#[v,.ref kk2])>>=_) _ _ _
  refine wpAny_bind ?_
  refine wpAny_updateSeq pS.1 rfl ?_
  rw[hname]
  have s1:=Heap.SameBut.update s2.heap S (Obj.mapSeq fun _=>#[v,.ref kk2])
  obtain⟨c2,hc2⟩:∃ c2,(s2.heap.update S (Obj.mapSeq fun _=>#[v,.ref kk2])).get? S=some (seqObj "list" #[v,.ref kk2] c2):=⟨_,get?_update_seq pS.1 fun _=>#[v,.ref kk2]⟩
  refine wpAny_pure ⟨plainId_quiet PySem.F.plain_min_loop _,min_loop (xs:=x::xr) F hr hb ar hc hlJ hSJ ev1 _ 1 H2 _ th2 x vx v ks' kk2 c2 Q rfl (Nat.succ_le_succ (Nat.zero_le _)) (Inv.setS I3 fS2 pS.1 _ _) wd2 r12 ⟨oJ,(s1.2 J hSJ.symm).trans pJ.1,hoc,hod⟩ hc2 fS2 fJ2 rel (rx.mono g2 wd2.kd) rK2 e fun v H' th' r w g=>kk v H' th' r w (g2.trans g)⟩
end
section
variable {X:Cx}{C:CC}{G:List Den}{k:Nat}
theorem d_minK {o:Expr}{x:Str}{i j:Nat}{p:PX}{np fp k1 k2 cp pos:Pos} (O:CtxOk X C G k) (hx:C.isBl "min"=true) (hf:C.isGl x=true) (hi:C.fs.findIdx? (·==x)=some i) (hs:starEach [o] X.env=[(false,eval o X.env)]) (ho:PE X o (rdE X.K G p)) :
  PE X (.Call (.Name "min" np) [o] [⟨some "key",.Name x fp,k1⟩,⟨some "default",.Constant .none j cp,k2⟩] pos) (rdE X.K G (.minK i p)):=by
 obtain⟨g1,l1⟩:=Bool.and_eq_true_iff.mp hx
 obtain⟨g,pl⟩:=isGl_ok O hf
 obtain⟨h4,h5,_⟩:=plain_debug pl
 intro pins s σ H Q I ⟨th,ρ,h,d,h',w,en,e1,kk⟩
 rw[ev] at e1
 obtain⟨⟨d1,h1⟩,q1,e1⟩:=obs e1
 obtain⟨φ,hG,e1⟩:=obs e1
 dsimp only at e1
 obtain⟨j0,hj0,M0⟩:=O.fs i x φ (findIdx_get hi) pl hG
 obtain⟨fa,fd,pn,hm,hk,F,hb,ar⟩:=M0.ex
 refine wpAny_Call_Name_kw (ld_blt I (isGl_ok O g1).1 (O.bl _ l1) boot_min ?_ (by decide) (by decide))
 refine callWith_kw (e:=o) (rest:=[]) ?_ (by rw[hs];rfl) (by rw[hs];rfl) rfl rfl
 have hA:PA X [o] (rdA X.K G [p]):=a_cons ho a_nil hs
 refine thn (hA pos pins s σ H (fun vs H1=>∃ v th1,vs=[v]∧RepV X.K H1 th1 d1 v∧Wd X.K th1 h1 H1∧Gr th th1 H H1) I ⟨th,ρ,h,[d1],h1,w,en,by unfold evs;rw[q1];rfl,fun vs H' th' r w' g=>by
  cases r with
  | cons r rs=>cases rs;exact⟨_,_,rfl,r,w',g⟩⟩) fun us s1 ⟨vs,H1,I1,r1,v,th1,ev,rv,wd1,gr1⟩=>?_
 subst ev
 have hK:PK X [⟨some "key",.Name x fp,k1⟩,⟨some "default",.Constant .none j cp,k2⟩] (tCons (tC (.ref fa)) (tCons (tC .non) tNil)):=pk_cons (pe_glob g hm rfl h4) (pk_cons pe_non pk_nil)
 refine thn (hK pos pins s1 σ H1 (fun ws H2=>ws=[.ref fa,.non]∧H2=H1) I1 ⟨rfl,rfl⟩) fun ws s2 ⟨zs,H2,I2,r2,ez,eh⟩=>?_
 subst ez eh
 cases r1 with
 | cons ru rr =>
  cases rr
  cases r2 with
  | cons rf r3 =>
   cases r3 with
   | cons rn r4 =>
    cases r4
    cases rf
    cases rn
    have rw1:=rv.view wd1
    cases ev1:vw h1 d1 with
    | lst xs =>
     rw[ev1] at e1 rw1
     dsimp only at e1
     obtain⟨d2,q2,e1⟩:=obs e1
     cases e1
     obtain⟨a,vs,rfl,sq,rr⟩:=rw1.ilst
     cases ru
     exact call_min F (O.room.mono hj0) hb ar O.calm ev1 I2 wd1 rv q2 fun v H' th' r w g=>kk v H' th' r w (gr1.trans g)
    | _=>rw[ev1] at e1;cases e1
end
end MP
namespace MP
open PySem PySem.Spec PyProof.Rows L2 PySem.W
section
variable {n:Nat}{lt:Nat→Nat→Bool}{cmp:Nat→Nat→(Bool→Shared→Prop)→Shared→Prop}{s:Shared}
structure Ord (n:Nat) (lt:Nat→Nat→Bool) (cmp:Nat→Nat→(Bool→Shared→Prop)→Shared→Prop) (s:Shared):Prop where
 ask:∀ i j C,i<n→j<n→i≠j→C (lt i j) s→cmp i j C s
 tri:∀ i j,i<n→j<n→i≠j→lt i j=false→lt j i=true
 tr:∀ i j k,i<n→j<n→k<n→lt i j=true→lt j k=true→lt i k=true
def Prm (n:Nat) (p:Array Nat):Prop:=p.toList.Perm (List.range n)
theorem Prm.size {p:Array Nat} (h:Prm n p):p.size=n:=by
 have:=h.length_eq
 simpa using this
theorem Prm.bd {p:Array Nat} (h:Prm n p) {i:Nat} (hi:i<n):p.getD i 0<n:=by
 have hs:i<p.size:=by rw[h.size];exact hi
 have e:p.getD i 0=p[i]:=by simp[Array.getD,hs]
 rw[e]
 exact List.mem_range.mp (h.mem_iff.mp (by simp))
theorem Prm.ne {p:Array Nat} (h:Prm n p) {i j:Nat} (hi:i<n) (hj:j<n) (ne:i≠j):p.getD i 0≠p.getD j 0:=by
 have hs:i<p.size:=by rw[h.size];exact hi
 have hs':j<p.size:=by rw[h.size];exact hj
 have e:p.getD i 0=p[i]:=by simp[Array.getD,hs]
 have e':p.getD j 0=p[j]:=by simp[Array.getD,hs']
 rw[e,e']
 have nd:p.toList.Nodup:=h.nodup_iff.mpr List.nodup_range
 intro z
 have q1:p.toList[i]?=some p[i]:=by simp[hs]
 have q2:p.toList[j]?=some p[i]:=by rw[z];simp[hs']
 have hl:i<p.toList.length:=by simpa using hs
 exact ne ((List.getElem?_inj hl nd).mp (q1.trans q2.symm))
theorem getD_of {p q:Array Nat}{i j:Nat} (h:p[i]?=q[j]?):p.getD i 0=q.getD j 0:=by
 rw[Array.getD_eq_getD_getElem?,Array.getD_eq_getD_getElem?,h]
def Asc (lt:Nat→Nat→Bool) (p:Array Nat) (m:Nat):Prop:=∀ i j,i<j→j<m→lt (p.getD i 0) (p.getD j 0)=true
def Dsc (lt:Nat→Nat→Bool) (p:Array Nat) (m:Nat):Prop:=∀ i j,i<j→j<m→lt (p.getD j 0) (p.getD i 0)=true
variable {p:Array Nat}
theorem Asc.step (O:Ord n lt cmp s) (P:Prm n p) {m:Nat} (h1:1≤m) (hm:m<n) (A:Asc lt p m) (h:lt (p.getD (m - 1) 0) (p.getD m 0)=true):Asc lt p (m+1):=fun i j hij hj=>by
 by_cases e:j=m
 ·subst e
  by_cases e2:i=j - 1
  ·subst e2;exact h
  ·exact O.tr _ _ _ (P.bd (by omega)) (P.bd (by omega)) (P.bd hm) (A i (j - 1) (by omega) (by omega)) h
 ·exact A i j hij (by omega)
theorem Dsc.step (O:Ord n lt cmp s) (P:Prm n p) {m:Nat} (h1:1≤m) (hm:m<n) (A:Dsc lt p m) (h:lt (p.getD m 0) (p.getD (m - 1) 0)=true):Dsc lt p (m+1):=fun i j hij hj=>by
 by_cases e:j=m
 ·subst e
  by_cases e2:i=j - 1
  ·subst e2;exact h
  ·exact O.tr _ _ _ (P.bd hm) (P.bd (by omega)) (P.bd (by omega)) h (A i (j - 1) (by omega) (by omega))
 ·exact A i j hij (by omega)
theorem asc_ok (O:Ord n lt cmp s) (P:Prm n p) {G:Nat→Shared→Prop}:∀ (f m:Nat),1≤m→m+f≤n→Asc lt p m→(∀ m',m≤m'→m'≤m+f→Asc lt p m'→(m'<m+f→lt (p.getD m' 0) (p.getD (m' - 1) 0)=true)→G m' s)→(kas_asc p f m).kasWp cmp G s
 | 0,m,h1,h2,A,k=>k m (Nat.le_refl _) (Nat.le_refl _) A (fun h=>absurd h (by omega))
 | f+1,m,h1,h2,A,k=>by
  refine O.ask _ _ _ (P.bd (by omega)) (P.bd (by omega)) (P.ne (by omega) (by omega) (by omega)) ?_
  cases e:lt (p.getD m 0) (p.getD (m - 1) 0) with
  | true=>exact k m (Nat.le_refl _) (by omega) A fun _=>e
  | false =>
   exact asc_ok O P f (m+1) (by omega) (by omega) (A.step O P h1 (by omega) (O.tri _ _ (P.bd (by omega)) (P.bd (by omega)) (P.ne (by omega) (by omega) (by omega)) e)) fun m' a b c d=>k m' (by omega) (by omega) c fun z=>d (by omega)
theorem dsc_ok (O:Ord n lt cmp s) (P:Prm n p) {G:Array Nat×Nat×Nat→Shared→Prop}:∀ (f m:Nat),1≤m→m+f≤n→Dsc lt p m→(∀ m',m≤m'→m'≤m+f→Dsc lt p m'→G (p,m',0) s)→(kas_desc f p m 0).kasWp cmp G s
 | 0,m,h1,h2,A,k=>k m (Nat.le_refl _) (Nat.le_refl _) A
 | f+1,m,h1,h2,A,k=>by
  refine O.ask _ _ _ (P.bd (by omega)) (P.bd (by omega)) (P.ne (by omega) (by omega) (by omega)) ?_
  cases e:lt (p.getD m 0) (p.getD (m - 1) 0) with
  | true =>
   show (if (0:Nat) > 0 then kas_desc f (kas_rev p (m - (0+1)) m) (m+1) 0 else kas_desc f p (m+1) 0).kasWp cmp G s
   rw[if_neg (by omega)]
   exact dsc_ok O P f (m+1) (by omega) (by omega) (A.step O P h1 (by omega) e) fun m' a b c=>k m' (by omega) (by omega) c
  | false =>
   refine O.ask _ _ _ (P.bd (by omega)) (P.bd (by omega)) (P.ne (by omega) (by omega) (by omega)) ?_
   rw[O.tri _ _ (P.bd (by omega)) (P.bd (by omega)) (P.ne (by omega) (by omega) (by omega)) e]
   exact k m (Nat.le_refl _) (by omega) A
theorem rev_prm (P:Prm n p) (i j:Nat):Prm n (kas_rev p i j):=(Array.perm_iff_toList_perm.mp (mirror_perm p i j _)).trans P
theorem rev_asc (P:Prm n p) {m:Nat} (hm:m≤n) (A:Dsc lt p m):Asc lt (kas_rev p 0 m) m:=fun i j hij hj=>by
 have g:∀ k,k<m→(kas_rev p 0 m).getD k 0=p.getD (m - 1 - k) 0:=fun k hk=>getD_of (by
  unfold kas_rev
  rw[getElem?_mirror_all (by rw[P.size];exact hm),if_pos ⟨Nat.zero_le _,hk⟩,Nat.zero_add])
 rw[g i (by omega),g j hj]
 exact A _ _ (by omega) (by omega)
theorem tail_ok (O:Ord n lt cmp s) (P:Prm n p) {G:Nat×Array Nat→Shared→Prop}{m:Nat} (h1:1≤m) (hm:m≤n) (A:Dsc lt p m) (k:∀ m' p',1≤m'→m'≤n→Prm n p'→Asc lt p' m'→G (m',p') s):(kas_tail3 m n p).kasWp cmp G s:=by
 unfold kas_tail3
 rw[KasT.kasWp_bind]
 exact asc_ok O (rev_prm P 0 m) (n - m) m h1 (by omega) (rev_asc P hm A) fun m' a b c _=>k m' _ (by omega) (by omega) (rev_prm P 0 m) c
theorem count_ok (O:Ord n lt cmp s) (P:Prm n p) (hn:1≤n) {G:Nat×Array Nat→Shared→Prop} (k:∀ m' p',1≤m'→m'≤n→Prm n p'→Asc lt p' m'→G (m',p') s):(kas_count n p).kasWp cmp G s:=by
 unfold kas_count
 rw[KasT.kasWp_bind]
 refine asc_ok O P (n - 1) 1 (Nat.le_refl _) (by omega) (fun i j a b=>absurd b (by omega)) fun m a b A z=>?_
 by_cases e:(m==n)=true
 ·rw[if_pos e]
  exact k m p a (by omega) P A
 ·rw[if_neg e]
  have hmn:m<n:=by
   have:m≠n:=fun z=>e (by simp[z])
   omega
  by_cases e2:m > 1
  ·rw[if_pos e2]
   refine O.ask _ _ _ (P.bd (by omega)) (P.bd (by omega)) (P.ne (by omega) (by omega) (by omega)) ?_
   rw[A 0 (m - 1) (by omega) (by omega)]
   exact k m p a (by omega) P A
  ·rw[if_neg e2]
   have e3:m=1:=by omega
   subst e3
   unfold kas_descPart
   rw[KasT.kasWp_bind]
   refine dsc_ok O P (n - (1+1)) (1+1) (by omega) (by omega) (fun i j hij hj=>?_) fun m' a' b' c'=>?_
   ·have ei:i=0:=by omega
    have ej:j=1:=by omega
    subst ei ej
    exact z (by omega)
   ·show (if (0:Nat) > 0 then kas_tail3 m' n (kas_rev p (m' - (0+1)) m') else kas_tail3 m' n p).kasWp cmp G s
    rw[if_neg (by omega)]
    exact tail_ok O P (by omega) (by omega) c' k
theorem place_ok (O:Ord n lt cmp s) (P:Prm n p) {q:Nat} (hq:q<n) (A:Asc lt p q) {G:Nat→Shared→Prop} (k:∀ l,l≤q→(∀ i,i<l→lt (p.getD i 0) (p.getD q 0)=true)→(∀ i,l≤i→i<q→lt (p.getD q 0) (p.getD i 0)=true)→G l s) :
  ∀ (f l r:Nat),l≤r→r≤q→r - l≤f→(∀ i,i<l→lt (p.getD i 0) (p.getD q 0)=true)→(∀ i,r≤i→i<q→lt (p.getD q 0) (p.getD i 0)=true)→(kas_place p q f l r).kasWp cmp G s
 | 0,l,r,h1,h2,h3,a,b=>k l (by omega) a fun i z=>b i (by omega)
 | f+1,l,r,h1,h2,h3,a,b=>by
  unfold kas_place
  by_cases e:l ≥ r
  ·rw[if_pos e]
   exact k l (by omega) a fun i z=>b i (by omega)
  ·rw[if_neg e]
   have m1:(l+r) / 2<r:=by omega
   have m2:l≤(l+r) / 2:=by omega
   refine O.ask _ _ _ (P.bd hq) (P.bd (by omega)) (P.ne hq (by omega) (by omega)) ?_
   cases e2:lt (p.getD q 0) (p.getD ((l+r) / 2) 0) with
   | true =>
    exact place_ok O P hq A k f l ((l+r) / 2) m2 (by omega) (by omega) a fun i z1 z2=>by
     by_cases e3:i=(l+r) / 2
     ·rw[e3];exact e2
     ·exact O.tr _ _ _ (P.bd hq) (P.bd (by omega)) (P.bd (by omega)) e2 (A _ _ (by omega) z2)
   | false =>
    have e4:=O.tri _ _ (P.bd hq) (P.bd (by omega)) (P.ne hq (by omega) (by omega)) e2
    exact place_ok O P hq A k f ((l+r) / 2+1) r (by omega) h2 (by omega) (fun i z=>by
     by_cases e3:i=(l+r) / 2
     ·rw[e3];exact e4
     ·exact O.tr _ _ _ (P.bd (by omega)) (P.bd (by omega)) (P.bd hq) (A _ _ (by omega) (by omega)) e4) b
theorem bin_ok (O:Ord n lt cmp s) {G:Array Nat→Shared→Prop} (k:∀ p',Prm n p'→Asc lt p' n→G p' s):∀ (f:Nat) (p:Array Nat) (q:Nat),1≤q→q+f=n→Prm n p→Asc lt p q→(kas_bin f p q).kasWp cmp G s
 | 0,p,q,h1,h2,P,A=>by
  have e:q=n:=by omega
  subst e
  exact k p P A
 | f+1,p,q,h1,h2,P,A=>by
  unfold kas_bin
  rw[KasT.kasWp_bind]
  refine place_ok O P (by omega) A (fun l hl a b=>?_) q 0 q (Nat.zero_le _) (Nat.le_refl _) (by omega) (fun i z=>absurd z (by omega)) (fun i z1 z2=>absurd z1 (by omega))
  have g:∀ j,(bubble p q (q - l)).getD j 0=if j=l then p.getD q 0 else if l<j∧j≤q then p.getD (j - 1) 0 else p.getD j 0:=fun j=>by
   have:=getElem?_bubble (xs:=p) (src:=q) (by rw[P.size];omega) (q - l) (by omega) j
   have e:q - (q - l)=l:=by omega
   rw[e] at this
   by_cases c1:j=l
   ·rw[if_pos c1] at this ⊢;exact getD_of this
   ·rw[if_neg c1] at this ⊢
    by_cases c2:l<j∧j≤q
    ·rw[if_pos c2] at this ⊢;exact getD_of this
    ·rw[if_neg c2] at this ⊢;exact getD_of this
  refine bin_ok O k f _ (q+1) (by omega) (by omega) ((Array.perm_iff_toList_perm.mp (bubble_perm p q _)).trans P) fun i j hij hj=>?_
  rw[g i,g j]
  by_cases c1:i=l
  ·rw[if_pos c1,if_neg (by omega),if_pos ⟨by omega,by omega⟩]
   exact b (j - 1) (by omega) (by omega)
  ·rw[if_neg c1]
   by_cases c2:j=l
   ·rw[if_pos c2,if_neg (by omega)]
    exact a i (by omega)
   ·rw[if_neg c2]
    by_cases c3:l<j∧j≤q
    ·rw[if_pos c3]
     by_cases c4:l<i∧i≤q
     ·rw[if_pos c4];exact A _ _ (by omega) (by omega)
     ·rw[if_neg c4];exact A _ _ (by omega) (by omega)
    ·rw[if_neg c3,if_neg (by omega)]
     exact A _ _ hij (by omega)
theorem sort_ok (O:Ord n lt cmp s) (hn:1≤n) {G:Array Nat→Shared→Prop} (k:∀ p',Prm n p'→Asc lt p' n→G p' s):(kas_sort n).kasWp cmp G s:=by
 unfold kas_sort
 rw[KasT.kasWp_bind]
 refine count_ok O (show Prm n (List.toArray (List.range n)) from .refl _) hn fun m p h1 h2 P A=>?_
 by_cases e:m<n
 ·show (if m<n then kas_bin (n - max m 1) p (max m 1) else .ret p).kasWp cmp G s
  rw[if_pos e,Nat.max_eq_left h1]
  exact bin_ok O k _ p m h1 (by omega) P A
 ·show (if m<n then kas_bin (n - max m 1) p (max m 1) else .ret p).kasWp cmp G s
  rw[if_neg e]
  have e2:m=n:=by omega
  subst e2
  exact k p P A
end
end MP
namespace MP
open PySem PySem.Spec PyProof.Rows L2 PySem.W
section
variable {prog:Program}{w:World}{A:Around}{E:Value→Shared→Prop}{s:Shared}
noncomputable abbrev outOf (vs:List Value) (p:Array Nat):Array Value:=List.toArray (p.toList.map fun i=>vs.getD i Value.none)
theorem range_out (vs:List Value):outOf vs (List.toArray (List.range vs.length))=vs.toArray:=by
 show List.toArray ((List.range vs.length).map fun i=>vs.getD i Value.none)=_
 congr 1
 refine List.ext_getElem (by simp) fun i h1 h2=>?_
 simp
 rw[List.getElem?_eq_getElem h2]
 rfl
noncomputable abbrev inSort (h:Heap) (a:Addr) (vs:List Value):Heap:=((h.update a (Obj.mapSeq fun _=>#[])).push (seqObj "tuple" vs.toArray 0)).push (seqObj "list" #[] 0)
theorem inSort_at {h:Heap}{a:Addr}{vs:List Value}{n:Nat} (ho:h.get? a=some (seqObj "list" vs.toArray n)):∃ e,(h.update a (Obj.mapSeq fun _=>#[])).get? a=some (seqObj "list" #[] e)∧(inSort h a vs).get? a=some (seqObj "list" #[] e) :=
 ⟨_,get?_update_seq ho _,Heap.get?_push_of_some _ (Heap.get?_push_of_some _ (get?_update_seq ho _))⟩
theorem inSort_keep {h:Heap}{a b:Addr}{vs:List Value}{o:Obj} (hb:b≠a) (e:h.get? b=some o):(inSort h a vs).get? b=some o :=
 Heap.get?_push_of_some _ (Heap.get?_push_of_some _ (((Heap.SameBut.update h a (Obj.mapSeq fun _=>(#[]:Array Value))).2 b hb).trans e))
theorem few {n:Nat} (h:n<64):n≤sizeLine:=by rw[sizeLine_eq];omega
theorem list_sort_T {lt:Nat→Nat→Bool}{a:Addr}{vs:List Value}{n:Nat}{P:Fin→Shared→Prop} (ho:s.heap.get? a=some (seqObj "list" vs.toArray n)) (h64:vs.length<64)
  (hk:2≤vs.length→∀ h':Heap,(∀ b o,b≠a→s.heap.get? b=some o→h'.get? b=some o)→wpAny (model prog w) A (keyKind' vs.toArray) (fun κ s'=>s'={ s with heap:=h' }∧Ord vs.length lt (kas_ask prog w A κ vs) s') (fun _ _=>False) { s with heap:=h' })
  (h:∀ p:Array Nat,Prm vs.length p→Asc lt p vs.length→P (.done (.ret .none)) { s with heap:=sortedHeap s.heap a vs (outOf vs p) }) :
  wpAny (model prog w) A (Builtin.«list.sort» ⟨[.ref a],[]⟩) P E s:=by
 obtain⟨e1,ho1,ho6⟩:=inSort_at (vs:=vs) ho
 have hz:vs.toArray.size≤sizeLine:=by rw[List.size_toArray];exact few h64
 rw[list_sort_plain]
 refine wpAny_bind (listItems_at ho rfl (wpAny_bind (listUpdate_at ho rfl (wpAny_bind (seqEpoch_at ho1 rfl (wpAny_bind (wpAny_newTuple (wpAny_bind (wpAny_newList (wpAny_holding ?_) (Nat.zero_le _))) (few h64))))) hz (Nat.zero_le _))))
 show wpAny (model prog w) A _ P E { s with heap:=inSort s.heap a vs }
 dsimp only
 have last:∀ (p:Array Nat) (out:Array Value),Prm vs.length p→Asc lt p vs.length→out=outOf vs p→P (.done (.ret .none)) { s with heap:=(inSort s.heap a vs).update a (Obj.mapSeq fun _=>out) }:=fun p out Pp Ap e=>by subst e;exact h p Pp Ap
 by_cases h2:vs.toArray.size<2
 ·have h2':vs.length<2:=by simpa using h2
  rw[if_pos h2,if_pos h2]
  refine wpAny_bind (wpAny_pure ?_)
  rw[StateT.run_pure]
  refine wpAny_bind (wpAny_pure (wpAny_bind (seqEpoch_at ho6 rfl (wpAny_bind (listUpdate_at ho6 rfl ?_ (Nat.zero_le _) (by rw[Array.size_map,Array.size_zip,Nat.min_self];exact Nat.le_succ_of_le hz))))))
  rw[if_neg (by simp)]
  refine wpAny_pure (last (List.toArray (List.range vs.length)) _ (.refl _) (fun i j hij hj=>absurd hj (by omega)) ?_)
  rw[range_out]
  apply Array.toList_inj.mp
  simp[List.map_snd_zip]
 ·have h2':2≤vs.length:=by simpa using h2
  rw[if_neg h2,if_neg h2]
  refine wpAny_bind (wpAny_mono (hk h2' (inSort s.heap a vs) fun b o hb e=>inSort_keep hb e) (fun κ s0 ⟨es,O⟩=>?_) fun _ _ x=>x.elim)
  subst es
  refine wpAny_bind (wpAny_mono (kat_run (A:=A) (κ:=κ) (ks:=vs) (vs:=vs) (Q:=fun st' s'=>∃ p:Array Nat,arrOf st'=p.map (kas_item (vs.toArray.zip vs.toArray))∧failedOf st'=none∧s'={ s with heap:=inSort s.heap a vs }∧Prm vs.length p∧Asc lt p vs.length)
   (G:=fun p s'=>s'={ s with heap:=inSort s.heap a vs }∧Prm vs.length p∧Asc lt p vs.length)
   rfl h2' h64 (fun p' st' s' a1 a2 a3 a4=>⟨p',a2,a3,a4⟩) (sort_ok O (by omega) fun p' P A=>⟨rfl,P,A⟩)) ?_ fun _ _ e=>e)
  rintro⟨⟨⟩,st'⟩ s' ⟨p,har,hf,rfl,Pp,Ap⟩
  have hz':(outOf vs p).size≤sizeLine+1:=by
   show (List.toArray _).size≤_
   rw[List.size_toArray,List.length_map,Array.length_toList,Pp.size]
   exact Nat.le_succ_of_le (few h64)
  dsimp only
  rw[kat_snds rfl har,hf]
  refine wpAny_bind (seqEpoch_at ho6 rfl (wpAny_bind (listUpdate_at ho6 rfl ?_ (Nat.zero_le _) hz')))
  rw[if_neg (by simp)]
  exact wpAny_pure (last p _ Pp Ap rfl)
noncomputable abbrev preSort (h:Heap) (vs:List Value):Heap:=((h.push (seqObj "list" #[] 0)).update h.objs.size (Obj.mapSeq (·++vs.toArray))).push (seqObj "list" vs.toArray 0)
theorem pre_size (h:Heap) (vs:List Value):((h.push (seqObj "list" #[] 0)).update h.objs.size (Obj.mapSeq (·++vs.toArray))).objs.size=h.objs.size+1:=by simp[Heap.size_update,size_push']
theorem pre_at (h:Heap) (vs:List Value):(preSort h vs).get? (h.objs.size+1)=some (seqObj "list" vs.toArray 0):=(congrArg (preSort h vs).get? (pre_size h vs)).symm.trans (Heap.get?_push_size _ rfl)
theorem pre_keep {h:Heap}{vs:List Value}{b:Addr}{o:Obj} (e:h.get? b=some o):(preSort h vs).get? b=some o :=
 Heap.get?_push_of_some _ (((Heap.SameBut.update (h.push (seqObj "list" #[] 0)) h.objs.size (Obj.mapSeq (·++vs.toArray))).2 b (Nat.ne_of_lt (Heap.lt_size e))).trans (Heap.get?_push_of_some _ e))
theorem sorted_T {lt:Nat→Nat→Bool}{l:Addr}{vs:List Value}{Q:Value→Shared→Prop} (hl:s.heap.IsList l vs.toArray) (h64:vs.length<64)
  (hk:2≤vs.length→∀ h':Heap,(∀ b o,s.heap.get? b=some o→h'.get? b=some o)→wpAny (model prog w) A.in1.in1 (keyKind' vs.toArray) (fun κ s'=>s'={ s with heap:=h' }∧Ord vs.length lt (kas_ask prog w A.in1.in1 κ vs) s') (fun _ _=>False) { s with heap:=h' })
  (h:∀ p:Array Nat,Prm vs.length p→Asc lt p vs.length→Q (.ref (s.heap.objs.size+1)) { s with heap:=sortedAll s.heap vs (outOf vs p) }) :
  wpAny (model prog w) A (call (.builtin "sorted") [.ref l]) Q E s:=by
 refine Calls.call_function_entry kind_sorted plain_sorted entry_sorted (args_sorted1 _) ?_
 unfold Builtin.«sorted»
 refine wpAny_bind (m:=checkCount "sorted" 1 1 _) (wpAny_pure (wpAny_bind (collect_list hl (wpAny_bind (wpAny_newList ?_ (few h64))) (few h64))))
 show wpAny _ _ _ _ _ { s with heap:=preSort s.heap vs }
 rw[pre_size]
 refine wpAny_bind (wpAny_holding (wpAny_call_entry slot_list_sort ⟨_,pre_at s.heap vs,rfl⟩ entry_list_sort (list_sort_T (lt:=lt) (pre_at s.heap vs) h64 (fun h2 h' kp=>?_) fun p a1 a2=>⟨_,rfl,wpAny_pure ⟨_,rfl,h p a1 a2⟩⟩) (args_list_sort _)))
 exact hk h2 h' fun b o e=>kp b o (Nat.ne_of_lt (Nat.lt_succ_of_lt (Heap.lt_size e))) (pre_keep e)
end
end MP
namespace MP
open PySem PySem.Spec PyProof.Rows L2
section
variable {X:Cx}{C:CC}{G:List Den}{k:Nat}
theorem rdB_bl {p:PX}{σ:L2.St}{H:Hp}{Q:Bool→Hp→Prop} (hp:∀ ρ h d h',ev G p ρ h=some (d,h')→∃ c,d=.bl c) (h:rdB X.K G (.val p) σ H Q):rdE X.K G p σ H (fun x H'=>∃ d,x=.bl d∧Q d H'):=by
 obtain⟨th,ρ,h,c,h',w,e,e1,kk⟩:=h
 unfold evB at e1
 obtain⟨⟨d0,h0⟩,e0,e1⟩:=obs e1
 obtain⟨c0,e2,e1⟩:=obs e1
 cases e1
 obtain⟨c1,rfl⟩:=hp ρ h d0 _ e0
 have:c=c1:=by simpa [tru,vw] using e2.symm
 subst this
 refine⟨th,ρ,h,.bl c,_,w,e,e0,fun v H' th' r w' g=>?_⟩
 cases r
 exact⟨_,rfl,kk H' th' w' g⟩
theorem din_bl {g:Bool}{p q:PX}:∀ ρ h d h',ev G (.din g q p) ρ h=some (d,h')→∃ c,d=.bl c:=fun ρ h d h' e1=>by
 rw[ev] at e1
 obtain⟨⟨d1,h1⟩,q1,e1⟩:=obs e1
 obtain⟨⟨d2,h2⟩,q2,e1⟩:=obs e1
 obtain⟨⟨n,kvs⟩,q3,e1⟩:=obs e1
 dsimp only at q2 q3 e1
 by_cases hk:isK d1=true
 ·rw[if_pos hk] at e1
  cases e1
  exact⟨_,rfl⟩
 ·rw[if_neg hk] at e1
  cases e1
theorem t_din {o i:Expr}{p q:PX}{pos:Pos} (O:CtxOk X C G k) (hm:behindInMarks .In o=false) (hi:PE X i (rdE X.K G q)) (ho:PE X o (rdE X.K G p)):PT X (.Compare i [.In] [o] pos) (rdB X.K G (.val (.din false q p))):=by
 refine (pt_cmp (pc_din O.un1 hi ho) hm).imp fun σ H Q hB=>?_
 obtain⟨th,ρ,h,d,h',w,en,e1,kk⟩:=rdB_bl din_bl hB
 rw[ev] at e1
 obtain⟨⟨d1,h1⟩,q1,e1⟩:=obs e1
 obtain⟨⟨d2,h2⟩,q2,e1⟩:=obs e1
 obtain⟨⟨n,kvs⟩,q3,e1⟩:=obs e1
 dsimp only at q2 q3 e1
 by_cases hk:isK d1=true
 ·rw[if_pos hk] at e1
  cases e1
  refine⟨th,ρ,h,d1,h1,w,en,q1,fun y H1 th1 r1 w1 g1=>⟨th1,ρ,h1,d2,h',w1,en.mono g1 w1.kd,q2,fun x H2 th2 r2 w2 g2=>?_⟩⟩
  obtain⟨a,us,rfl,hn,hH,k1,k2⟩:=w2.dctAt q3 r2
  rcases dget_of hk (r1.mono g2 w2.kd) hH k1 k2 with ⟨e5,e6⟩ | ⟨d5,v,e5,e6,e7⟩
  ·refine⟨a,_,rfl,e6,?_⟩
   have:=kk (.bl (xor false (lkD kvs d1).isSome)) H2 th2 (.bl _) w2 (g1.trans g2)
   rw[e5] at this
   exact this
  ·refine⟨a,_,rfl,e6,?_⟩
   have:=kk (.bl (xor false (lkD kvs d1).isSome)) H2 th2 (.bl _) w2 (g1.trans g2)
   rw[e5] at this
   exact this
 ·rw[if_neg hk] at e1
  cases e1
theorem t_dnotin {o i:Expr}{p q:PX}{pos:Pos} (O:CtxOk X C G k) (hm:behindInMarks .NotIn o=false) (hi:PE X i (rdE X.K G q)) (ho:PE X o (rdE X.K G p)):PT X (.Compare i [.NotIn] [o] pos) (rdB X.K G (.val (.din true q p))):=by
 refine (pt_cmp (pc_dnotin O.un1 hi ho) hm).imp fun σ H Q hB=>?_
 obtain⟨th,ρ,h,d,h',w,en,e1,kk⟩:=rdB_bl din_bl hB
 rw[ev] at e1
 obtain⟨⟨d1,h1⟩,q1,e1⟩:=obs e1
 obtain⟨⟨d2,h2⟩,q2,e1⟩:=obs e1
 obtain⟨⟨n,kvs⟩,q3,e1⟩:=obs e1
 dsimp only at q2 q3 e1
 by_cases hk:isK d1=true
 ·rw[if_pos hk] at e1
  cases e1
  refine⟨th,ρ,h,d1,h1,w,en,q1,fun y H1 th1 r1 w1 g1=>⟨th1,ρ,h1,d2,h',w1,en.mono g1 w1.kd,q2,fun x H2 th2 r2 w2 g2=>?_⟩⟩
  obtain⟨a,us,rfl,hn,hH,k1,k2⟩:=w2.dctAt q3 r2
  rcases dget_of hk (r1.mono g2 w2.kd) hH k1 k2 with ⟨e5,e6⟩ | ⟨d5,v,e5,e6,e7⟩
  ·refine⟨a,_,rfl,e6,?_⟩
   have:=kk (.bl (xor true (lkD kvs d1).isSome)) H2 th2 (.bl _) w2 (g1.trans g2)
   rw[e5] at this
   exact this
  ·refine⟨a,_,rfl,e6,?_⟩
   have:=kk (.bl (xor true (lkD kvs d1).isSome)) H2 th2 (.bl _) w2 (g1.trans g2)
   rw[e5] at this
   exact this
 ·rw[if_neg hk] at e1
  cases e1
theorem d_asgC1 {EX:Nat→Hp→Prop}{x y:Str}{sc:Scope}{keep:List Nat}{elt iter c:Expr}{px py cp pos:Pos}{pe:PX}{b:PB}{src:PI}{i:Nat} (S:CtxS X C G k EX) (hl:isLoc (lk C.nm y)=true) (hy:C.var y=some i) (Q:compOk C x sc=true) (hv:varsOf C (freeNames sc.names)=some keep) (hs:∀ v,foldedSetIterable iter X.env v=pure v)
  (hi:L2.PI X (.Name x px) iter (rdI X.K G src)) (hE:UC C x sc G k fun X'=>PE X' elt (rdE X'.K G pe)) (hT:UC C x sc G k fun X'=>PT X' c (rdB X'.K G b)):PS X (.Assign [.Name y py] (.ListComp elt [⟨.Name x px,iter,[c],0⟩] sc cp) pos) (rdS X.K G EX (.asg (.nm i) (.comp pe (some b) src keep))):=by
 have hsw:∃ b:Bool,swapsWith (.ListComp elt [⟨.Name x px,iter,[c],0⟩] sc cp) (some (.Name y py)) pos.line X.env=pure b:=⟨_,rfl⟩
 obtain⟨b,hb⟩:=hsw
 cases b with
 | false=>exact s_asg (d_r rfl (d_comp1 S.ok Q hv hs hi hE hT)) (g_name S hl hy) hb rfl rfl
 | true=>exact s_comp S (compOk_of Q) hv hl hy hb hi hE (.inr ⟨c,_,rfl,rfl,hT⟩) hs
end
end MP
namespace MP
open PySem PySem.Spec PyProof.Rows L2 PySem.W
theorem ltL_tri:∀ {a b:List Int},a≠b→ltL a b=false→ltL b a=true
 | [],[],h,_=>absurd rfl h
 | [],_::_,_,e=>by cases e
 | _::_,[],_,_=>rfl
 | x::a,y::b,h,e=>by
  rw[ltL] at e ⊢
  by_cases q:x=y
  ·rw[if_pos q] at e
   rw[if_pos q.symm]
   exact ltL_tri (fun z=>h (by rw[q,z])) e
  ·rw[if_neg q] at e
   rw[if_neg (Ne.symm q)]
   have:¬ x<y:=by simpa using e
   simp
   omega
theorem ltL_tr:∀ {a b c:List Int},ltL a b=true→ltL b c=true→ltL a c=true
 | [],[],_,e,_=>by cases e
 | [],_::_,[],_,e=>by cases e
 | [],_::_,_::_,_,_=>rfl
 | _::_,[],_,e,_=>by cases e
 | _::_,_::_,[],_,e=>by cases e
 | x::a,y::b,z::c,e1,e2=>by
  rw[ltL] at e1 e2 ⊢
  by_cases q1:x=y
  ·rw[if_pos q1] at e1
   by_cases q2:y=z
   ·rw[if_pos q2] at e2
    rw[if_pos (q1.trans q2)]
    exact ltL_tr e1 e2
   ·rw[if_neg q2] at e2
    rw[if_neg (by omega)]
    have:y<z:=by simpa using e2
    simp;omega
  ·rw[if_neg q1] at e1
   have h1:x<y:=by simpa using e1
   by_cases q2:y=z
   ·rw[if_neg (by omega)]
    simp;omega
   ·rw[if_neg q2] at e2
    have h2:y<z:=by simpa using e2
    rw[if_neg (by omega)]
    simp;omega
def Row (h:Heap) (v:Value) (k:List Int):Prop:=∃ (a:Addr) (o:Obj) (items:Array Value) (n:Nat) (x y z:Int) (t u w:Tok) (rest:List Value),v=.ref a∧h.get? a=some o∧o.cls=.type "tuple"∧o.data=.seq items n∧items.toList=.int x t::.int y u::.int z w::rest∧k=[x,y,z]
noncomputable def Rows (h:Heap):List Value→List (List Int)→Prop
 | [],[]=>True
 | v::vs,k::ks=>Row h v k∧Rows h vs ks
 | _,_=>False
theorem Row.keep {h h':Heap}{v:Value}{k:List Int} (kp:∀ b o,h.get? b=some o→h'.get? b=some o) (r:Row h v k):Row h' v k:=by
 obtain⟨a,o,items,n,x,y,z,t,u,w,rest,e1,e2,e3⟩:=r
 exact⟨a,o,items,n,x,y,z,t,u,w,rest,e1,kp _ _ e2,e3⟩
theorem Rows.keep {h h':Heap} (kp:∀ b o,h.get? b=some o→h'.get? b=some o):∀ {vs:List Value}{ks:List (List Int)},Rows h vs ks→Rows h' vs ks
 | [],[],_=>trivial
 | _::_,_::_,r=>⟨r.1.keep kp,Rows.keep kp r.2⟩
 | [],_::_,r=>r.elim
 | _::_,[],r=>r.elim
theorem Rows.len {h:Heap}:∀ {vs:List Value}{ks:List (List Int)},Rows h vs ks→ks.length=vs.length
 | [],[],_=>rfl
 | _::_,_::_,r=>by simp[Rows.len r.2]
 | [],_::_,r=>r.elim
 | _::_,[],r=>r.elim
theorem Rows.get {h:Heap}:∀ {vs:List Value}{ks:List (List Int)}{i:Nat},Rows h vs ks→i<vs.length→Row h (vs.getD i Value.none) (ks.getD i [])
 | [],_,i,_,hi=>absurd hi (by simp)
 | _::_,_::_,0,r,_=>r.1
 | _::vs,_::ks,i+1,r,hi=>by
  have:=Rows.get (i:=i) r.2 (by simpa using hi)
  simpa using this
 | _::_,[],_,r,_=>r.elim
theorem Rows.tups {h:Heap}:∀ {vs:List Value}{ks:List (List Int)},Rows h vs ks→∃ fs,KatTups h vs fs∧fs.length=vs.length∧∀ v∈fs,∃ i t,v=Value.int i t
 | [],[],_=>⟨[],trivial,rfl,fun v hv=>absurd hv (by simp)⟩
 | _::vs,_::ks,r=>by
  obtain⟨fs,h1,h2,h3⟩:=Rows.tups r.2
  obtain⟨a,o,items,n,x,y,z,t,u,w,rest,rfl,e2,e3,e4,e5,e6⟩:=r.1
  refine⟨.int x t::fs,KatTups.cons e2 e3 e4 ?_ h1,by simp[h2],fun v hv=>?_⟩
  ·rw[← Array.getElem?_toList,e5]
   rfl
  ·rcases List.mem_cons.mp hv with rfl | hv
   ·exact⟨x,t,rfl⟩
   ·exact h3 v hv
 | [],_::_,r=>r.elim
 | _::_,[],r=>r.elim
section
variable {prog:Program}{w:World}{A:Around}{E:Value→Shared→Prop}{s:Shared}
theorem row_lt {v v':Value}{k k':List Int}{C:Bool→Shared→Prop} (r:Row s.heap v k) (r':Row s.heap v' k') (ne:k≠k') (h:C (ltL k k') s):wpAny (model prog w) A (keyLt' (tuples' true) v v') C (fun _ _=>False) s:=by
 obtain⟨a,o,items,n,x,y,z,t,u,w',rest,rfl,e2,e3,e4,e5,rfl⟩:=r
 obtain⟨a',o',items',n',x',y',z',t',u',w'',rest',rfl,f2,f3,f4,f5,rfl⟩:=r'
 refine kat_lt e2 e4 f2 f4 ?_
 rw[e5,f5]
 refine kat_cons (wpAny_eqBool_int ?_)
 by_cases q1:x=x'
 ·subst q1
  rw[beq_self_eq_true]
  refine kat_yes (kat_cons (wpAny_eqBool_int ?_))
  by_cases q2:y=y'
  ·subst q2
   rw[beq_self_eq_true]
   refine kat_yes (kat_cons (wpAny_eqBool_int ?_))
   have q3:z≠z':=fun q=>ne (by rw[q])
   rw[beq_false_of_ne q3]
   refine kat_no ?_
   show wpAny (model prog w) A (oneLt' false _ _) C (fun _ _=>False) s
   refine kat_one _ _ (lt_int ?_)
   have:ltL [x,y,z] [x,y,z']=decide (z<z'):=by simp[ltL,q3]
   rw[this] at h
   exact h
  ·rw[beq_false_of_ne q2]
   refine kat_no ?_
   show wpAny (model prog w) A (oneLt' false _ _) C (fun _ _=>False) s
   refine kat_one _ _ (lt_int ?_)
   have:ltL [x,y,z] [x,y',z']=decide (y<y'):=by simp[ltL,q2]
   rw[this] at h
   exact h
 ·rw[beq_false_of_ne q1]
  refine kat_no ?_
  show wpAny (model prog w) A (oneLt' true _ _) C (fun _ _=>False) s
  refine oneLt_int ?_
  have:ltL [x,y,z] [x',y',z']=decide (x<x'):=by simp[ltL,q1]
  rw[this] at h
  exact h
theorem rows_kind {vs:List Value}{ks:List (List Int)} (r:Rows s.heap vs ks) (nd:ks.Nodup) (h2:2≤vs.length) :
  wpAny (model prog w) A (keyKind' vs.toArray) (fun κ s'=>s'=s∧Ord vs.length (fun i j=>ltL (ks.getD i []) (ks.getD j [])) (kas_ask prog w A κ vs) s') (fun _ _=>False) s:=by
 obtain⟨fs,t,hf,hi⟩:=r.tups
 have hl:=r.len
 have dist:∀ i j,i<vs.length→j<vs.length→i≠j→ks.getD i []≠ks.getD j []:=fun i j h1 h2 ne z=>by
  have l1:i<ks.length:=by omega
  have l2:j<ks.length:=by omega
  have e1:ks.getD i []=ks[i]:=by simp[l1]
  have e2:ks.getD j []=ks[j]:=by simp[l2]
  rw[e1,e2] at z
  exact ne ((List.getElem_inj nd).mp z)
 refine kat_kind t (by omega) (T:=.type "int") (fun v hv=>?_) rfl ⟨rfl,?_⟩
 ·obtain⟨i,t,rfl⟩:=hi v hv
  exact Looks.of_pure rfl
 ·exact {
   ask:=fun i j C h1 h2 ne h=>row_lt (r.get h1) (r.get h2) (dist i j h1 h2 ne) h
   tri:=fun i j h1 h2 ne e=>ltL_tri (dist i j h1 h2 ne) e
   tr:=fun i j k _ _ _ e1 e2=>ltL_tr e1 e2 }
end
theorem vals_pick {vs:List V}{us:List Value} (r:Vals vs us):∀ l:List Nat,(∀ i∈l,i<vs.length)→Vals (l.map fun i=>vs.getD i .non) (l.map fun i=>us.getD i Value.none)
 | [],_=>.nil
 | i::l,h=>by
  have hi:=h i List.mem_cons_self
  obtain⟨u,e,rel⟩:=r.get (List.getElem?_eq_getElem hi)
  have e1:vs.getD i .non=vs[i]:=by simp[hi]
  have e2:us.getD i Value.none=u:=by rw[List.getD_eq_getElem?_getD,e];rfl
  refine .cons ?_ (vals_pick r l fun j hj=>h j (List.mem_cons_of_mem _ hj))
  show RelV (vs.getD i .non) (us.getD i Value.none)
  rw[e1,e2]
  exact rel
theorem reps_pick {K:PySem.W.Frag}{H:Hp}{th:Th}{xs:List D}{vs:List V} (r:RepVs K H th xs vs):∀ l:List Nat,(∀ i∈l,i<vs.length)→RepVs K H th (l.map fun i=>xs.getD i .non) (l.map fun i=>vs.getD i .non)
 | [],_=>.nil
 | i::l,h=>by
  have hi:=h i List.mem_cons_self
  have hx:i<xs.length:=by rw[r.length];exact hi
  obtain⟨v,e,rel⟩:=r.get (List.getElem?_eq_getElem hx)
  have e1:xs.getD i .non=xs[i]:=by simp[hx]
  have e2:vs.getD i .non=v:=by rw[List.getD_eq_getElem?_getD,e];rfl
  refine .cons ?_ (reps_pick r l fun j hj=>h j (List.mem_cons_of_mem _ hj))
  show RepV K H th (xs.getD i .non) (vs.getD i .non)
  rw[e1,e2]
  exact rel
noncomputable def key3' (d:D):List Int:=(key3 d).getD []
theorem keys3_map:∀ {xs:List D}{ks:List (List Int)},keys3 xs=some ks→ks=xs.map key3'∧∀ x∈xs,key3 x=some (key3' x)
 | [],ks,e=>by cases e;exact⟨rfl,fun x hx=>absurd hx (by simp)⟩
 | x::xs,ks,e=>by
  rw[keys3] at e
  obtain⟨k,q1,e⟩:=obs e
  obtain⟨kr,q2,e⟩:=obs e
  cases e
  obtain⟨h1,h2⟩:=keys3_map q2
  have e1:key3' x=k:=by unfold key3';rw[q1];rfl
  refine⟨by rw[List.map_cons,e1,h1],fun y hy=>?_⟩
  rcases List.mem_cons.mp hy with rfl | hy
  ·rw[e1];exact q1
  ·exact h2 y hy
theorem range_pick {α:Type} (d:α) (xs:List α):(List.range xs.length).map (fun i=>xs.getD i d)=xs:=by
 refine List.ext_getElem (by simp) fun i h1 h2=>?_
 simp
 rw[List.getElem?_eq_getElem h2]
 rfl
theorem srt_pick {xs:List D}{ks:List (List Int)} (e:keys3 xs=some ks) (nd:ks.Nodup) {p:Array Nat} (P:Prm xs.length p) (A:Asc (fun i j=>ltL (ks.getD i []) (ks.getD j [])) p xs.length):xs.mergeSort le3=p.toList.map fun i=>xs.getD i .non:=by
 obtain⟨hk,hm⟩:=keys3_map e
 have e0:xs.mergeSort le3=xs.mergeSort (fun a b=>!ltL (key3' b) (key3' a)):=by
  have:=List.map_mergeSort (r:=le3) (s:=fun a b=>!ltL (key3' b) (key3' a)) (f:=id) (l:=xs) (fun a ha b hb=>by
   show le3 a b=!ltL (key3' b) (key3' a)
   unfold le3
   rw[hm a ha,hm b hb])
  simpa using this
 rw[e0]
 have irr:∀ a:List Int,ltL a a=false:=fun a=>by
  induction a with
  | nil=>rfl
  | cons x a ih=>simp[ltL,ih]
 have pw1:=List.pairwise_mergeSort (le:=fun a b:D=>!ltL (key3' b) (key3' a)) (fun a b c h1 h2=>by
   simp only[Bool.not_eq_true'] at *
   cases q:ltL (key3' c) (key3' a) with
   | false=>rfl
   | true =>
    by_cases z:key3' a=key3' b
    ·rw[z] at q;rw[q] at h2;cases h2
    ·have:=ltL_tri (Ne.symm z) h1
     rw[ltL_tr q this] at h2
     cases h2) (fun a b=>by
   cases q:ltL (key3' b) (key3' a) with
   | false=>simp
   | true =>
    cases q2:ltL (key3' a) (key3' b) with
    | false=>simp
    | true =>
     have:=ltL_tr q q2
     rw[irr] at this
     cases this) xs
 have pw2:(p.toList.map fun i=>xs.getD i .non).Pairwise (fun a b=>(!ltL (key3' b) (key3' a))=true):=by
  rw[List.pairwise_iff_getElem]
  intro i j hi hj hij
  have hi':i<p.size:=by simpa using hi
  have hj':j<p.size:=by simpa using hj
  have sz:=P.size
  simp only[List.getElem_map,Array.getElem_toList]
  have a1:ltL (ks.getD (p.getD i 0) []) (ks.getD (p.getD j 0) [])=true:=A i j hij (by omega)
  have g:∀ q,q<p.size→ks.getD (p.getD q 0) []=key3' (xs.getD (p.getD q 0) .non):=fun q hq=>by
   have hb:=P.bd (show q<xs.length by omega)
   rw[hk]
   generalize p.getD q 0=i at hb
   simp[hb]
  have gi:p.getD i 0=p[i]:=by simp[Array.getD,hi']
  have gj:p.getD j 0=p[j]:=by simp[Array.getD,hj']
  rw[g i hi',g j hj',gi,gj] at a1
  cases q:ltL (key3' (xs.getD p[j] .non)) (key3' (xs.getD p[i] .non)) with
  | false=>rfl
  | true =>
   have:=ltL_tr q a1
   rw[irr] at this
   cases this
 have pm:(p.toList.map fun i=>xs.getD i .non).Perm xs:=by
  have:=P.map (fun i=>xs.getD i D.non)
  rw[range_pick] at this
  exact this
 refine List.Perm.eq_of_pairwise (fun a b ha hb h1 h2=>?_) pw1 pw2 ((List.mergeSort_perm _ _).trans pm.symm)
 have ha:a∈xs:=(List.mergeSort_perm _ _).mem_iff.mp ha
 have hb:b∈xs:=pm.mem_iff.mp hb
 have ek:key3' a=key3' b:=by
  by_cases z:key3' a=key3' b
  ·exact z
  ·simp only[Bool.not_eq_true'] at h1 h2
   have:=ltL_tri (Ne.symm z) h1
   rw[this] at h2
   cases h2
 rw[hk] at nd
 obtain⟨i,hi,rfl⟩:=List.getElem_of_mem ha
 obtain⟨j,hj,rfl⟩:=List.getElem_of_mem hb
 have:i=j:=(List.getElem_inj (h₀:=by simpa using hi) (h₁:=by simpa using hj) nd).mp (by simpa using ek)
 subst this
 rfl
section
variable {X:Cx}{C:CC}{G:List Den}{k:Nat}
theorem rows_of {pins:List (Addr×Obj)}{σ:L2.St}{H:Hp}{s:Shared}{th:Th} (I:Inv X pins σ H s):∀ {xs:List D}{vs:List V}{us:List Value}{ks:List (List Int)},RepVs X.K H th xs vs→Vals vs us→keys3 xs=some ks→Rows s.heap us ks
 | [],_,_,ks,.nil,r,e=>by cases r;cases e;trivial
 | x::xs,_,_,ks,.cons r1 r2,r,e=>by
  cases r with
  | cons ru rr =>
   rw[keys3] at e
   obtain⟨k,q1,e⟩:=obs e
   obtain⟨kr,q2,e⟩:=obs e
   cases e
   refine⟨?_,rows_of I r2 rr q2⟩
   unfold key3 at q1
   split at q1
   ·rename_i a b c rest
    cases q1
    cases r1 with
    | tup sq rs =>
     cases ru
     obtain⟨its,rv,tp,_⟩:=I.tuple sq
     obtain⟨o,ho,hc,n,hd⟩:=tp
     cases rs with
     | cons ra rs =>
      cases rs with
      | cons rb rs =>
       cases rs with
       | cons rc rs =>
        cases ra
        cases rb
        cases rc
        cases rv with
        | cons va rv =>
         cases rv with
         | cons vb rv =>
          cases rv with
          | cons vc rv =>
           obtain⟨t,rfl⟩:=va
           obtain⟨u,rfl⟩:=vb
           obtain⟨w,rfl⟩:=vc
           exact⟨_,o,_,n,a,b,c,t,u,w,_,rfl,ho,hc,hd,rfl,rfl⟩
   ·cases q1
theorem call_sortedR (hc:X.calm=true):CallR X (.builtin "sorted") (fun ys H Q=>∃ (p:Addr) (th:Th) (xs:List D) (vs:List V) (ks:List (List Int)),ys=[.ref p]∧SqL X.K H p vs∧RepVs X.K H th xs vs∧keys3 xs=some ks∧ks.Nodup∧xs.length<64 ∧
  ∀ q,H q=none→∀ π:Array Nat,Prm xs.length π→Asc (fun i j=>ltL (ks.getD i []) (ks.getD j [])) π xs.length→Q (.ref q) (upd H q (.lst (π.toList.map fun i=>vs.getD i .non)))):=by
 intro pins s σ H ys us Q I r h
 obtain⟨p,th,xs,vs,ks,rfl,sq,rx,hk,nd,h64,q⟩:=h
 obtain⟨u,rfl,ru⟩:=vals1 r
 cases ru
 obtain⟨its,rv,pl,hz⟩:=I.list sq
 have hl:its.length=xs.length:=by rw[rx.length,rv.length]
 have rows:=rows_of I rx rv hk
 refine sorted_T (lt:=fun i j=>ltL (ks.getD i []) (ks.getD j [])) pl.isList (by omega) (fun h2 h' kp=>rows_kind (s:={ s with heap:=h' }) (rows.keep kp) nd h2) fun π P A=>?_
 rw[hl] at P A
 have hv:vs.length=xs.length:=rx.length.symm
 have hb:∀ i∈π.toList,i<vs.length:=fun i hi=>by rw[hv];exact List.mem_range.mp (P.mem_iff.mp hi)
 obtain⟨e,he⟩:=sortedAll_at s.heap its (outOf its π)
 refine⟨.ref (s.heap.objs.size+1),_,I.laid (t':=s.toks) (fun b o q=>sortedAll_old q) (Nat.le_succ _) (show ObjOk X.prog X.w (upd H (s.heap.objs.size+1) (.lst (π.toList.map fun i=>vs.getD i .non))) _ _ (.lst (π.toList.map fun i=>vs.getD i .non)) from ⟨?_,_,e,vals_pick rv π.toList hb,he⟩),rfl,q _ (I.hok.fresh (Nat.le_succ _)) π P A⟩
 rw[List.length_map,SZ_eq]
 have:=P.length_eq
 rw[List.length_range] at this
 show π.toList.length≤16777216
 omega
theorem d_srtR {o:Expr}{p:PX}{np pos:Pos} (O:CtxOk X C G k) (hx:C.isBl "sorted"=true) (hs:starEach [o] X.env=[(false,eval o X.env)]) (ho:PE X o (rdE X.K G p)):PE X (.Call (.Name "sorted" np) [o] [] pos) (rdE X.K G (.srtR p)):=by
 obtain⟨g1,l1⟩:=Bool.and_eq_true_iff.mp hx
 refine (pe_callB (call_sortedR O.calm) (isGl_ok O g1).1 (O.bl _ l1) boot_sorted (pa_cons ho pa_nil hs) (he:=hs) (hpl:=rfl)).imp fun σ H Q ⟨th,ρ,h,d,h',w,en,e1,kk⟩=>?_
 rw[ev] at e1
 obtain⟨⟨d1,h1⟩,q1,e1⟩:=obs e1
 dsimp only at e1
 refine⟨th,ρ,h,d1,h1,w,en,q1,fun x H1 th1 r1 w1 g1=>?_⟩
 have rw1:=r1.view w1
 cases ev1:vw h1 d1 with
 | lst xs =>
  rw[ev1] at e1 rw1
  dsimp only at e1
  obtain⟨l,q2,e1⟩:=obs e1
  cases e1
  unfold srtRD at q2
  obtain⟨ks,q3,q2⟩:=obs q2
  by_cases hc:ks.Nodup∧xs.length<64
  ·rw[if_pos hc] at q2
   cases q2
   obtain⟨a,vs,rfl,sq,rr⟩:=rw1.ilst
   refine⟨a,th1,xs,vs,ks,rfl,sq,rr,q3,hc.1,hc.2,fun q hq π P A=>?_⟩
   have g:=Gr.laid (H:=H1) (o:=.lst (π.toList.map fun i=>vs.getD i .non)) th1 hq
   have hb:∀ i∈π.toList,i<vs.length:=fun i hi=>by rw[← rr.length];exact List.mem_range.mp (P.mem_iff.mp hi)
   have rr2:=(reps_pick rr π.toList hb).mono g w1.kd
   rw[← srt_pick q3 hc.1 P A] at rr2
   exact kk _ _ th1 (.lst (SqL.of upd_same) (w1.notin hq) rr2) (w1.laid hq) (g1.trans g)
  ·rw[if_neg hc] at q2;cases q2
 | _=>rw[ev1] at e1;cases e1
end
end MP
namespace MP
open PySem PySem.Spec PyProof.Rows L2
section
variable {K:PySem.W.Frag}{H H0:Hp}{th t:Th}
mutual
theorem RepV.cut0:∀ {d:D}{v:V},nrf d=true→RepV K H (th++t) d v→RepV K H th d v
 | _,_,_,.non=>.non
 | _,_,_,.bl b=>.bl b
 | _,_,_,.int i=>.int i
 | _,_,_,.str s=>.str s
 | _,_,n,.tup q r=>.tup q (RepVs.cut0 (by simpa [nrf] using n) r)
 | _,_,n,.lst q m r=>.lst q (fun z=>m (List.mem_append_left _ z)) (RepVs.cut0 (by simpa [nrf] using n) r)
 | _,_,n,.ref _=>by cases n
 | _,_,_,.fn e=>.fn e
theorem RepVs.cut0:∀ {ds:List D}{vs:List V},nrfs ds=true→RepVs K H (th++t) ds vs→RepVs K H th ds vs
 | _,_,_,.nil=>.nil
 | _,_,n,.cons a b=>by
  rw[nrfs,Bool.and_eq_true] at n
  exact .cons (RepV.cut0 n.1 a) (RepVs.cut0 n.2 b)
end
mutual
theorem RepV.cut1:∀ {d:D}{v v0:V},RepV K H0 th d v0→RepV K H (th++t) d v→RepV K H th d v
 | _,_,_,_,.non=>.non
 | _,_,_,_,.bl b=>.bl b
 | _,_,_,_,.int i=>.int i
 | _,_,_,_,.str s=>.str s
 | _,_,_,.tup _ r0,.tup q r=>.tup q (RepVs.cut1 r0 r)
 | _,_,_,.lst _ _ r0,.lst q m r=>.lst q (fun z=>m (List.mem_append_left _ z)) (RepVs.cut1 r0 r)
 | .ref n,_,_,.ref e0,.ref e=>.ref (by
   have hn:n<th.length:=(List.getElem?_eq_some_iff.mp e0).1
   rw[List.getElem?_append_left hn] at e
   exact e)
 | _,_,_,_,.fn e=>.fn e
theorem RepVs.cut1:∀ {ds:List D}{vs vs0:List V},RepVs K H0 th ds vs0→RepVs K H (th++t) ds vs→RepVs K H th ds vs
 | _,_,_,_,.nil=>.nil
 | _,_,_,.cons a0 b0,.cons a b=>.cons (RepV.cut1 a0 a) (RepVs.cut1 b0 b)
end
theorem Wd.cut {h h1:AH} (w0:Wd K th h H0) (w:Wd K (th++t) h1 H) (e:h1.take h.length=h):Wd K th h H where
 nd:=(List.nodup_append.mp w.nd).1
 len:=w0.len
 kd:=fun a m=>w.kd a (List.mem_append_left _ m)
 obj:=fun n a o e1 e2=>by
  have hn:n<th.length:=(List.getElem?_eq_some_iff.mp e1).1
  have r0:=w0.obj n a o e1 e2
  have e2':h1[n]?=some o:=by
   rw[← e] at e2
   rw[List.getElem?_take_of_lt (by rw[← w0.len];exact hn)] at e2
   exact e2
  have r:=w.obj n a o (by rw[List.getElem?_append_left hn];exact e1) e2'
  cases o with
  | lst ds =>
   obtain⟨vs0,_,q0⟩:=r0
   obtain⟨vs,e3,q⟩:=r
   exact⟨vs,e3,RepVs.cut1 q0 q⟩
  | dct _ _ =>
   obtain⟨us0,_,_,q0⟩:=r0
   obtain⟨us,e3,e4,q⟩:=r
   exact⟨us,e3,e4,RepVs.cut1 q0 q⟩
  | ins _ _ =>
   obtain⟨_,_,us0,_,_,_,q0⟩:=r0
   obtain⟨C,dx,us,e5,e3,e4,q⟩:=r
   exact⟨C,dx,us,e5,e3,e4,RepVs.cut1 q0 q⟩
theorem Gr.cut (g:Gr th (th++t) H0 H):Gr th th H0 H:=⟨⟨[],by simp⟩,g.keep,g.tups,fun a h1 h2=>absurd h1 h2,g.frz⟩
end
theorem cut_ok {K:PySem.W.Frag}{th:Th}{h h1:AH}{H:Hp}{d:D}{Q:VK}{f:Den}{ds:List D} (w:Wd K th h H) (e:f ds h=.ok d h1)
  {EX:Nat→Hp→Prop} (q:match cutDen f ds h with
   | .ok d h'=>∀ v H' th',RepV K H' th' d v→Wd K th' h' H'→Gr th th' H H'→Q v H'
   | .exc c h'=>∀ H' th',Wd K th' h' H'→Gr th th' H H'→EX c H'
   | .bad=>False):∀ v H' th',RepV K H' th' d v→Wd K th' h1 H'→Gr th th' H H'→Q v H':=by
 intro v H' th' r w' g
 by_cases hc:nrf d=true∧h1.take h.length=h
 ·rw[cutDen_ok e hc.1 hc.2] at q
  obtain⟨t,rfl⟩:=g.pre
  exact q v H' th (r.cut0 hc.1) (w.cut w' hc.2) g.cut
 ·have:cutDen f ds h=.ok d h1:=by
   unfold cutDen
   rw[e]
   exact if_neg hc
  rw[this] at q
  exact q v H' th' r w' g
theorem cut_exc {K:PySem.W.Frag}{th:Th}{h h1:AH}{H:Hp}{c:Nat}{Q:VK}{f:Den}{ds:List D} (w:Wd K th h H) (e:f ds h=.exc c h1)
  {EX:Nat→Hp→Prop} (q:match cutDen f ds h with
   | .ok d h'=>∀ v H' th',RepV K H' th' d v→Wd K th' h' H'→Gr th th' H H'→Q v H'
   | .exc c h'=>∀ H' th',Wd K th' h' H'→Gr th th' H H'→EX c H'
   | .bad=>False):∀ H' th',Wd K th' h1 H'→Gr th th' H H'→EX c H':=by
 intro H' th' w' g
 by_cases hc:h1.take h.length=h
 ·rw[cutDen_exc e hc] at q
  obtain⟨t,rfl⟩:=g.pre
  exact q H' th (w.cut w' hc) g.cut
 ·have:cutDen f ds h=.exc c h1:=by
   unfold cutDen
   rw[e]
   exact if_neg hc
  rw[this] at q
  exact q H' th' w' g
theorem startE_env {K:PySem.W.Frag}{th:Th}{H:Hp}{N:List Str}{ds:List D}{vs:List V} (r:RepVs K H th ds vs):EnvR K H th (startE N.length ds) (L2.start N vs):=by
 have len:=r.length
 refine⟨by simp[startE,L2.start,len],fun i d e=>?_⟩
 unfold getV startE at e
 by_cases hi:i<ds.length
 ·rw[List.getElem?_append_left (by simpa using hi),List.getElem?_map] at e
  cases q:ds[i]? with
  | none=>rw[q] at e;cases e
  | some d' =>
   rw[q] at e
   have:d'=d:=by simpa using e
   subst this
   obtain⟨v,e2,r2⟩:=r.get q
   refine⟨v,?_,r2⟩
   unfold L2.start
   rw[List.getElem?_append_left (by simp;omega),List.getElem?_map,e2]
   rfl
 ·rw[List.getElem?_append_right (by simp;omega),List.getElem?_replicate] at e
  split at e<;>cases e
def FnX (P:Program) (w:World) (K:PySem.W.Frag) (mg:Str→Option Value) (base:Heap) (k:Nat) (x:Str) (f:Den):Prop :=
 ∃ (fa:Addr) (fd:FuncData) (ps:List Str),mg x=some (.ref fa)∧PySem.W.keepIn K (.ref fa)=true ∧
  FnOk P w K mg base (CXM P w) k fa fd ps (spOf K mg ps.length f)∧Binds K fd ps []∧∀ ds h,f ds h≠.bad→ds.length=ps.length
theorem runF_len {G:List Den}{np n:Nat}{b:List PSt}{ds:List D}{h:AH} (e:cutDen (runF G np n b) ds h≠.bad):ds.length=np:=by
 by_cases hl:ds.length=np
 ·exact hl
 ·have:runF G np n b ds h=.bad:=by unfold runF;exact if_neg hl
  unfold cutDen at e
  rw[this] at e
  exact absurd rfl e
def MethX (P:Program) (w:World) (K:PySem.W.Frag) (mg:Str→Option Value) (base:Heap) (k:Nat) (c m:Str) (f:Den):Prop :=
 ∃ (Ca fa:Addr) (fd:FuncData) (ps:List Str),PySem.W.nsIn K mainGlobals c=some (some (.ref Ca))∧Cls K Ca∧Meth K Ca m fa ∧
  FnOk P w K mg base (CXM P w) k fa fd ps (spOf K mg ps.length f)∧Binds K fd ps []∧∀ ds h,f ds h≠.bad→ds.length=ps.length
def MakeX (P:Program) (w:World) (K:PySem.W.Frag) (mg:Str→Option Value) (base:Heap) (k:Nat) (c:Str) (f:Den):Prop :=
 ∃ (Ca fa:Addr) (fd:FuncData) (ps:List Str),PySem.W.nsIn K mainGlobals c=some (some (.ref Ca))∧mg c=some (.ref Ca)∧Mk K Ca fa ∧
  FnOk P w K mg base (CXM P w) k fa fd ps (spOf K mg ps.length f)∧Binds K fd ps []∧∀ ds h,f ds h≠.bad→ds.length=ps.length
structure Txt (mg:Str→Option Value) (K:PySem.W.Frag) (base:Heap) (C:CC):Prop where
 ct:∀ y d,C.ct.lookup y=some d→∃ u v,mg y=some u∧RelV v u∧∀ H th,RepV K H th d v
 bl:∀ y,C.bl.contains y=true→mg y=none
 gl:∀ x a,PySem.W.nsIn K mainGlobals x=some (some (.ref a))→mg x=some (.ref a)
 fa:∀ x,C.fs.contains x=true→plainName x=true→∃ a,PySem.W.nsIn K mainGlobals x=some (some (.ref a))
 er:∀ c,C.er.contains c=true→ErrOk mg base c
 fd:∀ c f,C.fd.contains (c,f)=true→∃ Ca,PySem.W.nsIn K mainGlobals c=some (some (.ref Ca))∧Cls K Ca∧NoAttr K Ca f
theorem fn_ok {P:Program}{w:World}{K:PySem.W.Frag}{mg:Str→Option Value}{base:Heap}{x qual:Str}{st:Stmt}{f:Addr}{fd:FuncData}{N ps:List Str}{k:Nat}{C:CC}{G:List Den}{b:List PSt}
  (F:Fun K x qual st f fd) (S:FnScope N ps (defScope st)) (T:Txt mg K base C) (tw:∀ P' W ws,C.tw=some (P',W,ws)→∃ Pc,mg P'=some (.ref Pc)∧WordOk P w K mg base k W ws∧∀ c d,ws.lookup c=some d→PySem.W.exmOne K (ecV mg c) (.ref Pc)=some true)
  (hN:C.N=N) (hnm:C.nm=(defScope st).names) (hb:∀ X EX,CtxS X C G k EX→TwOk X C k→PSs X (defBody st) (rdSs X.K G EX b))
  (hfs:∀ (i:Nat) y g,C.fs[i]?=some y→plainName y=true→G[i]?=some g→∃ j,j+1≤k∧FnX P w K mg base j y g) (hms:∀ i c m φ,C.ms.contains (i,c,m)=true→G[i]?=some φ→MethX P w K mg base k c m φ) (hmk:∀ i c φ,C.mn.contains (i,c)=true→G[i]?=some φ→∃ j,j+1≤k∧MakeX P w K mg base j c φ) :
  FnOk P w K mg base (CXM P w) (k+1) f fd ps (spOf K mg ps.length (cutDen (runF G ps.length N.length b))):=by
 obtain⟨oc,od,kV,doc,pm,an,cdv,ct,osl,rfl,lk,hcd⟩:=F.ex
 refine fn_of lk hcd S (fun vs H Q E h=>h.1) fun A outer s H vs Q E hr h=>?_
 obtain⟨hl,th,h,ds,wd,rv,q⟩:=h
 have mono:∀ cls d H',toE mg (fun c H=>E (ecV mg c) none H) cls d H'→E cls none H':=fun cls d H' ⟨c,e,z⟩=>by rw[e];exact z
 have O:CtxS (cxOf (CXM P w) P w K mg base N qual (defScope st) f cdv A outer s H E) C G k (fun c H=>E (ecV mg c) none H):={
  ok:={
   N:=hN.symm
   nm:=hnm.symm
   nd:=by rw[hN];exact S.nd
   calm:=rfl
   room:=hr
   ct:=T.ct
   fs:=fun i y g h1 h0 h2=>let ⟨j,hj,M⟩:=hfs i y g h1 h0 h2;⟨j,hj,⟨M⟩⟩
   bl:=T.bl
   gl:=T.gl
   fa:=T.fa
   fd:=T.fd
   ms:=fun i c m φ h1 h2=>⟨hms i c m φ h1 h2⟩
   mn:=fun i c φ h1 h2=>let ⟨j,hj,M⟩:=hmk i c φ h1 h2;⟨j,hj,⟨M⟩⟩ }
  xc:=fun pins σ H1 s1 e s' I hc=>by
   obtain⟨ea,C,B,H',a1,a2,a3,a4,a5,a6,a7,a8,a9⟩:=hc
   exact xc_def pins σ H1 s1 e s' I ⟨ea,C,B,H',a1,a2,a3,a4,a5,a6,a7,a8,mono _ _ _ a9⟩
  xm:=.inr fun I hx q=>xm_def I hx (mono _ _ _ q)
  st:=⟨rfl,rfl,rfl⟩
  af:=fun _=>rfl
  er:=T.er
  fn:=fun y _=>.inl rfl
  own:=xc_own }
 refine⟨_,hb _ _ O tw,th,startE N.length ds,h,wd,startE_env rv,?_⟩
 have hdl:ds.length=ps.length:=by rw[rv.length];exact hl
 cases e:exSs G b (startE N.length ds) h with
 | rt d h1 =>
  have er:runF G ps.length N.length b ds h=.ok d h1:=by unfold runF;rw[if_pos hdl,e]
  exact cut_ok wd er q
 | nx ρ' h1 =>
  have er:runF G ps.length N.length b ds h=.ok .non h1:=by unfold runF;rw[if_pos hdl,e]
  have:=cut_ok wd er q
  exact fun σ' H' th' _ w' g=>this .non H' th' .non w' g
 | bk ρ' h1 =>
  have er:runF G ps.length N.length b ds h=.bad:=by unfold runF;rw[if_pos hdl,e]
  unfold cutDen at q
  rw[er] at q
  exact q.elim
 | ct ρ' h1 =>
  have er:runF G ps.length N.length b ds h=.bad:=by unfold runF;rw[if_pos hdl,e]
  unfold cutDen at q
  rw[er] at q
  exact q.elim
 | exc c ρ' h1 =>
  have er:runF G ps.length N.length b ds h=.exc c h1:=by unfold runF;rw[if_pos hdl,e]
  exact cut_exc wd er q
 | bad =>
  have er:runF G ps.length N.length b ds h=.bad:=by unfold runF;rw[if_pos hdl,e]
  unfold cutDen at q
  rw[er] at q
  exact q.elim
theorem fn_x {P:Program}{w:World}{K:PySem.W.Frag}{mg:Str→Option Value}{base:Heap}{x qual:Str}{st:Stmt}{f:Addr}{fd:FuncData}{N ps:List Str}{k:Nat}{C:CC}{G:List Den}{b:List PSt}
  (hm:mg x=some (.ref f)) (F:Fun K x qual st f fd) (S:FnScope N ps (defScope st)) (hbd:Binds K fd ps []) (T:Txt mg K base C) (tw:∀ P' W ws,C.tw=some (P',W,ws)→∃ Pc,mg P'=some (.ref Pc)∧WordOk P w K mg base k W ws∧∀ c d,ws.lookup c=some d→PySem.W.exmOne K (ecV mg c) (.ref Pc)=some true)
  (hN:C.N=N) (hnm:C.nm=(defScope st).names) (hb:∀ X EX,CtxS X C G k EX→TwOk X C k→PSs X (defBody st) (rdSs X.K G EX b))
  (hfs:∀ (i:Nat) y g,C.fs[i]?=some y→plainName y=true→G[i]?=some g→∃ j,j+1≤k∧FnX P w K mg base j y g) (hms:∀ i c m φ,C.ms.contains (i,c,m)=true→G[i]?=some φ→MethX P w K mg base k c m φ) (hmk:∀ i c φ,C.mn.contains (i,c)=true→G[i]?=some φ→∃ j,j+1≤k∧MakeX P w K mg base j c φ) :
  FnX P w K mg base (k+1) x (cutDen (runF G ps.length N.length b)) :=
 ⟨f,fd,ps,hm,F.kp,fn_ok F S T tw hN hnm hb hfs hms hmk,hbd,fun ds h e=>runF_len e⟩
end MP
namespace MP
open PySem
theorem bl_min2 {a b:Int}:bltD .min2 [.int a,.int b]=some (.int (if b<a then b else a)):=rfl
theorem bl_max2 {a b:Int}:bltD .max2 [.int a,.int b]=some (.int (if b > a then b else a)):=rfl
theorem bl_lenL {s:List D}:bltD .len [.lst s]=some (.int s.length):=rfl
theorem bl_lenS {s:List Nat}:bltD .len [.str s]=if s.length≤SZ then some (.int s.length) else none:=rfl
theorem bl_intB {b:Bool}:bltD .int [.bl b]=some (.int (b2z b)):=rfl
theorem bi_add {a b:Int}:binD .Add (.int a) (.int b)=some (.int (a+b)):=rfl
theorem bi_sub {a b:Int}:binD .Sub (.int a) (.int b)=some (.int (a - b)):=rfl
theorem bi_mul {a b:Int}:binD .Mult (.int a) (.int b)=if mulOk a b then some (.int (a * b)) else none:=rfl
section
variable {h:AH}
@[simp] theorem vw_non:vw h .non=.non:=rfl
@[simp] theorem vw_bl {b:Bool}:vw h (.bl b)=.bl b:=rfl
@[simp] theorem vw_int {i:Int}:vw h (.int i)=.int i:=rfl
@[simp] theorem vw_str {s:List Nat}:vw h (.str s)=.str s:=rfl
@[simp] theorem vw_tup {xs:List D}:vw h (.tup xs)=.tup xs:=rfl
@[simp] theorem vw_lst {xs:List D}:vw h (.lst xs)=.lst xs:=rfl
@[simp] theorem tru_non:tru h .non=some false:=rfl
@[simp] theorem tru_bl {b:Bool}:tru h (.bl b)=some b:=rfl
@[simp] theorem tru_int {i:Int}:tru h (.int i)=some (i != 0):=rfl
@[simp] theorem tru_tup {xs:List D}:tru h (.tup xs)=some (!xs.isEmpty):=rfl
@[simp] theorem tru_lst {xs:List D}:tru h (.lst xs)=some (!xs.isEmpty):=rfl
@[simp] theorem getV_zero {x:Option D}{ρ:Ev}:getV (x::ρ) 0=x:=by simp[getV]
@[simp] theorem getV_succ {x:Option D}{ρ:Ev}{n:Nat}:getV (x::ρ) (n+1)=getV ρ n:=by simp[getV]
@[simp] theorem pure_int {n:Nat}{i:Int}:pureN n (.int i)=true:=by cases n<;>rfl
@[simp] theorem pure_bl {n:Nat}{i:Bool}:pureN n (.bl i)=true:=by cases n<;>rfl
@[simp] theorem pure_non {n:Nat}:pureN n .non=true:=by cases n<;>rfl
@[simp] theorem pure_str {n:Nat}{s:List Nat}:pureN n (.str s)=s.all fun c=>decide (c<1114112):=by cases n<;>rfl
@[simp] theorem pure_tup {n:Nat}{xs:List D}:pureN (n+1) (.tup xs)=xs.all (pureN n):=rfl
@[simp] theorem pure_lst {n:Nat}{xs:List D}:pureN (n+1) (.lst xs)=xs.all (pureN n):=rfl
@[simp] theorem pure_ints (n:Nat) (l:List Int):(l.map D.int).all (pureN n)=true:=by
 induction l with
 | nil=>rfl
 | cons a l ih=>simp
@[simp] theorem inD_ints (x:Int) (l:List Int):inD (.int x) (l.map .int)=l.contains x:=by
 induction l with
 | nil=>rfl
 | cons a l ih =>
  simp only[inD,List.map_cons,List.any_cons,List.contains_cons] at ih ⊢
  rw[ih]
  have e:eqD (D.int a) (D.int x)=(x==a):=by
   show (a==x)=(x==a)
   by_cases q:a=x
   ·subst q;rfl
   ·rw[beq_eq_false_iff_ne.mpr q,beq_eq_false_iff_ne.mpr (Ne.symm q)]
  rw[e]
@[simp] theorem cmp_eq {a b:D}:cmpD .Eq a b=if pureD a&&pureD b then some (eqD a b) else none:=rfl
@[simp] theorem cmp_ne {a b:D}:cmpD .NotEq a b=if pureD a&&pureD b then some (!eqD a b) else none:=rfl
@[simp] theorem cmp_lt {a b:Int}:cmpD .Lt (.int a) (.int b)=some (decide (a<b)):=rfl
@[simp] theorem cmp_le {a b:Int}:cmpD .LtE (.int a) (.int b)=some (decide (a≤b)):=rfl
@[simp] theorem cmp_gt {a b:Int}:cmpD .Gt (.int a) (.int b)=some (decide (b<a)):=rfl
@[simp] theorem cmp_ge {a b:Int}:cmpD .GtE (.int a) (.int b)=some (decide (b≤a)):=rfl
@[simp] theorem cmp_in_tup {x:D}{ys:List D}:cmpD .In x (.tup ys)=if pureD x&&pureDs ys then some (inD x ys) else none:=by cases x<;>rfl
@[simp] theorem cmp_in_lst {x:D}{ys:List D}:cmpD .In x (.lst ys)=if pureD x&&pureDs ys then some (inD x ys) else none:=by cases x<;>rfl
@[simp] theorem cmp_nin_tup {x:D}{ys:List D}:cmpD .NotIn x (.tup ys)=if pureD x&&pureDs ys then some (!inD x ys) else none:=by cases x<;>rfl
@[simp] theorem cmp_nin_lst {x:D}{ys:List D}:cmpD .NotIn x (.lst ys)=if pureD x&&pureDs ys then some (!inD x ys) else none:=by cases x<;>rfl
@[simp] theorem eqD_int {a b:Int}:eqD (.int a) (.int b)=(a==b):=by simp[eqD]
@[simp] theorem eqD_str {a b:List Nat}:eqD (.str a) (.str b)=(a==b):=by simp[eqD]
@[simp] theorem eqD_bl {a b:Bool}:eqD (.bl a) (.bl b)=(a==b):=by simp[eqD]
@[simp] theorem eqD_non:eqD .non .non=true:=by simp[eqD]
end
section
variable {G:List Den}{ρ:Ev}{h:AH}
@[simp] theorem ev_var {i:Nat}:ev G (.var i) ρ h=(getV ρ i).bind fun d=>some (d,h):=by simp[ev]
@[simp] theorem ev_con {d:D}:ev G (.con d) ρ h=some (d,h):=by simp[ev]
end
end MP
namespace MP
open PySem
noncomputable def forB (G:List Den) (t:PTg) (b:List PSt):D→Ev→AH→R:=fun d ρ h=>match setT t d ρ with
 | some ρ'=>exSs G b ρ' h
 | none=>.bad
theorem exS_for {G:List Den}{t:PTg}{it:PI}{b:List PSt}{ρ:Ev}{h h':AH}{ds:List D} (e:evI G it ρ h=some (ds,h')):exS G (.forS t it b) ρ h=forL (forB G t b) ds ρ h':=by
 rw[exS,e];rfl
theorem forB_nm {G:List Den}{i:Nat}{b:List PSt}{d:D}{ρ:Ev}{h:AH}:forB G (.nm i) b d ρ h=exSs G b (ρ.set i (some d)) h:=rfl
theorem evI_seq {G:List Den}{e:PX}{ρ:Ev}{h h':AH}{d:D}{l:List D} (e1:ev G e ρ h=some (d,h')) (e2:itD h' d=some l):evI G (.seq e) ρ h=some (l,h'):=by
 rw[evI,e1];simp[e2]
theorem evI_rng {G:List Den}{e:PX}{ρ:Ev}{h h':AH}{n:Int} (e1:ev G e ρ h=some (.int n,h')) (hn:-16777216≤n∧n≤16777216):evI G (.rng e) ρ h=some ((List.range n.toNat).map fun i:Nat=>D.int (i:Int),h'):=by
 have hr:rngD (.int n)=some ((List.range n.toNat).map fun i=>D.int (i:Nat)):=if_pos ⟨by omega,by omega⟩
 rw[evI,e1];simp[hr]
theorem exSs_nx {G:List Den}{s:PSt}{r:List PSt}{ρ ρ':Ev}{h h':AH} (e:exS G s ρ h=.nx ρ' h'):exSs G (s::r) ρ h=exSs G r ρ' h':=by rw[exSs,e]
theorem exSs_rt {G:List Den}{s:PSt}{r:List PSt}{ρ:Ev}{h h':AH}{d:D} (e:exS G s ρ h=.rt d h'):exSs G (s::r) ρ h=.rt d h':=by rw[exSs,e]
def EvP (G:List Den) (e:PX) (ρ:Ev) (h:AH) (P:D→Prop):Prop:=∃ d,P d∧ev G e ρ h=some (d,h)
def EvI (G:List Den) (e:PX) (ρ:Ev) (h:AH) (P:Int→Prop):Prop:=∃ i,P i∧ev G e ρ h=some (.int i,h)
def EvT (G:List Den) (e:PB) (ρ:Ev) (h:AH) (P:Bool→Prop):Prop:=∃ b,P b∧evB G e ρ h=some (b,h)
def EvL (G:List Den) (es:List PX) (ρ:Ev) (h:AH) (P:List D→Prop):Prop:=∃ ds,P ds∧evs G es ρ h=some (ds,h)
def EvA (G:List Den) (es:List PX) (ρ:Ev) (h:AH) (P:D→Prop):Prop:=EvL G es ρ h fun ds=>ds.length=es.length∧∀ d∈ds,P d
section
variable {G:List Den}{ρ:Ev}{h:AH}{a b e:PX}{P Q:Int→Prop}{R:Int→Prop}
theorem EvI.p {PD:D→Prop} (he:EvI G e ρ h P) (k:∀ i,P i→PD (.int i)):EvP G e ρ h PD:=let ⟨i,p,q⟩:=he;⟨.int i,k i p,q⟩
theorem ei_con {i:Int} (p:P i):EvI G (.con (.int i)) ρ h P:=⟨i,p,by simp⟩
theorem ei_var {j:Nat}{i:Int} (g:getV ρ j=some (.int i)) (p:P i):EvI G (.var j) ρ h P:=⟨i,p,by simp[g]⟩
theorem ep_con {d:D}{PD:D→Prop} (p:PD d):EvP G (.con d) ρ h PD:=⟨d,p,by simp⟩
theorem ep_var {j:Nat}{d:D}{PD:D→Prop} (g:getV ρ j=some d) (p:PD d):EvP G (.var j) ρ h PD:=⟨d,p,by simp[g]⟩
theorem ei_add (ha:EvI G a ρ h P) (hb:EvI G b ρ h Q) (k:∀ x y,P x→Q y→R (x+y)):EvI G (.bin .Add a b) ρ h R:=by
 obtain⟨x,p,e1⟩:=ha
 obtain⟨y,q,e2⟩:=hb
 exact⟨x+y,k x y p q,by simp[ev,e1,e2,bi_add]⟩
theorem ei_mul (ha:EvI G a ρ h P) (hb:EvI G b ρ h Q) (ok:∀ x y,P x→Q y→mulOk x y=true) (k:∀ x y,P x→Q y→R (x * y)):EvI G (.bin .Mult a b) ρ h R:=by
 obtain⟨x,p,e1⟩:=ha
 obtain⟨y,q,e2⟩:=hb
 exact⟨x * y,k x y p q,by simp[ev,e1,e2,bi_mul,ok x y p q]⟩
theorem ei_fdiv (ha:EvI G a ρ h P) (hb:EvI G b ρ h Q) (ok:∀ y,Q y→0<y∧y<2 ^ 100) (k:∀ x y,P x→Q y→R (x / y)):EvI G (.bin .FloorDiv a b) ρ h R:=by
 obtain⟨x,p,e1⟩:=ha
 obtain⟨y,q,e2⟩:=hb
 refine⟨x / y,k x y p q,?_⟩
 have:binD .FloorDiv (.int x) (.int y)=some (.int (x / y)):=if_pos (ok y q)
 simp[ev,e1,e2,this]
theorem ei_mod (ha:EvI G a ρ h P) (hb:EvI G b ρ h Q) (ok:∀ y,Q y→0<y) (k:∀ x y,P x→Q y→R (x % y)):EvI G (.bin .Mod a b) ρ h R:=by
 obtain⟨x,p,e1⟩:=ha
 obtain⟨y,q,e2⟩:=hb
 refine⟨x % y,k x y p q,?_⟩
 have:binD .Mod (.int x) (.int y)=some (.int (x % y)):=if_pos (ok y q)
 simp[ev,e1,e2,this]
theorem ei_pow (ha:EvI G a ρ h P) (hb:EvI G b ρ h Q) (ok:∀ x y,P x→Q y→0≤y∧y≤1000000∧x.natAbs<2 ^ 64) (k:∀ x y,P x→Q y→R (x ^ y.toNat)):EvI G (.bin .Pow a b) ρ h R:=by
 obtain⟨x,p,e1⟩:=ha
 obtain⟨y,q,e2⟩:=hb
 refine⟨x ^ y.toNat,k x y p q,?_⟩
 have:binD .Pow (.int x) (.int y)=some (.int (x ^ y.toNat)):=if_pos (ok x y p q)
 simp[ev,e1,e2,this]
theorem ei_shl (ha:EvI G a ρ h P) (hb:EvI G b ρ h Q) (ok:∀ x y,P x→Q y→0≤y∧y≤1000000∧x.natAbs<2 ^ 64) (k:∀ x y,P x→Q y→R (x * 2 ^ y.toNat)):EvI G (.bin .LShift a b) ρ h R:=by
 obtain⟨x,p,e1⟩:=ha
 obtain⟨y,q,e2⟩:=hb
 refine⟨x * 2 ^ y.toNat,k x y p q,?_⟩
 have:binD .LShift (.int x) (.int y)=some (.int (x * 2 ^ y.toNat)):=if_pos (ok x y p q)
 simp[ev,e1,e2,this]
theorem ei_fdivC {n:Int} (ha:EvI G a ρ h P) (k:∀ x,P x→R (x / n)) (ok:0<n∧n<2 ^ 100:=by decide):EvI G (.bin .FloorDiv a (.con (.int n))) ρ h R :=
 ei_fdiv ha (ei_con (P:=fun y=>y=n) rfl) (fun y e=>by subst e;exact ok) fun x y p e=>by subst e;exact k x p
theorem ei_modC {n:Int} (ha:EvI G a ρ h P) (k:∀ x,P x→R (x % n)) (ok:0<n:=by decide):EvI G (.bin .Mod a (.con (.int n))) ρ h R :=
 ei_mod ha (ei_con (P:=fun y=>y=n) rfl) (fun y e=>by subst e;exact ok) fun x y p e=>by subst e;exact k x p
theorem ei_fdivP {n:Int} (ha:EvI G a ρ h P) (k:∀ x,P x→R (x / 2 ^ n.toNat)) (ok:0≤n∧n≤90:=by decide):EvI G (.bin .FloorDiv a (.bin .Pow (.con (.int 2)) (.con (.int n)))) ρ h R:=by
 refine ei_fdiv (Q:=fun y=>y=2 ^ n.toNat) ha (ei_pow (P:=fun y=>y=2) (Q:=fun y=>y=n) (ei_con rfl) (ei_con rfl) (fun x y e1 e2=>?_) (fun x y e1 e2=>by subst e1 e2;rfl)) (fun y e=>?_) fun x y p e=>by subst e;exact k x p
 ·subst e1 e2
  exact⟨ok.1,by omega,by decide⟩
 ·subst e
  refine⟨Int.pow_pos (by decide),?_⟩
  have hn:n.toNat≤90:=by omega
  have:(2:Nat) ^ n.toNat≤2 ^ 90:=Nat.pow_le_pow_right (by decide) hn
  have e:(2:Int) ^ n.toNat=((2 ^ n.toNat:Nat):Int):=by simp
  rw[e]
  have l:(2:Nat) ^ n.toNat<2 ^ 100:=Nat.lt_of_le_of_lt this (by decide)
  exact_mod_cast l
theorem ei_min2 (ha:EvI G a ρ h P) (hb:EvI G b ρ h Q) (k:∀ x y,P x→Q y→R (if y<x then y else x)):EvI G (.blt .min2 [a,b]) ρ h R:=by
 obtain⟨x,p,e1⟩:=ha
 obtain⟨y,q,e2⟩:=hb
 exact⟨_,k x y p q,by simp[ev,evs,e1,e2,bl_min2]⟩
theorem ei_max2 (ha:EvI G a ρ h P) (hb:EvI G b ρ h Q) (k:∀ x y,P x→Q y→R (if y > x then y else x)):EvI G (.blt .max2 [a,b]) ρ h R:=by
 obtain⟨x,p,e1⟩:=ha
 obtain⟨y,q,e2⟩:=hb
 exact⟨_,k x y p q,by simp[ev,evs,e1,e2,bl_max2]⟩
theorem ei_lenL {PL:List D→Prop} (ha:EvP G a ρ h fun d=>∃ xs,d=.lst xs∧PL xs) (k:∀ xs,PL xs→R (xs.length:Int)):EvI G (.blt .len [a]) ρ h R:=by
 obtain⟨d,⟨xs,rfl,p⟩,e1⟩:=ha
 exact⟨_,k xs p,by simp[ev,evs,e1,bl_lenL]⟩
theorem el_nil {PL:List D→Prop} (p:PL []):EvL G [] ρ h PL:=⟨[],p,by simp[evs]⟩
theorem el_cons {es:List PX}{P1:D→Prop}{P2 PL:List D→Prop} (ha:EvP G e ρ h P1) (hb:EvL G es ρ h P2) (k:∀ d ds,P1 d→P2 ds→PL (d::ds)):EvL G (e::es) ρ h PL:=by
 obtain⟨x,p,e1⟩:=ha
 obtain⟨y,q,e2⟩:=hb
 exact⟨x::y,k x y p q,by simp[evs,e1,e2]⟩
theorem ea_nil {PD:D→Prop}:EvA G [] ρ h PD:=el_nil ⟨rfl,by simp⟩
theorem ea_cons {es:List PX}{PD:D→Prop} (ha:EvP G e ρ h PD) (hb:EvA G es ρ h PD):EvA G (e::es) ρ h PD :=
 el_cons ha hb fun d ds p q=>⟨by simp[q.1],by
  intro x hx
  rcases List.mem_cons.mp hx with z | z
  ·exact z▸p
  ·exact q.2 x z⟩
theorem ep_lst {es:List PX}{PL:List D→Prop}{PD:D→Prop} (ha:EvL G es ρ h PL) (k:∀ ds,PL ds→ds.length≤SZ∧PD (.lst ds)):EvP G (.lst es) ρ h PD:=by
 obtain⟨ds,p,e1⟩:=ha
 exact⟨_,(k ds p).2,by simp[ev,e1,(k ds p).1]⟩
theorem atI_mem {α:Type}{xs:List α}{i:Int} (h0:0≤i) (h1:i<xs.length):∃ x∈xs,atI xs i=some x:=by
 have hl:i.toNat<xs.length:=by omega
 refine⟨xs[i.toNat],List.getElem_mem hl,?_⟩
 unfold atI ixN
 rw[if_pos h0,if_pos h1]
 simp[hl]
theorem ep_idx {PD:D→Prop}{n:Nat} (ha:EvP G a ρ h fun d=>∃ xs,d=.lst xs∧xs.length=n∧∀ x∈xs,PD x) (hb:EvI G b ρ h fun i=>0≤i∧i<n):EvP G (.idx a b) ρ h PD:=by
 obtain⟨d,⟨xs,rfl,hn,p⟩,e1⟩:=ha
 obtain⟨i,q,e2⟩:=hb
 subst hn
 obtain⟨x,hx,e3⟩:=atI_mem q.1 q.2
 exact⟨x,p x hx,by simp[ev,e1,e2,idxD,e3]⟩
theorem ep_idxA {PD:D→Prop}{es:List PX}{a:PX}{n:Int} (ha:EvA G es ρ h PD) (hb:EvI G a ρ h fun _=>True) (hn:n=es.length:=by rfl) (hp:0<n∧es.length≤SZ:=by decide):EvP G (.idx (.lst es) (.bin .Mod a (.con (.int n)))) ρ h PD:=by
 refine ep_idx (n:=es.length) (ep_lst ha fun ds p=>⟨by rw[p.1];exact hp.2,ds,rfl,p.1,p.2⟩) (ei_modC hb (fun x _=>?_) hp.1)
 rw[← hn]
 exact⟨Int.emod_nonneg _ (by omega),Int.emod_lt_of_pos _ hp.1⟩
theorem ep_idxM {PD:D→Prop}{j:Nat}{xs:List D}{a:PX} (g:getV ρ j=some (.lst xs)) (h0:xs≠[]) (p:∀ x∈xs,PD x) (hb:EvI G a ρ h fun _=>True):EvP G (.idx (.var j) (.bin .Mod a (.blt .len [.var j]))) ρ h PD:=by
 have hl:0<xs.length:=List.length_pos_iff.mpr h0
 refine ep_idx (n:=xs.length) (ep_var g ⟨xs,rfl,rfl,p⟩) (ei_mod (Q:=fun y=>y=xs.length) hb (ei_lenL (PL:=fun ys=>ys=xs) (ep_var g ⟨xs,rfl,rfl⟩) fun ys e=>by rw[e]) (fun y e=>?_) fun x y _ e=>?_)
 ·subst e;omega
 ·subst e
  exact⟨Int.emod_nonneg _ (by omega),Int.emod_lt_of_pos _ (by omega)⟩
theorem compL_pure {f:D→AH→Option (Option D×AH)}{g:D→Option D}:∀ {ds:List D},(∀ d∈ds,f d h=some (g d,h))→compL f ds h=some (ds.filterMap g,h)
 | [],_=>rfl
 | d::ds,k=>by
  unfold compL
  rw[k d List.mem_cons_self]
  show (compL f ds h).bind _=_
  rw[compL_pure (ds:=ds) fun x hx=>k x (List.mem_cons_of_mem _ hx)]
  show some (putO (g d) _,h)=_
  cases e:g d with
  | none=>simp[putO,e]
  | some x=>simp[putO,e]
theorem compL_all {f:D→AH→Option (Option D×AH)}{PD:D→Prop}:∀ {ds:List D},(∀ d∈ds,∃ x,PD x∧f d h=some (some x,h))→∃ out,out.length=ds.length∧(∀ x∈out,PD x)∧compL f ds h=some (out,h)
 | [],_=>⟨[],rfl,by simp,rfl⟩
 | d::ds,k=>by
  obtain⟨x,p,e⟩:=k d List.mem_cons_self
  obtain⟨out,l,q,e2⟩:=compL_all (PD:=PD) (ds:=ds) fun x hx=>k x (List.mem_cons_of_mem _ hx)
  refine⟨x::out,by simp[l],?_,?_⟩
  ·intro y hy
   rcases List.mem_cons.mp hy with z | z
   ·exact z▸p
   ·exact q y z
  ·unfold compL
   rw[e]
   show (compL f ds h).bind _=_
   rw[e2]
   rfl
theorem ep_compR {elt:PX}{n:PX}{keep:List Nat}{N:Int}{PD:D→Prop}{PE:D→Prop} (hn:EvI G n ρ h fun i=>i=N) (hN:-16777216≤N∧N≤16777216) (ht:∀ i:Nat,(i:Int)<N→EvP G elt (some (.int i)::keep.map (getV ρ)) h PD) (k:∀ out:List D,out.length=N.toNat→(∀ x∈out,PD x)→PE (.lst out)) :
  EvP G (.comp elt none (.rng n) keep) ρ h PE:=by
 obtain⟨i,rfl,e⟩:=hn
 ·have hr:rngD (.int i)=some ((List.range i.toNat).map fun i=>D.int (i:Nat)):=if_pos ⟨by omega,by omega⟩
  obtain⟨out,l,p,ec⟩:=compL_all (h:=h) (PD:=PD) (f:=fun d h=>(ev G elt (some d::keep.map (getV ρ)) h).bind fun q=>some (some q.1,q.2)) (ds:=(List.range i.toNat).map fun i=>D.int (i:Nat)) (by
   intro d hd
   obtain⟨j,hj,rfl⟩:=List.mem_map.mp hd
   obtain⟨x,px,ex⟩:=ht j (by have:=List.mem_range.mp hj;omega)
   exact⟨x,px,by rw[ex];rfl⟩)
  have hl:out.length=i.toNat:=by rw[l];simp
  refine⟨.lst out,k out hl p,?_⟩
  unfold ev evI
  simp only[e,hr,Option.bind_some]
  rw[ec]
  show (if out.length≤SZ then some (D.lst out,h) else none)=_
  rw[if_pos]
  rw[hl];show i.toNat≤16777216;omega
theorem ep_mt {m:Mt}{o:PX}{es:List PX}{P1 PD:D→Prop}{PL:List D→Prop} (ho:EvP G o ρ h P1) (ha:EvL G es ρ h PL) (k:∀ d ds,P1 d→PL ds→∃ r,PD r∧mtD m d (ds.map (vw h))=some r):EvP G (.mt m o es) ρ h PD:=by
 obtain⟨d,p,e1⟩:=ho
 obtain⟨ds,q,e2⟩:=ha
 obtain⟨r,pr,e3⟩:=k d ds p q
 exact⟨r,pr,by simp only[ev,e1,e2,Option.bind_some,e3]⟩
theorem ep_blt {m:Bl}{es:List PX}{PD:D→Prop}{PL:List D→Prop} (ha:EvL G es ρ h PL) (k:∀ ds,PL ds→∃ r,PD r∧bltD m (ds.map (vw h))=some r):EvP G (.blt m es) ρ h PD:=by
 obtain⟨ds,q,e2⟩:=ha
 obtain⟨r,pr,e3⟩:=k ds q
 exact⟨r,pr,by simp only[ev,e2,Option.bind_some,e3]⟩
theorem ep_idxG {P1 P2 PD:D→Prop} (ha:EvP G a ρ h P1) (hb:EvP G b ρ h P2) (k:∀ x y,P1 x→P2 y→∃ r,PD r∧idxD (vw h x) y=some r):EvP G (.idx a b) ρ h PD:=by
 obtain⟨x,p,e1⟩:=ha
 obtain⟨y,q,e2⟩:=hb
 obtain⟨r,pr,e3⟩:=k x y p q
 exact⟨r,pr,by simp only[ev,e1,e2,Option.bind_some,e3]⟩
theorem el_one {P1:D→Prop}{PL:List D→Prop} (ha:EvP G e ρ h P1) (k:∀ d,P1 d→PL [d]):EvL G [e] ρ h PL:=el_cons (P2:=fun ds=>ds=[]) ha (el_nil rfl) fun d ds p q=>by subst q;exact k d p
theorem el_two {e2:PX}{P1 P2:D→Prop}{PL:List D→Prop} (ha:EvP G e ρ h P1) (hb:EvP G e2 ρ h P2) (k:∀ d d2,P1 d→P2 d2→PL [d,d2]):EvL G [e,e2] ρ h PL :=
 el_cons (P2:=fun ds=>∃ d2,ds=[d2]∧P2 d2) ha (el_one hb fun d p=>⟨d,rfl,p⟩) fun d ds p ⟨d2,q,p2⟩=>by subst q;exact k d d2 p p2
theorem et_cmpI {op:CmpOp}{PB':Bool→Prop} (ha:EvI G a ρ h P) (hb:EvI G b ρ h Q) (k:∀ x y,P x→Q y→∃ r,PB' r∧cmpD op (.int x) (.int y)=some r):EvT G (.val (.cmp op a b)) ρ h PB':=by
 obtain⟨x,p,e1⟩:=ha
 obtain⟨y,q,e2⟩:=hb
 obtain⟨r,pr,e3⟩:=k x y p q
 exact⟨r,pr,by simp only[evB,ev,e1,e2,Option.bind_some,vw_int,e3,tru_bl]⟩
end
end MP
namespace MP
open PySem
theorem evR_ev {G:List Den}{e:PX}{ρ:Ev}{h h':AH}{d:D} (e1:ev G e ρ h=some (d,h')):evR G e ρ h=.ok d h':=by
 cases e with
 | call f xs =>
  unfold ev at e1
  obtain⟨p,q1,e1⟩:=obs e1
  obtain⟨φ,q2,e1⟩:=obs e1
  simp only[evR,q1,q2]
  cases hr:φ p.1 p.2 with
  | ok d h=>rw[hr] at e1;cases e1;rfl
  | exc c h=>rw[hr] at e1;cases e1
  | bad=>rw[hr] at e1;cases e1
 | callV i fs xs=>unfold ev at e1;cases e1
 | mcall i c m o xs =>
  rw[ev] at e1
  obtain⟨p,q1,e1⟩:=obs e1
  obtain⟨q,q2,e1⟩:=obs e1
  by_cases hl:(q.2.lookup m).isNone=true
  ·rw[if_pos hl] at e1
   obtain⟨r,q3,e1⟩:=obs e1
   obtain⟨φ,q4,e1⟩:=obs e1
   simp only[evR,q1,q2,q3,q4]
   rw[if_pos hl]
   cases hr:φ (p.1::r.1) r.2 with
   | ok d h=>rw[hr] at e1;cases e1;rfl
   | exc c h=>rw[hr] at e1;cases e1
   | bad=>rw[hr] at e1;cases e1
  ·rw[if_neg hl] at e1
   cases e1
 | _=>simp only[evR,e1]
theorem evR_call {G:List Den}{i:Nat}{xs:List PX}{ρ:Ev}{h h':AH}{ds:List D}{φ:Den} (e1:evs G xs ρ h=some (ds,h')) (e2:G[i]?=some φ):evR G (.call i xs) ρ h=φ ds h':=by simp only[evR,e1,e2]
theorem run_rt {G:List Den}{np n:Nat}{b:List PSt}{args:List D}{h:AH}{d:D} (hl:args.length=np) (e:exSs G b (startE n args) h=.rt d h):cutDen (runF G np n b) args h=.ok d h:=by
 refine cutDen_same ?_
 unfold runF
 rw[if_pos hl,e]
theorem run_rtN {G:List Den}{np n:Nat}{b:List PSt}{args:List D}{h h':AH}{d:D} (hl:args.length=np) (e:exSs G b (startE n args) h=.rt d h') (hn:nrf d=true) (ht:h'.take h.length=h):cutDen (runF G np n b) args h=.ok d h:=by
 refine cutDen_ok (h':=h') ?_ hn ht
 unfold runF
 rw[if_pos hl,e]
theorem run_nx {G:List Den}{np n:Nat}{b:List PSt}{args:List D}{h:AH}{ρ':Ev} (hl:args.length=np) (e:exSs G b (startE n args) h=.nx ρ' h):cutDen (runF G np n b) args h=.ok .non h:=by
 refine cutDen_same ?_
 unfold runF
 rw[if_pos hl,e]
theorem run_exc {G:List Den}{np n:Nat}{b:List PSt}{args:List D}{h:AH}{ρ':Ev}{c:Nat} (hl:args.length=np) (e:exSs G b (startE n args) h=.exc c ρ' h):cutDen (runF G np n b) args h=.exc c h:=by
 refine cutDen_exc (h':=h) ?_ (by simp)
 unfold runF
 rw[if_pos hl,e]
def Rets (P:D→Prop) (h:AH) (r:R):Prop:=∃ d,P d∧r=.rt d h
theorem run_rets {G:List Den}{np n:Nat}{b:List PSt}{args:List D}{h:AH}{P:D→Prop} (H:Rets P h (exSs G b (startE n args) h)) (hl:args.length=np):∃ d,P d∧cutDen (runF G np n b) args h=.ok d h :=
 let ⟨d,p,e⟩:=H
 ⟨d,p,run_rt hl e⟩
section
variable {G:List Den}{ρ:Ev}{h:AH}{Post:R→Prop}
theorem st_asg {i:Nat}{e:PX}{P:D→Prop}{r:List PSt} (he:EvP G e ρ h P) (k:∀ d,P d→Post (exSs G r (ρ.set i (some d)) h)):Post (exSs G (.asg (.nm i) e::r) ρ h):=by
 obtain⟨d,p,e1⟩:=he
 have:exSs G (.asg (.nm i) e::r) ρ h=exSs G r (ρ.set i (some d)) h:=by simp[exSs,exS,evR_ev e1,setT]
 rw[this]
 exact k d p
theorem st_ret {e:PX}{P:D→Prop}{r:List PSt} (he:EvP G e ρ h P) (k:∀ d,P d→Post (.rt d h)):Post (exSs G (.ret e::r) ρ h):=by
 obtain⟨d,p,e1⟩:=he
 have:exSs G (.ret e::r) ρ h=.rt d h:=by simp[exSs,exS,evR_ev e1]
 rw[this]
 exact k d p
theorem st_retP {e:PX}{P Q:D→Prop}{r:List PSt} (he:EvP G e ρ h P) (k:∀ d,P d→Q d):Rets Q h (exSs G (.ret e::r) ρ h):=st_ret (Post:=Rets Q h) he fun d p=>⟨d,k d p,rfl⟩
theorem exSs_app:∀ (a r:List PSt) (ρ:Ev) (h:AH),exSs G (a++r) ρ h=(match exSs G a ρ h with | .nx ρ' h'=>exSs G r ρ' h' | .rt d h'=>.rt d h' | .bk ρ' h'=>.bk ρ' h' | .ct ρ' h'=>.ct ρ' h' | .exc c ρ' h'=>.exc c ρ' h' | .bad=>.bad):=by
 intro a r
 induction a with
 | nil=>intro ρ h;simp[exSs]
 | cons s a ih =>
  intro ρ h
  show exSs G (s::(a++r)) ρ h=_
  rw[exSs]
  rw[show exSs G (s::a) ρ h=_ from by rw[exSs]]
  cases exS G s ρ h<;>simp[ih]
theorem st_if {c:PB}{a b:List PSt}{P:Bool→Prop}{r:List PSt} (he:EvT G c ρ h P) (kt:P true→Post (exSs G (a++r) ρ h)) (kf:P false→Post (exSs G (b++r) ρ h)):Post (exSs G (.ifs c a b::r) ρ h):=by
 obtain⟨b',p,e1⟩:=he
 rw[exSs,exS,e1]
 cases b' with
 | true =>
  have:=kt p
  rw[exSs_app] at this
  cases hx:exSs G a ρ h<;>simp[hx] at this ⊢<;>exact this
 | false =>
  have:=kf p
  rw[exSs_app] at this
  cases hx:exSs G b ρ h<;>simp[hx] at this ⊢<;>exact this
theorem ep_call {i:Nat}{f:Den}{es:List PX}{PL:List D→Prop}{PD:D→Prop} (hG:G[i]?=some f) (ha:EvL G es ρ h PL) (k:∀ ds,PL ds→∃ d,PD d∧f ds h=.ok d h):EvP G (.call i es) ρ h PD:=by
 obtain⟨ds,p,e1⟩:=ha
 obtain⟨d,q,e2⟩:=k ds p
 exact⟨d,q,by simp[ev,e1,hG,e2]⟩
theorem ev_comp {elt:PX}{src:PI}{keep:List Nat}{ds:List D}{g:D→D} (hs:evI G src ρ h=some (ds,h)) (hl:ds.length≤SZ) (ht:∀ d∈ds,ev G elt (some d::keep.map (getV ρ)) h=some (g d,h)):ev G (.comp elt none src keep) ρ h=some (.lst (ds.map g),h):=by
 rw[ev,hs]
 simp only[Option.bind_some]
 rw[compL_pure (g:=fun d=>some (g d)) fun d hd=>by rw[ht d hd];rfl]
 simp only[Option.bind_some]
 have:ds.filterMap (fun d=>some (g d))=ds.map g:=by induction ds<;>simp_all
 rw[this,if_pos (by rw[List.length_map];exact hl)]
theorem ev_compIf {elt:PX}{c:PB}{src:PI}{keep:List Nat}{ds:List D}{g:D→D}{p:D→Bool} (hs:evI G src ρ h=some (ds,h)) (hl:ds.length≤SZ) (hc:∀ d∈ds,evB G c (some d::keep.map (getV ρ)) h=some (p d,h)) (ht:∀ d∈ds,p d=true→ev G elt (some d::keep.map (getV ρ)) h=some (g d,h)) :
  ev G (.comp elt (some c) src keep) ρ h=some (.lst ((ds.filter p).map g),h):=by
 rw[ev,hs]
 simp only[Option.bind_some]
 rw[compL_pure (g:=fun d=>if p d=true then some (g d) else none) fun d hd=>by
  rw[hc d hd]
  simp only[Option.bind_some]
  cases hp:p d with
  | true=>simp[ht d hd hp]
  | false=>simp]
 simp only[Option.bind_some]
 have:ds.filterMap (fun d=>if p d=true then some (g d) else none)=(ds.filter p).map g:=by
  clear hc ht hl hs
  induction ds with
  | nil=>rfl
  | cons d ds ih=>cases hp:p d<;>simp[hp,ih]
 rw[this,if_pos (by rw[List.length_map];exact Nat.le_trans (List.length_filter_le _ _) hl)]
end
end MP
namespace K10
open MP PySem
noncomputable def p_is_prefix:List PSt:=[PSt.ret
  (PX.and
   (PX.cmp (CmpOp.LtE) (PX.blt (Bl.len) [PX.var 0]) (PX.con (D.int 16)))
   (PX.blt
    (Bl.all)
    [PX.comp
     (PX.cmp (CmpOp.In) (PX.var 0) (PX.tup [PX.con (D.str [48]),PX.con (D.str [49])]))
     none
     (PI.seq (PX.var 0))
     []]))]
noncomputable def p_is_path:List PSt:=[PSt.ret
  (PX.and
   (PX.cmp2
    (CmpOp.LtE)
    (CmpOp.LtE)
    (PX.con (D.int 1))
    (PX.blt (Bl.len) [PX.var 0])
    (PX.con (D.int 12)))
   (PX.blt
    (Bl.all)
    [PX.comp
     (PX.cmp2
      (CmpOp.LtE)
      (CmpOp.LtE)
      (PX.con (D.int 1))
      (PX.var 0)
      (PX.con (D.int 999)))
     none
     (PI.seq (PX.var 0))
     []]))]
noncomputable def p_are_tags:List PSt:=[PSt.ifs
  (PB.val (PX.cmp (CmpOp.Gt) (PX.blt (Bl.len) [PX.var 0]) (PX.con (D.int 4))))
  [PSt.ret (PX.con (D.bl false))]
  [],
 PSt.asg (PTg.nm 1) (PX.con (D.int 0)),
 PSt.forS
  (PTg.nm 2)
  (PI.seq (PX.var 0))
  [PSt.ifs
   (PB.not
    (PB.val
     (PX.cmp2 (CmpOp.Lt) (CmpOp.LtE) (PX.var 1) (PX.var 2) (PX.con (D.int 99)))))
   [PSt.ret (PX.con (D.bl false))]
   [],
  PSt.asg (PTg.nm 1) (PX.var 2)],
 PSt.ret (PX.con (D.bl true))]
noncomputable def p_need_prefix:List PSt:=[PSt.ifs
  (PB.not (PB.val (PX.call 0 [PX.var 0])))
  [PSt.rai
   0
   [PX.con
     (D.str
      [116,104,101,32,112,114,101,102,105,120,32,105,115,32,110,111,116,32,111,102,32,48,32,
      116,111,32,49,54,32,115,105,103,110,115,32,48,32,97,110,100,32,49])]]
  []]
noncomputable def p_need_route:List PSt:=[PSt.ex (PX.call 3 [PX.idx (PX.var 0) (PX.con (D.int 0))]),
 PSt.ifs
  (PB.not (PB.val (PX.call 1 [PX.idx (PX.var 0) (PX.con (D.int 1))])))
  [PSt.rai
   0
   [PX.con
     (D.str
      [116,104,101,32,112,97,116,104,32,105,115,32,110,111,116,32,111,102,32,49,32,116,111,
      32,49,50,32,110,117,109,98,101,114,115,32,49,32,116,111,32,57,57,57])]]
  [],
 PSt.ifs
  (PB.not
   (PB.val
    (PX.cmp2
     (CmpOp.LtE)
     (CmpOp.LtE)
     (PX.con (D.int 0))
     (PX.idx (PX.var 0) (PX.con (D.int 2)))
     (PX.con (D.int 1000)))))
  [PSt.rai
   0
   [PX.con
     (D.str
      [116,104,101,32,119,101,105,103,104,116,32,105,115,32,110,111,116,32,48,32,116,111,32,
      49,48,48,48])]]
  [],
 PSt.ifs
  (PB.not (PB.val (PX.call 2 [PX.idx (PX.var 0) (PX.con (D.int 3))])))
  [PSt.rai
   0
   [PX.con
     (D.str
      [116,104,101,32,116,97,103,115,32,97,114,101,32,110,111,116,32,97,116,32,109,111,115,
      116,32,52,32,114,105,115,105,110,103,32,110,117,109,98,101,114,115,32,49,32,116,111,
      32,57,57])]]
  []]
noncomputable def p_cell:List PSt:=[PSt.ifs
  (PB.val (PX.cmp (CmpOp.Eq) (PX.var 0) (PX.lst [])))
  [PSt.ret (PX.bin (Operator.Mult) (PX.var 1) (PX.con (D.int 7919)))]
  [],
 PSt.ret
  (PX.bin
   (Operator.Add)
   (PX.idx (PX.var 0) (PX.bin (Operator.Mod) (PX.var 1) (PX.blt (Bl.len) [PX.var 0])))
   (PX.bin
    (Operator.Mult)
    (PX.bin (Operator.FloorDiv) (PX.var 1) (PX.blt (Bl.len) [PX.var 0]))
    (PX.con (D.int 104729))))]
noncomputable def p_drawn:List PSt:=[PSt.asg
  (PTg.nm 2)
  (PX.bin
   (Operator.Mod)
   (PX.bin
    (Operator.Add)
    (PX.bin (Operator.Mult) (PX.var 0) (PX.con (D.int 6364136223846793005)))
    (PX.bin
     (Operator.Mult)
     (PX.bin (Operator.Add) (PX.var 1) (PX.con (D.int 1)))
     (PX.con (D.int 1442695040888963407))))
   (PX.con (D.int 340282366920938463463374607431768211507))),
 PSt.ret
  (PX.bin
   (Operator.Mod)
   (PX.bin (Operator.Mult) (PX.var 2) (PX.var 2))
   (PX.con (D.int 340282366920938463463374607431768211297)))]
noncomputable def p_bits:List PSt:=[PSt.ret
  (PX.mt
   (Mt.join)
   (PX.con (D.str []))
   [PX.comp
    (PX.idx
     (PX.con (D.str [48,49]))
     (PX.bin
      (Operator.Mod)
      (PX.bin
       (Operator.FloorDiv)
       (PX.var 1)
       (PX.bin (Operator.LShift) (PX.con (D.int 1)) (PX.var 0)))
      (PX.con (D.int 2))))
    none
    (PI.rng (PX.var 1))
    [0]])]
end K10
namespace K10
open MP PySem
def okS (s:List Nat):Prop:=s.length≤SZ∧(s.all fun c=>decide (c<1114112))=true
noncomputable def goodP (s:List Nat):Bool:=decide ((s.length:Int)≤16)&&s.all fun c=>c==48||c==49
noncomputable def goodPath (l:List Int):Bool:=(decide (1≤(l.length:Int))&&decide ((l.length:Int)≤12))&&l.all fun n=>decide (1≤n)&&decide (n≤999)
noncomputable def risT:Int→List Int→Bool
 | _,[]=>true
 | a,x::r=>(decide (a<x)&&decide (x≤99))&&risT x r
noncomputable def goodTags (l:List Int):Bool:=!decide (4<(l.length:Int))&&risT 0 l
noncomputable def goodW (w:Int):Bool:=decide (0≤w)&&decide (w≤1000)
structure Rt where
 pre:List Nat
 path:List Int
 w:Int
 tags:List Int
noncomputable def Rt.d (t:Rt):D:=.tup [.str t.pre,.tup (t.path.map .int),.int t.w,.tup (t.tags.map .int)]
noncomputable def goodR (t:Rt):Bool:=goodP t.pre&&goodPath t.path&&goodW t.w&&goodTags t.tags
structure Rt.Ok (t:Rt):Prop where
 pre:okS t.pre
 path:t.path.length≤1000
 tags:t.tags.length≤1000
def PIsPrefix (f:Den):Prop:=∀ (s:List Nat) (h:AH),okS s→f [.str s] h=.ok (.bl (goodP s)) h
theorem len_str {s:List Nat} (h:s.length≤SZ):bltD .len [.str s]=some (.int s.length):=if_pos h
theorem bools_map {α:Type} (g:α→Bool):∀ l:List α,bools? (l.map fun x=>D.bl (g x))=some (l.map g)
 | []=>rfl
 | a::l=>by
  show (bools? (l.map fun x=>D.bl (g x))).map (g a::·)=_
  rw[bools_map g l]
  rfl
theorem all_map {α:Type} (g:α→Bool) (l:List α):bltD .all [.lst (l.map fun x=>D.bl (g x))]=some (.bl (l.all g)):=by
 show (bools? (l.map fun x=>D.bl (g x))).bind _=_
 rw[bools_map]
 simp[List.all_map]
theorem sgl (a c:Nat):([a]==[c])=(c==a):=by
 by_cases q:c=a
 ·subst q;simp
 ·have e1:(a==c)=false:=beq_eq_false_iff_ne.mpr (Ne.symm q)
  have e2:(c==a)=false:=beq_eq_false_iff_ne.mpr q
  rw[e2]
  simpa using Ne.symm q
theorem isPrefix_ok {G:List Den}:PIsPrefix (cutDen (runF G 1 1 p_is_prefix)):=by
 intro s h ⟨hl,hp⟩
 refine run_rt rfl ?_
 have e0:startE 1 [.str s]=[some (.str s)]:=rfl
 rw[e0]
 have ec:ev G (PX.comp (PX.cmp (CmpOp.In) (PX.var 0) (PX.tup [PX.con (D.str [48]),PX.con (D.str [49])])) none (PI.seq (PX.var 0)) []) [some (.str s)] h=some (.lst ((s.map fun c=>D.str [c]).map fun d=>match d with | .str [c]=>.bl (c==48||c==49) | _=>.non),h):=by
  refine ev_comp (ds:=s.map fun c=>D.str [c]) ?_ (by rw[List.length_map];exact hl) fun d hd=>?_
  ·rw[evI];simp[itD]
  ·obtain⟨c,hc,rfl⟩:=List.mem_map.mp hd
   have hc':c<1114112:=by simpa using List.all_eq_true.mp hp c hc
   have z:([48]==[c])=(c==48):=sgl 48 c
   have z1:([49]==[c])=(c==49):=sgl 49 c
   have z2:inD (D.str [c]) [D.str [48],D.str [49]]=(c==48||c==49):=by
    simp[inD,eqD_str,z,z1]
   have h2:(2:Nat)≤SZ:=by decide
   simp[ev,evs,hc',z2,h2]
 have em:(s.map fun c=>D.str [c]).map (fun d=>match d with | .str [c]=>D.bl (c==48||c==49) | _=>D.non)=s.map fun c=>D.bl (c==48||c==49):=by simp[List.map_map]
 rw[em] at ec
 have hA:=all_map (fun c=>c==48||c==49) s
 have hev:ev G (PX.and (PX.cmp (CmpOp.LtE) (PX.blt (Bl.len) [PX.var 0]) (PX.con (D.int 16))) (PX.blt (Bl.all) [PX.comp (PX.cmp (CmpOp.In) (PX.var 0) (PX.tup [PX.con (D.str [48]),PX.con (D.str [49])])) none (PI.seq (PX.var 0)) []])) [some (.str s)] h=some (.bl (goodP s),h):=by
  have e1:ev G (PX.cmp (CmpOp.LtE) (PX.blt (Bl.len) [PX.var 0]) (PX.con (D.int 16))) [some (.str s)] h=some (.bl (decide ((s.length:Int)≤16)),h):=by simp[ev,evs,len_str hl]
  have e2:ev G (PX.blt (Bl.all) [PX.comp (PX.cmp (CmpOp.In) (PX.var 0) (PX.tup [PX.con (D.str [48]),PX.con (D.str [49])])) none (PI.seq (PX.var 0)) []]) [some (.str s)] h=some (.bl (s.all fun c=>c==48||c==49),h):=by
   rw[ev,evs,ec]
   simp only[evs,Option.bind_some,List.map_cons,List.map_nil,vw_lst]
   rw[hA]
   rfl
  rw[ev,e1]
  simp only[Option.bind_some]
  unfold goodP
  cases decide ((s.length:Int)≤16) with
  | true=>simp[e2]
  | false=>simp
 unfold p_is_prefix
 rw[exSs,exS,evR_ev hev]
def PIsPath (f:Den):Prop:=∀ (l:List Int) (h:AH),l.length≤1000→f [.tup (l.map .int)] h=.ok (.bl (goodPath l)) h
theorem len_tup (s:List D):bltD .len [.tup s]=some (.int s.length):=rfl
theorem isPath_ok {G:List Den}:PIsPath (cutDen (runF G 1 1 p_is_path)):=by
 intro l h hl
 refine run_rt rfl ?_
 have e0:startE 1 [.tup (l.map .int)]=[some (.tup (l.map .int))]:=rfl
 rw[e0]
 have hz:l.length≤SZ:=by show _≤16777216;omega
 have ec:ev G (PX.comp (PX.cmp2 (CmpOp.LtE) (CmpOp.LtE) (PX.con (D.int 1)) (PX.var 0) (PX.con (D.int 999))) none (PI.seq (PX.var 0)) []) [some (.tup (l.map .int))] h=some (.lst ((l.map D.int).map fun d=>match d with | .int n=>.bl (decide (1≤n)&&decide (n≤999)) | _=>.non),h):=by
  refine ev_comp (ds:=l.map D.int) ?_ (by rw[List.length_map];exact hz) fun d hd=>?_
  ·rw[evI];simp[itD]
  ·obtain⟨n,hn,rfl⟩:=List.mem_map.mp hd
   by_cases q:1≤n<;>simp[ev,q]
 have em:(l.map D.int).map (fun d=>match d with | .int n=>D.bl (decide (1≤n)&&decide (n≤999)) | _=>.non)=l.map fun n=>D.bl (decide (1≤n)&&decide (n≤999)):=by simp[List.map_map]
 rw[em] at ec
 have hA:=all_map (fun n:Int=>decide (1≤n)&&decide (n≤999)) l
 have e1:ev G (PX.cmp2 (CmpOp.LtE) (CmpOp.LtE) (PX.con (D.int 1)) (PX.blt (Bl.len) [PX.var 0]) (PX.con (D.int 12))) [some (.tup (l.map .int))] h=some (.bl (decide (1≤(l.length:Int))&&decide ((l.length:Int)≤12)),h):=by
  by_cases q:1≤(l.length:Int)<;>simp[ev,evs,len_tup,q]
 have e2:ev G (PX.blt (Bl.all) [PX.comp (PX.cmp2 (CmpOp.LtE) (CmpOp.LtE) (PX.con (D.int 1)) (PX.var 0) (PX.con (D.int 999))) none (PI.seq (PX.var 0)) []]) [some (.tup (l.map .int))] h=some (.bl (l.all fun n=>decide (1≤n)&&decide (n≤999)),h):=by
  rw[ev,evs,ec]
  simp only[evs,Option.bind_some,List.map_cons,List.map_nil,vw_lst]
  rw[hA]
  rfl
 unfold p_is_path
 rw[exSs,exS,evR_ev (d:=.bl (goodPath l)) (h':=h) ?_]
 rw[ev,e1]
 simp only[Option.bind_some]
 unfold goodPath
 cases (decide (1≤(l.length:Int))&&decide ((l.length:Int)≤12)) with
 | true=>simp[e2]
 | false=>simp
def PAreTags (f:Den):Prop:=∀ (l:List Int) (h:AH),f [.tup (l.map .int)] h=.ok (.bl (goodTags l)) h
theorem tags_loop {G:List Den}{h:AH}{t:D}:∀ (l:List Int) (a:Int) (x:Option D),∃ y z,forL (forB G (.nm 2) [PSt.ifs (PB.not (PB.val (PX.cmp2 (CmpOp.Lt) (CmpOp.LtE) (PX.var 1) (PX.var 2) (PX.con (D.int 99))))) [PSt.ret (PX.con (D.bl false))] [],PSt.asg (PTg.nm 1) (PX.var 2)]) (l.map .int) [some t,some (.int a),x] h=if risT a l=true then .nx [some t,some (.int y),z] h else .rt (.bl false) h
 | [],a,x=>⟨a,x,rfl⟩
 | b::l,a,x=>by
  obtain⟨y,z,ih⟩:=tags_loop (G:=G) (h:=h) (t:=t) l b (some (.int b))
  by_cases h1:a<b
  ·by_cases h2:b≤99
   ·refine⟨y,z,?_⟩
    have e:forB G (.nm 2) [PSt.ifs (PB.not (PB.val (PX.cmp2 (CmpOp.Lt) (CmpOp.LtE) (PX.var 1) (PX.var 2) (PX.con (D.int 99))))) [PSt.ret (PX.con (D.bl false))] [],PSt.asg (PTg.nm 1) (PX.var 2)] (.int b) [some t,some (.int a),x] h=.nx [some t,some (.int b),some (.int b)] h:=by
     simp[forB,setT,exSs,exS,evB,ev,evR,h1,h2]
    rw[List.map_cons,forL,e]
    dsimp only
    rw[ih]
    simp[risT,h1,h2]
   ·refine⟨0,none,?_⟩
    have e:forB G (.nm 2) [PSt.ifs (PB.not (PB.val (PX.cmp2 (CmpOp.Lt) (CmpOp.LtE) (PX.var 1) (PX.var 2) (PX.con (D.int 99))))) [PSt.ret (PX.con (D.bl false))] [],PSt.asg (PTg.nm 1) (PX.var 2)] (.int b) [some t,some (.int a),x] h=.rt (.bl false) h:=by
     simp[forB,setT,exSs,exS,evB,ev,evR,h1,h2]
    rw[List.map_cons,forL,e]
    simp[risT,h2]
  ·refine⟨0,none,?_⟩
   have e:forB G (.nm 2) [PSt.ifs (PB.not (PB.val (PX.cmp2 (CmpOp.Lt) (CmpOp.LtE) (PX.var 1) (PX.var 2) (PX.con (D.int 99))))) [PSt.ret (PX.con (D.bl false))] [],PSt.asg (PTg.nm 1) (PX.var 2)] (.int b) [some t,some (.int a),x] h=.rt (.bl false) h:=by
    simp[forB,setT,exSs,exS,evB,ev,evR,h1]
   rw[List.map_cons,forL,e]
   simp[risT,h1]
theorem areTags_ok {G:List Den}:PAreTags (cutDen (runF G 1 3 p_are_tags)):=by
 intro l h
 refine run_rt rfl ?_
 have e0:startE 3 [.tup (l.map .int)]=[some (.tup (l.map .int)),none,none]:=rfl
 rw[e0]
 unfold p_are_tags goodTags
 by_cases q:4<(l.length:Int)
 ·simp[exSs,exS,evB,ev,evs,evR,len_tup,q]
 ·obtain⟨y,z,e⟩:=tags_loop (G:=G) (h:=h) (t:=.tup (l.map .int)) l 0 none
  rw[exSs,exS]
  simp only[evB,ev,evs,len_tup,List.map_cons,List.map_nil,getV_zero,Option.bind_some,vw_tup,vw_int,List.length_map,cmp_gt,q,decide_false,tru_bl,exSs,if_false,Bool.false_eq_true]
  rw[exS,evR_ev (d:=.int 0) (h':=h) (by simp)]
  simp only[setT,List.set_cons_succ,List.set_cons_zero]
  rw[exS_for (ds:=l.map .int) (h':=h) (by rw[evI];simp[itD]),e]
  cases risT 0 l with
  | true=>simp[exS,evR]
  | false=>simp
def PNeedPrefix (f:Den):Prop:=∀ (s:List Nat) (h:AH),okS s→f [.str s] h=if goodP s=true then .ok .non h else .exc 0 h
theorem needPrefix_ok {G:List Den}{f:Den} (hG:G[0]?=some f) (hf:PIsPrefix f):PNeedPrefix (cutDen (runF G 1 1 p_need_prefix)):=by
 intro s h hs
 have e0:startE 1 [.str s]=[some (.str s)]:=rfl
 have ef:=hf s h hs
 by_cases q:goodP s=true
 ·rw[if_pos q]
  refine run_nx (ρ':=[some (.str s)]) rfl ?_
  rw[e0]
  simp[p_need_prefix,exSs,exS,evB,ev,evs,hG,ef,q]
 ·rw[if_neg q]
  refine run_exc (ρ':=[some (.str s)]) rfl ?_
  rw[e0]
  have q:goodP s=false:=by simpa using q
  simp[p_need_prefix,exSs,exS,evB,ev,evs,hG,ef,q]
theorem rt0 (t:Rt):idxD t.d (.int 0)=some (.str t.pre):=rfl
theorem rt1 (t:Rt):idxD t.d (.int 1)=some (.tup (t.path.map .int)):=rfl
theorem rt2 (t:Rt):idxD t.d (.int 2)=some (.int t.w):=rfl
theorem rt3 (t:Rt):idxD t.d (.int 3)=some (.tup (t.tags.map .int)):=rfl
theorem vw_rt (t:Rt) (h:AH):vw h t.d=t.d:=rfl
def PNeedRoute (f:Den):Prop:=∀ (t:Rt) (h:AH),t.Ok→f [t.d] h=if goodR t=true then .ok .non h else .exc 0 h
theorem needRoute_ok {G:List Den}{f1 f2 f3:Den} (g1:G[1]?=some f1) (k1:PIsPath f1) (g2:G[2]?=some f2) (k2:PAreTags f2) (g3:G[3]?=some f3) (k3:PNeedPrefix f3):PNeedRoute (cutDen (runF G 1 1 p_need_route)):=by
 intro t h ht
 have e0:startE 1 [t.d]=[some t.d]:=rfl
 have a1:=k1 t.path h ht.path
 have a2:=k2 t.tags h
 have a3:=k3 t.pre h ht.pre
 have ex:evR G (PX.call 3 [PX.idx (PX.var 0) (PX.con (D.int 0))]) [some t.d] h=(if goodP t.pre=true then .ok .non h else .exc 0 h):=by
  rw[evR_call (ds:=[.str t.pre]) (h':=h) (by simp[evs,ev,vw_rt,rt0]) g3,a3]
 by_cases q0:goodP t.pre=true
 ·by_cases q1:goodPath t.path=true
  ·by_cases q2:0≤t.w
   ·by_cases q3:t.w≤1000
    ·by_cases q4:goodTags t.tags=true
     ·have hg:goodR t=true:=by simp[goodR,goodW,q0,q1,q2,q3,q4]
      rw[if_pos hg]
      refine run_nx (ρ':=[some t.d]) rfl ?_
      rw[e0]
      simp[p_need_route,exSs,exS,ex,evB,ev,evs,vw_rt,rt0,rt1,rt2,rt3,g1,g2,a1,a2,q0,q1,q2,q3,q4]
     ·have q4:goodTags t.tags=false:=by simpa using q4
      have hg:goodR t=false:=by simp[goodR,q4]
      rw[hg]
      refine run_exc (ρ':=[some t.d]) rfl ?_
      rw[e0]
      simp[p_need_route,exSs,exS,ex,evB,ev,evs,vw_rt,rt0,rt1,rt2,rt3,g1,g2,a1,a2,q0,q1,q2,q3,q4]
    ·have hg:goodR t=false:=by simp[goodR,goodW,q3]
     rw[hg]
     refine run_exc (ρ':=[some t.d]) rfl ?_
     rw[e0]
     simp[p_need_route,exSs,exS,ex,evB,ev,evs,vw_rt,rt0,rt1,rt2,rt3,g1,g2,a1,a2,q0,q1,q2,q3]
   ·have hg:goodR t=false:=by simp[goodR,goodW,q2]
    rw[hg]
    refine run_exc (ρ':=[some t.d]) rfl ?_
    rw[e0]
    simp[p_need_route,exSs,exS,ex,evB,ev,evs,vw_rt,rt0,rt1,rt2,rt3,g1,g2,a1,a2,q0,q1,q2]
  ·have q1:goodPath t.path=false:=by simpa using q1
   have hg:goodR t=false:=by simp[goodR,q1]
   rw[hg]
   refine run_exc (ρ':=[some t.d]) rfl ?_
   rw[e0]
   simp[p_need_route,exSs,exS,ex,evB,ev,evs,vw_rt,rt0,rt1,rt2,rt3,g1,g2,a1,a2,q0,q1]
 ·have q0:goodP t.pre=false:=by simpa using q0
  have hg:goodR t=false:=by simp[goodR,q0]
  rw[hg]
  refine run_exc (ρ':=[some t.d]) rfl ?_
  rw[e0]
  simp[p_need_route,exSs,exS,ex,q0]
end K10
namespace K10
open MP PySem
theorem mulOk_l {a b:Int} (h:a.natAbs<2 ^ 64):mulOk a b=true:=by unfold mulOk;rw[decide_eq_true h];rfl
theorem mulOk_r {a b:Int} (h:b.natAbs<2 ^ 64):mulOk a b=true:=by unfold mulOk;rw[decide_eq_true h];simp
theorem mulOk_b {a b:Int} (ha:a.natAbs<2 ^ 200) (hb:b.natAbs<2 ^ 200):mulOk a b=true:=by
 have l:(2:Nat) ^ 200≤2 ^ 4096:=Nat.pow_le_pow_right (by decide) (by decide)
 unfold mulOk
 rw[decide_eq_true (Nat.lt_of_lt_of_le ha l),decide_eq_true (Nat.lt_of_lt_of_le hb l)]
 simp
def BitStr (s:List Nat):Prop:=∀ c∈s,c=48∨c=49
def PCell (f:Den):Prop:=∀ (sc:List Int) (k:Int) (h:AH),sc.length≤63→0≤k→k<1000→∃ i:Int,f [.lst (sc.map .int),.int k] h=.ok (.int i) h
def PDrawn (f:Den):Prop:=∀ (c k:Int) (h:AH),0≤k→k<1000→∃ i:Int,0≤i∧f [.int c,.int k] h=.ok (.int i) h
def PBits (f:Den):Prop:=∀ (m n:Int) (h:AH),0≤n→n≤16→∃ s,BitStr s∧s.length=n.toNat∧f [.int m,.int n] h=.ok (.str s) h
theorem ints_ofP {P:Int→Prop}{l:List D} (h:∀ x∈l,∃ i:Int,x=.int i∧P i):∃ is:List Int,l=is.map .int∧∀ i∈is,P i:=by
 induction l with
 | nil=>exact⟨[],rfl,by simp⟩
 | cons a l ih =>
  obtain⟨i,rfl,p⟩:=h a List.mem_cons_self
  obtain⟨is,e,q⟩:=ih fun x hx=>h x (List.mem_cons_of_mem _ hx)
  exact⟨i::is,by rw[e];rfl,by simpa using ⟨p,q⟩⟩
theorem strs_ofP {P:List Nat→Prop}{l:List D} (h:∀ x∈l,∃ i,x=.str i∧P i):∃ is:List (List Nat),l=is.map .str∧∀ i∈is,P i:=by
 induction l with
 | nil=>exact⟨[],rfl,by simp⟩
 | cons a l ih =>
  obtain⟨i,rfl,p⟩:=h a List.mem_cons_self
  obtain⟨is,e,q⟩:=ih fun x hx=>h x (List.mem_cons_of_mem _ hx)
  exact⟨i::is,by rw[e];rfl,by simpa using ⟨p,q⟩⟩
@[simp] theorem strs_map (l:List (List Nat)):strs? (l.map .str)=some l:=by
 induction l with
 | nil=>rfl
 | cons a l ih=>simp[strs?,ih]
theorem join_nil (l:List (List Nat)):joinD [] l=l.flatten:=by
 induction l with
 | nil=>rfl
 | cons a l ih =>
  cases l with
  | nil=>simp[joinD]
  | cons b r=>rw[joinD,ih];simp
theorem bits_ok {G:List Den}:PBits (cutDen (runF G 2 2 p_bits)):=by
 intro m n h h0 h1
 suffices H:Rets (fun d=>∃ s,d=.str s∧BitStr s∧s.length=n.toNat) h (exSs G p_bits (startE 2 [.int m,.int n]) h) by
  obtain⟨d,⟨s,rfl,a,b⟩,e⟩:=run_rets H rfl
  exact⟨s,a,b,e⟩
 unfold p_bits
 have hc:EvP G (PX.comp (PX.idx (PX.con (D.str [48,49])) (PX.bin (Operator.Mod) (PX.bin (Operator.FloorDiv) (PX.var 1) (PX.bin (Operator.LShift) (PX.con (D.int 1)) (PX.var 0))) (PX.con (D.int 2)))) none (PI.rng (PX.var 1)) [0]) (startE 2 [.int m,.int n]) h
   fun d=>∃ l:List (List Nat),d=.lst (l.map .str)∧l.length=n.toNat∧∀ x∈l,x=[48]∨x=[49]:=by
  refine ep_compR (N:=n) (PD:=fun d=>∃ x,d=.str x∧(x=[48]∨x=[49])) (ei_var (by simp[startE]) rfl) ⟨by omega,by omega⟩ (fun i hi=>?_) fun out hl ha=>?_
  ·have hm:EvI G (PX.bin (Operator.Mod) (PX.bin (Operator.FloorDiv) (PX.var 1) (PX.bin (Operator.LShift) (PX.con (D.int 1)) (PX.var 0))) (PX.con (D.int 2))) (some (.int i)::[0].map (getV (startE 2 [.int m,.int n]))) h fun x=>x=0∨x=1:=by
    refine ei_modC (ei_fdiv (Q:=fun y=>0<y∧y<2 ^ 100) (P:=fun _=>True) (R:=fun _=>True) (ei_var (i:=m) (by simp[startE]) trivial) (ei_shl (P:=fun x=>x=1) (Q:=fun x=>x=(i:Int)) (ei_con rfl) (ei_var (i:=i) (by simp) rfl) (fun x y e1 e2=>?_) fun x y e1 e2=>?_) (fun y hy=>hy) fun _ _ _ _=>trivial) fun x _=>by omega
    ·subst e1 e2;exact⟨by omega,by omega,by decide⟩
    ·subst e1 e2
     have:(2:Nat) ^ i≤2 ^ 16:=Nat.pow_le_pow_right (by decide) (by omega)
     have e:(1:Int) * 2 ^ ((i:Int)).toNat=((2 ^ i:Nat):Int):=by simp
     rw[e]
     have:(2 ^ i:Nat)<2 ^ 100:=Nat.lt_of_le_of_lt this (by decide)
     exact⟨by exact_mod_cast Nat.pow_pos (by decide),by exact_mod_cast this⟩
   refine ep_idxG (P1:=fun d=>d=.str [48,49]) (P2:=fun d=>d=.int 0∨d=.int 1) (ep_con rfl) (hm.p fun i q=>by rcases q with rfl | rfl<;>simp) fun x y e1 e2=>?_
   subst e1
   rcases e2 with rfl | rfl
   ·exact⟨.str [48],⟨_,rfl,.inl rfl⟩,rfl⟩
   ·exact⟨.str [49],⟨_,rfl,.inr rfl⟩,rfl⟩
  ·obtain⟨l,rfl,hp⟩:=strs_ofP ha
   exact⟨l,rfl,by simpa using hl,hp⟩
 refine st_retP (P:=fun d=>∃ s,d=.str s∧BitStr s∧s.length=n.toNat) (ep_mt (P1:=fun d=>d=.str []) (PL:=fun ds=>∃ l:List (List Nat),ds=[.lst (l.map .str)]∧l.length=n.toNat∧∀ x∈l,x=[48]∨x=[49]) (ep_con rfl) (el_one hc fun d ⟨l,e,q⟩=>⟨l,by rw[e],q⟩) ?_) fun d p=>p
 rintro _ _ rfl ⟨l,rfl,hl,hp⟩
 have hs:(l.map List.length).sum=l.length:=by
  clear hl
  induction l with
  | nil=>rfl
  | cons a l ih =>
   have:=ih fun x hx=>hp x (List.mem_cons_of_mem _ hx)
   rcases hp a List.mem_cons_self with rfl | rfl<;>simp[this]<;>omega
 refine⟨.str l.flatten,⟨_,rfl,?_,?_⟩,?_⟩
 ·intro c hc
  obtain⟨x,hx,hcx⟩:=List.mem_flatten.mp hc
  rcases hp x hx with rfl | rfl
  ·exact .inl (by simpa using hcx)
  ·exact .inr (by simpa using hcx)
 ·rw[← hl,List.length_flatten,hs]
 ·show ((strs? (l.map .str)).bind fun l=>if (l.map List.length).sum+l.length * ([]:List Nat).length≤SZ then some (D.str (joinD [] l)) else none)=_
  rw[strs_map]
  show (if (l.map List.length).sum+l.length * 0≤SZ then some (D.str (joinD [] l)) else none)=_
  rw[if_pos (by rw[hs,hl];show _≤16777216;omega),join_nil]
theorem cell_ok {G:List Den}:PCell (cutDen (runF G 2 2 p_cell)):=by
 intro sc k h hsc h0 h1
 suffices H:Rets (fun d=>∃ i:Int,d=.int i) h (exSs G p_cell (startE 2 [.lst (sc.map .int),.int k]) h) by
  obtain⟨d,⟨s,rfl⟩,e⟩:=run_rets H rfl
  exact⟨s,e⟩
 unfold p_cell
 refine st_if (Post:=Rets _ h) (P:=fun b=>b=sc.isEmpty) ?_ (fun e=>?_) fun e=>?_
 ·refine⟨_,rfl,?_⟩
  cases sc with
  | nil=>simp[evB,ev,evs,startE,eqD,eqDs]
  | cons a l=>simp[evB,ev,evs,startE,eqD,eqDs]
 ·refine st_retP (P:=fun d=>∃ i:Int,d=.int i) (EvI.p (P:=fun _=>True) (ei_mul (P:=fun _=>True) (Q:=fun x=>x=7919) (ei_var (i:=k) (by simp[startE]) trivial) (ei_con rfl) (fun x y _ e=>by subst e;exact mulOk_r (by decide)) fun _ _ _ _=>trivial) fun i _=>⟨i,rfl⟩) fun d p=>p
 ·have hne:sc≠[]:=by cases sc with | nil=>cases e | cons a l=>simp
  have hl:0<sc.length:=List.length_pos_iff.mpr hne
  refine st_retP (P:=fun d=>∃ i:Int,d=.int i) ?_ fun d p=>p
  have hx:=ep_idxM (G:=G) (ρ:=startE 2 [.lst (sc.map .int),.int k]) (h:=h) (j:=0) (xs:=sc.map .int) (a:=.var 1) (PD:=fun d=>∃ i:Int,d=.int i) (by simp[startE]) (by simpa using hne) (by intro x hx;obtain⟨i,_,rfl⟩:=List.mem_map.mp hx;exact⟨i,rfl⟩) (ei_var (i:=k) (by simp[startE]) trivial)
  obtain⟨d,⟨i,rfl⟩,ex⟩:=hx
  refine EvI.p (P:=fun _=>True) (ei_add (P:=fun _=>True) (Q:=fun _=>True) ⟨i,trivial,ex⟩ (ei_mul (P:=fun _=>True) (Q:=fun x=>x=104729) (ei_fdiv (P:=fun _=>True) (Q:=fun y=>y=sc.length) (ei_var (i:=k) (by simp[startE]) trivial) ?_ ?_ fun _ _ _ _=>trivial) (ei_con rfl) (fun x y _ e=>by subst e;exact mulOk_r (by decide)) fun _ _ _ _=>trivial) fun _ _ _ _=>trivial) fun i _=>⟨i,rfl⟩
  ·exact ei_lenL (PL:=fun ys=>ys=sc.map .int) (ep_var (by simp[startE]) ⟨_,rfl,rfl⟩) fun ys e=>by rw[e];simp
  ·intro y e;subst e;exact⟨by omega,by omega⟩
theorem drawn_ok {G:List Den}:PDrawn (cutDen (runF G 2 3 p_drawn)):=by
 intro c k h h0 h1
 suffices H:Rets (fun d=>∃ i:Int,d=.int i∧0≤i) h (exSs G p_drawn (startE 3 [.int c,.int k]) h) by
  obtain⟨d,⟨s,rfl,p⟩,e⟩:=run_rets H rfl
  exact⟨s,p,e⟩
 unfold p_drawn
 refine st_asg (Post:=Rets _ h) (P:=fun d=>∃ i:Int,d=.int i∧0≤i∧i<340282366920938463463374607431768211507) (EvI.p (P:=fun i=>0≤i∧i<340282366920938463463374607431768211507) (ei_modC (P:=fun _=>True)
  (ei_add (P:=fun _=>True) (Q:=fun _=>True) (ei_mul (P:=fun _=>True) (Q:=fun x=>x=6364136223846793005) (ei_var (i:=c) (by simp[startE]) trivial) (ei_con rfl) (fun x y _ e=>by subst e;exact mulOk_r (by decide)) fun _ _ _ _=>trivial)
   (ei_mul (P:=fun _=>True) (Q:=fun x=>x=1442695040888963407) (ei_add (P:=fun _=>True) (Q:=fun _=>True) (ei_var (i:=k) (by simp[startE]) trivial) (ei_con trivial) fun _ _ _ _=>trivial) (ei_con rfl) (fun x y _ e=>by subst e;exact mulOk_r (by decide)) fun _ _ _ _=>trivial) fun _ _ _ _=>trivial)
  fun x _=>⟨Int.emod_nonneg _ (by decide),Int.emod_lt_of_pos _ (by decide)⟩) fun i p=>⟨i,rfl,p⟩) ?_
 rintro d ⟨i,rfl,h2,h3⟩
 refine st_retP (P:=fun d=>∃ i:Int,d=.int i∧0≤i) (EvI.p (P:=fun i=>0≤i) (ei_modC (P:=fun _=>True) (ei_mul (P:=fun x=>x=i) (Q:=fun x=>x=i) (ei_var (by simp[startE]) rfl) (ei_var (by simp[startE]) rfl) (fun x y e1 e2=>?_) fun _ _ _ _=>trivial) fun x _=>Int.emod_nonneg _ (by decide)) fun i p=>⟨i,rfl,p⟩) fun d p=>p
 subst e1 e2
 have:y.natAbs<2 ^ 200:=by
  have:(340282366920938463463374607431768211507:Nat)<2 ^ 200:=by decide
  omega
 exact mulOk_b this this
theorem compL_cons {f:D→AH→Option (Option D×AH)}{d:D}{ds:List D}{h:AH}{o:Option D} (e:f d h=some (o,h)):compL f (d::ds) h=(compL f ds h).bind fun q=>some (putO o q.1,q.2):=by
 rw[compL,e];rfl
end K10
namespace K13
open MP PySem
noncomputable def p_is_prefix:List PSt:=[.ret (.and (.cmp .LtE (.blt .len [.var 0]) (.con (.int 16))) (.blt .all [.comp (.cmp .In (.var 0) (.tup [.con (.str [48]),.con (.str [49])])) none (.seq (.var 0)) []]))]
noncomputable def p_is_path:List PSt:=[.ret (.and (.cmp2 .LtE .LtE (.con (.int 1)) (.blt .len [.var 0]) (.con (.int 12))) (.blt .all [.comp (.cmp2 .LtE .LtE (.con (.int 1)) (.var 0) (.con (.int 999))) none (.seq (.var 0)) []]))]
noncomputable def p_are_tags:List PSt:=[.ifs (.val (.cmp .Gt (.blt .len [.var 0]) (.con (.int 4)))) [.ret (.con (.bl false))] [],.asg (.nm 1) (.con (.int 0)),.forS (.nm 2) (.seq (.var 0)) [.ifs (.not (.val (.cmp2 .Lt .LtE (.var 1) (.var 2) (.con (.int 99))))) [.ret (.con (.bl false))] [],.asg (.nm 1) (.var 2)],.ret (.con (.bl true))]
noncomputable def p_need_prefix:List PSt:=[.ifs (.not (.val (.call 0 [.var 0]))) [.rai 0 [.con (.str [116,104,101,32,112,114,101,102,105,120,32,105,115,32,110,111,116,32,111,102,32,48,32,116,111,32,49,54,32,115,105,103,110,115,32,48,32,97,110,100,32,49])]] []]
noncomputable def p_need_route:List PSt:=[.ex (.call 3 [.idx (.var 0) (.con (.int 0))]),.ifs (.not (.val (.call 1 [.idx (.var 0) (.con (.int 1))]))) [.rai 0 [.con (.str [116,104,101,32,112,97,116,104,32,105,115,32,110,111,116,32,111,102,32,49,32,116,111,32,49,50,32,110,117,109,98,101,114,115,32,49,32,116,111,32,57,57,57])]] [],.ifs (.not (.val (.cmp2 .LtE .LtE (.con (.int 0)) (.idx (.var 0) (.con (.int 2))) (.con (.int 1000))))) [.rai 0 [.con (.str [116,104,101,32,119,101,105,103,104,116,32,105,115,32,110,111,116,32,48,32,116,111,32,49,48,48,48])]] [],.ifs (.not (.val (.call 2 [.idx (.var 0) (.con (.int 3))]))) [.rai 0 [.con (.str [116,104,101,32,116,97,103,115,32,97,114,101,32,110,111,116,32,97,116,32,109,111,115,116,32,52,32,114,105,115,105,110,103,32,110,117,109,98,101,114,115,32,49,32,116,111,32,57,57])]] []]
noncomputable def p_judged:List PSt:=[.asg (.nm 2) (.con (.int 100)),.asg (.nm 3) (.con (.int 0)),.asg (.nm 4) (.var 1),.forE (.nm 5) (.seq (.var 0)),.ret (.tup [.var 4,.var 2,.var 3])]
noncomputable def p_rank:List PSt:=[.asg (.nm 1) (.idx (.var 0) (.con (.int 1))),.ret (.tup [.neg (.idx (.var 0) (.con (.int 2))),.blt .len [.idx (.var 1) (.con (.int 1))],.idx (.var 1) (.con (.int 2)),.idx (.var 0) (.con (.int 0))])]
noncomputable def p_Neighbour___init__:List PSt:=[.fset "Neighbour" (.var 0) "is_up" (.con (.bl false)),.fset "Neighbour" (.var 0) "rules_in" (.lst []),.fset "Neighbour" (.var 0) "rules_out" (.lst []),.fset "Neighbour" (.var 0) "said" (.dnew),.fset "Neighbour" (.var 0) "told" (.dnew)]
noncomputable def p_Router___init__:List PSt:=[.fset "Router" (.var 0) "number" (.var 1),.fset "Router" (.var 0) "neighbours" (.dnew),.fset "Router" (.var 0) "owned" (.dnew),.fset "Router" (.var 0) "choices" (.dnew)]
noncomputable def p_Router_need_stranger:List PSt:=[.ifs (.or (.val (.cmp .Eq (.var 1) (.fld "Router" (.var 0) "number"))) (.not (.val (.cmp2 .LtE .LtE (.con (.int 1)) (.var 1) (.con (.int 999)))))) [.rai 2 [.con (.str [97,32,110,101,105,103,104,98,111,117,114,32,104,97,115,32,97,32,110,117,109,98,101,114,32,49,32,116,111,32,57,57,57,44,32,97,110,111,116,104,101,114,32,116,104,97,110,32,116,104,101,32,114,111,117,116,101,114,39,115,32,111,119,110])]] []]
noncomputable def p_Router_need_neighbour:List PSt:=[.ifs (.val (.din true (.var 1) (.fld "Router" (.var 0) "neighbours"))) [.rai 2 [.con (.str [116,104,101,114,101,32,105,115,32,110,111,32,115,117,99,104,32,110,101,105,103,104,98,111,117,114])]] [],.ret (.dget (.fld "Router" (.var 0) "neighbours") (.var 1))]
noncomputable def p_Router_need_up:List PSt:=[.asg (.nm 2) (.mcall 10 "Router" "need_neighbour" (.var 0) [.var 1]),.ifs (.not (.val (.fld "Neighbour" (.var 2) "is_up"))) [.rai 2 [.con (.str [116,104,101,32,110,101,105,103,104,98,111,117,114,32,105,115,32,100,111,119,110])]] [],.ret (.var 2)]
noncomputable def p_Router_has_neighbour:List PSt:=[.ret (.din false (.var 1) (.fld "Router" (.var 0) "neighbours"))]
noncomputable def p_Router_add:List PSt:=[.ex (.mcall 9 "Router" "need_stranger" (.var 0) [.var 1]),.ifs (.val (.mcall 12 "Router" "has_neighbour" (.var 0) [.var 1])) [.rai 2 [.con (.str [116,104,101,32,110,101,105,103,104,98,111,117,114,32,105,115,32,116,104,101,114,101,32,97,108,114,101,97,100,121])]] [],.dput (.fld "Router" (.var 0) "neighbours") (.var 1) (.make 7 "Neighbour" [])]
noncomputable def p_Router_up:List PSt:=[.asg (.nm 2) (.mcall 10 "Router" "need_neighbour" (.var 0) [.var 1]),.fset "Neighbour" (.var 2) "is_up" (.con (.bl true))]
noncomputable def p_Router_hear:List PSt:=[.asg (.nm 3) (.mcall 11 "Router" "need_up" (.var 0) [.var 1]),.ex (.call 4 [.var 2]),.ifs (.val (.cmp .NotEq (.idx (.idx (.var 2) (.con (.int 1))) (.con (.int 0))) (.var 1))) [.rai 0 [.con (.str [116,104,101,32,112,97,116,104,32,100,111,101,115,110,39,116,32,98,101,103,105,110,32,119,105,116,104,32,116,104,101,32,110,101,105,103,104,98,111,117,114,39,115,32,110,117,109,98,101,114])]] [],.dput (.fld "Neighbour" (.var 3) "said") (.idx (.var 2) (.con (.int 0))) (.var 2),.ex (.mcall 17 "Router" "choose_again" (.var 0) [.lst [.idx (.var 2) (.con (.int 0))]])]
noncomputable def p_Router_own:List PSt:=[.ex (.call 3 [.var 1]),.ifs (.val (.var 2)) [.dput (.fld "Router" (.var 0) "owned") (.var 1) (.con (.bl true))] [.ex (.dpopN (.fld "Router" (.var 0) "owned") (.var 1))],.ex (.mcall 17 "Router" "choose_again" (.var 0) [.lst [.var 1]])]
noncomputable def p_Router_counting:List PSt:=[.asg (.nm 2) (.new []),.forD (.nm 3) (.fld "Router" (.var 0) "neighbours") [.asg (.nm 4) (.dget (.fld "Router" (.var 0) "neighbours") (.var 3)),.asg (.nm 5) (.dgetN (.fld "Neighbour" (.var 4) "said") (.var 1)),.ifs (.or (.val (.cmp .Is (.var 5) (.con .non))) (.val (.cmp .In (.fld "Router" (.var 0) "number") (.idx (.var 5) (.con (.int 1)))))) [.cnt] [],.asg (.nm 6) (.call 5 [.fld "Neighbour" (.var 4) "rules_in",.var 5]),.ifs (.val (.cmp .IsNot (.var 6) (.con .non))) [.ex (.app (.var 2) (.tup [.var 3,.idx (.var 6) (.con (.int 0)),.idx (.var 6) (.con (.int 1))]))] []],.ret (.var 2)]
noncomputable def p_Router_choice:List PSt:=[.ifs (.val (.din false (.var 1) (.fld "Router" (.var 0) "owned"))) [.ret (.tup [.con (.int 0),.tup [.var 1,.tup [],.con (.int 0),.tup []],.con (.int 100)])] [],.ret (.minK 6 (.mcall 15 "Router" "counting" (.var 0) [.var 1]))]
noncomputable def p_Router_choose_again:List PSt:=[.forS (.nm 2) (.seq (.var 1)) [.asg (.nm 3) (.mcall 16 "Router" "choice" (.var 0) [.var 2]),.ifs (.val (.cmp .Is (.var 3) (.con .non))) [.ex (.dpopN (.fld "Router" (.var 0) "choices") (.var 2))] [.dput (.fld "Router" (.var 0) "choices") (.var 2) (.var 3)]]]
noncomputable def p_Router_best:List PSt:=[.ret (.dgetN (.fld "Router" (.var 0) "choices") (.var 1))]
noncomputable def p_Router_find:List PSt:=[.forN (.nm 2) (.blt .len [.var 1]) [.asg (.nm 3) (.mcall 20 "Router" "best" (.var 0) [.sl (.var 1) none (some (.var 2))]),.ifs (.val (.cmp .IsNot (.var 3) (.con .non))) [.ret (.var 3)] []],.ret (.con .non)]
noncomputable def p_Router_chosen:List PSt:=[.ret (.dsrt (.fld "Router" (.var 0) "choices"))]
noncomputable def p_cell:List PSt:=[.ifs (.val (.cmp .Eq (.var 0) (.lst []))) [.ret (.bin .Mult (.var 1) (.con (.int 7919)))] [],.ret (.bin .Add (.idx (.var 0) (.bin .Mod (.var 1) (.blt .len [.var 0]))) (.bin .Mult (.bin .FloorDiv (.var 1) (.blt .len [.var 0])) (.con (.int 104729))))]
noncomputable def p_drawn:List PSt:=[.asg (.nm 2) (.bin .Mod (.bin .Add (.bin .Mult (.var 0) (.con (.int 6364136223846793005))) (.bin .Mult (.bin .Add (.var 1) (.con (.int 1))) (.con (.int 1442695040888963407)))) (.con (.int 340282366920938463463374607431768211507))),.ret (.bin .Mod (.bin .Mult (.var 2) (.var 2)) (.con (.int 340282366920938463463374607431768211297)))]
noncomputable def p_numbers:List PSt:=[.asg (.nm 2) (.idx (.lst [.con (.int 1),.con (.int 2),.con (.int 500),.con (.int 7)]) (.bin .Mod (.var 0) (.con (.int 4)))),.ret (.comp (.bin .Add (.bin .Mod (.bin .Add (.bin .FloorDiv (.var 1) (.con (.int 4))) (.bin .Mult (.var 0) (.var 2))) (.con (.int 999))) (.con (.int 1))) none (.rng (.var 1)) [0,2])]
noncomputable def p_bits:List PSt:=[.ret (.mt (Mt.join) (.con (.str [])) [.comp (.idx (.con (.str [48,49])) (.bin .Mod (.bin .FloorDiv (.var 1) (.bin .LShift (.con (.int 1)) (.var 0))) (.con (.int 2)))) none (.rng (.var 1)) [0]])]
noncomputable def p_prefixes:List PSt:=[.asg (.nm 1) (.call 26 [.bin .FloorDiv (.var 0) (.con (.int 32)),.idx (.lst [.con (.int 0),.con (.int 3),.con (.int 9),.con (.int 12)]) (.bin .Mod (.var 0) (.con (.int 4)))]),.asg (.nm 2) (.comp (.bin .Add (.var 1) (.var 0)) none (.seq (.lst [.con (.str []),.con (.str [48]),.con (.str [49]),.con (.str [48,48]),.con (.str [48,49,49]),.con (.str [49,48])])) [1]),.ret (.bin .Add (.var 2) (.lst [.sl (.bin .Add (.bin .Add (.var 1) (.call 26 [.bin .FloorDiv (.var 0) (.con (.int 65536)),.con (.int 16)])) (.con (.str [48]))) none (some (.con (.int 16)))]))]
noncomputable def p_tags:List PSt:=[.asg (.nm 1) (.lst [.bin .Add (.con (.int 1)) (.bin .Mod (.bin .FloorDiv (.var 0) (.con (.int 8))) (.con (.int 3))),.bin .Add (.con (.int 4)) (.bin .Mod (.bin .FloorDiv (.var 0) (.con (.int 24))) (.con (.int 90))),.bin .Add (.con (.int 95)) (.bin .Mod (.bin .FloorDiv (.var 0) (.con (.int 2160))) (.con (.int 3))),.bin .Add (.con (.int 98)) (.bin .Mod (.bin .FloorDiv (.var 0) (.con (.int 6480))) (.con (.int 2)))]),.ret (.blt .tuple [.comp (.idx (.var 2) (.var 0)) (some (.val (.cmp .Eq (.bin .Mod (.bin .FloorDiv (.var 1) (.bin .LShift (.con (.int 1)) (.var 0))) (.con (.int 2))) (.con (.int 1))))) (.rng (.con (.int 4))) [0,1]])]
noncomputable def p_route:List PSt:=[.asg (.nm 4) (.new [.var 2]),.forS (.nm 5) (.rng (.idx (.lst [.bin .Mod (.var 0) (.con (.int 3)),.bin .Mod (.var 0) (.con (.int 5)),.con (.int 11)]) (.bin .Mod (.bin .FloorDiv (.var 0) (.con (.int 16))) (.con (.int 3))))) [.ex (.app (.var 4) (.idx (.var 3) (.bin .Mod (.bin .FloorDiv (.var 0) (.bin .Add (.con (.int 64)) (.bin .Mult (.con (.int 13)) (.var 5)))) (.blt .len [.var 3]))))],.asg (.nm 6) (.idx (.lst [.con (.int 0),.bin .Mod (.bin .FloorDiv (.var 0) (.con (.int 4096))) (.con (.int 3)),.con (.int 1000)]) (.bin .Mod (.bin .FloorDiv (.var 0) (.con (.int 16384))) (.con (.int 3)))),.ret (.tup [.idx (.var 1) (.bin .Mod (.bin .FloorDiv (.var 0) (.con (.int 65536))) (.blt .len [.var 1])),.blt .tuple [.var 4],.var 6,.call 28 [.bin .FloorDiv (.var 0) (.bin .Pow (.con (.int 2)) (.con (.int 24)))]])]
noncomputable def p_best:List PSt:=[.ifs (.val (.din false (.var 3) (.var 1))) [.ret (.tup [.con (.int 0),.tup [.var 3,.tup [],.con (.int 0),.tup []],.con (.int 100)])] [],.asg (.nm 4) (.new []),.forD (.nm 5) (.var 0) [.ifs (.and (.val (.din false (.var 3) (.dget (.var 0) (.var 5)))) (.val (.cmp .NotIn (.var 2) (.blt .list [.idx (.dget (.dget (.var 0) (.var 5)) (.var 3)) (.con (.int 1))])))) [.asg (.nm 6) (.dget (.dget (.var 0) (.var 5)) (.var 3)),.ex (.app (.var 4) (.tup [.blt .len [.idx (.var 6) (.con (.int 1))],.idx (.var 6) (.con (.int 2)),.var 5,.var 6]))] []],.ifs (.val (.cmp .Eq (.var 4) (.lst []))) [.ret (.con .non)] [],.ret (.tup [.idx (.idx (.srtR (.var 4)) (.con (.int 0))) (.con (.int 2)),.idx (.idx (.srtR (.var 4)) (.con (.int 0))) (.con (.int 3)),.con (.int 100)])]
noncomputable def p_found:List PSt:=[.asg (.nm 4) (.comp (.tup [.blt .len [.idx (.var 3) (.var 0)],.idx (.var 2) (.var 0)]) (some (.val (.cmp .Eq (.sl (.var 1) none (some (.blt .len [.idx (.var 3) (.var 0)]))) (.idx (.var 3) (.var 0))))) (.rng (.con (.int 7))) [3,2,1]),.asg (.nm 4) (.comp (.var 0) (some (.val (.cmp .IsNot (.idx (.var 0) (.con (.int 1))) (.con .non)))) (.seq (.var 4)) []),.asg (.nm 6) (.mcall 21 "Router" "find" (.var 0) [.var 3]),.ifs (.val (.cmp .Eq (.var 4) (.lst []))) [.ret (.cmp .Is (.var 6) (.con .non))] [],.asg (.nm 7) (.idx (.var 4) (.con (.int 0))),.forS (.nm 5) (.seq (.var 4)) [.ifs (.val (.cmp .Gt (.idx (.var 5) (.con (.int 0))) (.idx (.var 7) (.con (.int 0))))) [.asg (.nm 7) (.var 5)] []],.ret (.and (.cmp .Eq (.var 6) (.idx (.var 7) (.con (.int 1)))) (.and (.isi (.var 6) Ty.tuple) (.cmp .Eq (.mcall 21 "Router" "find" (.var 0) [.var 3]) (.var 6))))]
noncomputable def p_law:List PSt:=[.asg (.nm 1) (.call 24 [.call 23 [.var 0,.con (.int 0)],.con (.int 3)]),.asg (.nm 2) (.call 27 [.bin .FloorDiv (.var 1) (.con (.int 64))]),.asg (.nm 3) (.call 25 [.bin .FloorDiv (.var 1) (.bin .Pow (.con (.int 2)) (.con (.int 30))),.con (.int 8)]),.asg (.nm 4) (.idx (.var 3) (.con (.int 0))),.asg (.nm 5) (.make 8 "Router" [.var 4]),.asg (.nm 6) (.dnew),.asg (.nm 7) (.dnew),.forS (.nm 8) (.seq (.sl (.var 3) (some (.con (.int 1))) (some (.bin .Add (.con (.int 2)) (.bin .Mod (.var 1) (.con (.int 6))))))) [.ex (.mcall 13 "Router" "add" (.var 5) [.var 8]),.ex (.mcall 14 "Router" "up" (.var 5) [.var 8]),.dput (.var 6) (.var 8) (.dnew)],.asg (.nm 9) (.bin .Add (.lrep (.sl (.var 3) none (some (.con (.int 1)))) (.blt .int [.bin .Mod (.bin .FloorDiv (.var 1) (.con (.int 8))) (.con (.int 2))])) (.sl (.var 3) (some (.con (.int 1))) none)),.forS (.nm 10) (.rng (.blt .max2 [.con (.int 1),.blt .min2 [.con (.int 12),.blt .len [.var 0]]])) [.asg (.nm 1) (.call 24 [.call 23 [.var 0,.var 10],.bin .Add (.var 10) (.con (.int 40))]),.asg (.nm 8) (.idx (.dsrt (.var 6)) (.bin .Mod (.var 1) (.dlen (.var 6)))),.asg (.nm 11) (.call 29 [.bin .FloorDiv (.var 1) (.con (.int 64)),.sl (.var 2) none (some (.bin .Add (.con (.int 1)) (.bin .Mod (.bin .FloorDiv (.var 1) (.con (.int 8))) (.con (.int 7))))),.var 8,.var 9]),.ex (.mcall 18 "Router" "hear" (.var 5) [.var 8,.var 11]),.dput (.dget (.var 6) (.var 8)) (.idx (.var 11) (.con (.int 0))) (.var 11),.ifs (.val (.cmp .Eq (.bin .Mod (.bin .FloorDiv (.var 1) (.bin .Pow (.con (.int 2)) (.con (.int 60)))) (.con (.int 6))) (.con (.int 0)))) [.asg (.nm 12) (.idx (.var 2) (.bin .Mod (.bin .FloorDiv (.var 1) (.bin .Pow (.con (.int 2)) (.con (.int 63)))) (.con (.int 7)))),.ex (.mcall 19 "Router" "own" (.var 5) [.var 12,.con (.bl true)]),.dput (.var 7) (.var 12) (.con (.bl true))] []],.asg (.nm 13) (.comp (.call 30 [.var 3,.var 2,.var 1,.var 0]) none (.seq (.var 2)) [4,7,6]),.ifs (.val (.cmp .NotEq (.comp (.mcall 20 "Router" "best" (.var 1) [.var 0]) none (.seq (.var 2)) [5]) (.var 13))) [.ret (.con (.bl false))] [],.ifs (.val (.cmp .NotEq (.mcall 20 "Router" "best" (.var 5) [.bin .Mult (.con (.str [49])) (.con (.int 15))]) (.call 30 [.var 6,.var 7,.var 4,.bin .Mult (.con (.str [49])) (.con (.int 15))]))) [.ret (.con (.bl false))] [],.ifs (.val (.cmp .NotEq (.mcall 22 "Router" "chosen" (.var 5) []) (.srtT (.comp (.idx (.var 2) (.var 0)) (some (.val (.cmp .IsNot (.idx (.var 1) (.var 0)) (.con .non)))) (.rng (.con (.int 7))) [13,2])))) [.ret (.con (.bl false))] [],.ret (.call 31 [.var 5,.var 2,.var 13,.sl (.bin .Add (.idx (.var 2) (.bin .Mod (.var 1) (.con (.int 7)))) (.call 26 [.bin .FloorDiv (.var 1) (.con (.int 8)),.con (.int 16)])) none (some (.con (.int 16)))])]
end K13
namespace K13
open MP PySem
open K10 (Rt okS)
section
variable {α:Type}
noncomputable def lkS (s:List (List Nat×α)) (p:List Nat):Option α:=(s.find? fun q=>q.1==p).map (·.2)
noncomputable def putS (s:List (List Nat×α)) (p:List Nat) (v:α):List (List Nat×α):=if (s.any fun q=>q.1==p)=true then s.map (fun q=>if (q.1==p)=true then (q.1,v) else q) else s++[(p,v)]
noncomputable def dropS (s:List (List Nat×α)) (p:List Nat):List (List Nat×α):=s.filter fun q=>!(q.1==p)
noncomputable def dS (f:α→D) (s:List (List Nat×α)):List (D×D):=s.map fun q=>(.str q.1,f q.2)
theorem eqK_str {a b:List Nat}:eqK (.str a) (.str b)=(a==b):=rfl
theorem lk_dS (f:α→D) (s:List (List Nat×α)) (p:List Nat):lkD (dS f s) (.str p)=(lkS s p).map f:=by
 induction s with
 | nil=>rfl
 | cons q s ih =>
  unfold lkD lkS dS at *
  simp only[List.map_cons,List.find?_cons,eqK_str]
  cases h:(q.1==p) with
  | true=>rfl
  | false=>exact ih
theorem any_dS (f:α→D) (s:List (List Nat×α)) (p:List Nat):((dS f s).any fun q=>eqK q.1 (.str p))=s.any fun q=>q.1==p:=by
 unfold dS
 rw[List.any_map]
 rfl
theorem put_dS (f:α→D) (s:List (List Nat×α)) (p:List Nat) (v:α):putD (dS f s) (.str p) (f v)=dS f (putS s p v):=by
 unfold putD putS
 rw[any_dS]
 by_cases h:(s.any fun q=>q.1==p)=true
 ·rw[if_pos h,if_pos h]
  unfold dS
  rw[List.map_map,List.map_map]
  refine List.map_congr_left fun q _=>?_
  simp only[Function.comp,eqK_str]
  by_cases hq:(q.1==p)=true
  ·simp only[hq,if_true]
  ·simp only[hq,if_false]
   rfl
 ·rw[if_neg h,if_neg h]
  unfold dS
  simp
theorem drop_dS (f:α→D) (s:List (List Nat×α)) (p:List Nat):dropD (dS f s) (.str p)=dS f (dropS s p):=by
 unfold dropD dropS dS
 rw[List.filter_map]
 rfl
theorem keys_dS (f:α→D) (s:List (List Nat×α)):(dS f s).map (·.1)=(s.map (·.1)).map D.str:=by
 unfold dS
 rw[List.map_map,List.map_map]
 rfl
theorem len_dS (f:α→D) (s:List (List Nat×α)):(dS f s).length=s.length:=by unfold dS;simp
theorem lkS_cons {q:List Nat×α}{s:List (List Nat×α)}{p:List Nat}:lkS (q::s) p=if q.1=p then some q.2 else lkS s p:=by
 unfold lkS
 rw[List.find?_cons]
 by_cases h:q.1=p
 ·rw[if_pos h,h];simp
 ·rw[if_neg h,beq_eq_false_iff_ne.mpr h]
theorem lkS_none {s:List (List Nat×α)}{p:List Nat}:lkS s p=none ↔ p ∉ s.map (·.1):=by
 induction s with
 | nil=>simp[lkS]
 | cons q s ih =>
  rw[lkS_cons]
  by_cases h:q.1=p
  ·simp[h]
  ·rw[if_neg h,ih]
   simp[Ne.symm h]
theorem any_mem {s:List (List Nat×α)}{p:List Nat}:(s.any fun q=>q.1==p)=true ↔ p∈s.map (·.1):=by
 simp
theorem lk_app {s:List (List Nat×α)}{p q:List Nat}{v:α} (h:p ∉ s.map (·.1)):lkS (s++[(p,v)]) q=if q=p then some v else lkS s q:=by
 induction s with
 | nil =>
  rw[List.nil_append,lkS_cons]
  by_cases e:p=q
  ·simp[e]
  ·rw[if_neg e,if_neg (Ne.symm e)]
 | cons r s ih =>
  simp only[List.map_cons,List.mem_cons,not_or] at h
  rw[List.cons_append,lkS_cons,lkS_cons,ih h.2]
  by_cases e:q=p
  ·rw[if_pos e,if_neg (by rw[e];exact Ne.symm h.1),if_pos e]
  ·rw[if_neg e,if_neg e]
theorem lk_map {s:List (List Nat×α)}{p q:List Nat}{v:α} (h:p∈s.map (·.1)):lkS (s.map fun r=>if (r.1==p)=true then (r.1,v) else r) q=if q=p then some v else lkS s q:=by
 induction s with
 | nil=>simp at h
 | cons r s ih =>
  rw[List.map_cons,lkS_cons,lkS_cons]
  by_cases e:r.1=p
  ·rw[e]
   simp only[beq_self_eq_true,if_true]
   by_cases e2:q=p
   ·rw[e2];simp
   ·rw[if_neg (Ne.symm e2),if_neg e2,if_neg (Ne.symm e2)]
    by_cases m:p∈s.map (·.1)
    ·rw[ih m,if_neg e2]
    ·have:s.map (fun r=>if (r.1==p)=true then (r.1,v) else r)=s:=by
      clear ih h
      induction s with
      | nil=>rfl
      | cons x s ih =>
       simp only[List.map_cons,List.mem_cons,not_or] at m
       rw[List.map_cons,ih m.2,beq_eq_false_iff_ne.mpr (Ne.symm m.1)]
       simp
     rw[this]
  ·have e':(r.1==p)=false:=beq_eq_false_iff_ne.mpr e
   simp only[e',Bool.false_eq_true,if_false]
   have m:p∈s.map (·.1):=by
    simp only[List.map_cons,List.mem_cons] at h
    exact h.resolve_left (Ne.symm e)
   rw[ih m]
   by_cases e2:q=p
   ·rw[if_pos e2,if_neg (by rw[e2];exact e),if_pos e2]
   ·rw[if_neg e2,if_neg e2]
theorem lk_put {s:List (List Nat×α)}{p q:List Nat}{v:α}:lkS (putS s p v) q=if q=p then some v else lkS s q:=by
 unfold putS
 by_cases h:(s.any fun q=>q.1==p)=true
 ·rw[if_pos h];exact lk_map (any_mem.mp h)
 ·rw[if_neg h];exact lk_app (fun m=>h (any_mem.mpr m))
theorem lk_drop {s:List (List Nat×α)}{p q:List Nat}:lkS (dropS s p) q=if q=p then none else lkS s q:=by
 induction s with
 | nil=>simp[dropS,lkS]
 | cons r s ih =>
  unfold dropS at *
  rw[List.filter_cons]
  by_cases e:r.1=p
  ·rw[e]
   simp only[beq_self_eq_true,Bool.not_true,Bool.false_eq_true,if_false]
   rw[ih,lkS_cons]
   by_cases e2:q=p
   ·rw[if_pos e2,if_pos e2]
   ·rw[if_neg e2,if_neg e2,if_neg (by rw[e];exact Ne.symm e2)]
  ·have e':(r.1==p)=false:=beq_eq_false_iff_ne.mpr e
   simp only[e',Bool.not_false,if_true]
   rw[lkS_cons,lkS_cons,ih]
   by_cases e2:q=p
   ·rw[if_pos e2,if_neg (by rw[e2];exact e),if_pos e2]
   ·rw[if_neg e2,if_neg e2]
theorem put_len {s:List (List Nat×α)}{p:List Nat}{v:α}:(putS s p v).length≤s.length+1:=by
 unfold putS;split<;>simp
theorem drop_len {s:List (List Nat×α)}{p:List Nat}:(dropS s p).length≤s.length:=List.length_filter_le _ _
theorem put_keys {s:List (List Nat×α)}{p:List Nat}{v:α}:(putS s p v).map (·.1)=if p∈s.map (·.1) then s.map (·.1) else s.map (·.1)++[p]:=by
 unfold putS
 by_cases h:(s.any fun q=>q.1==p)=true
 ·rw[if_pos h,if_pos (any_mem.mp h),List.map_map]
  refine List.map_congr_left fun q _=>?_
  simp only[Function.comp]
  split<;>rfl
 ·rw[if_neg h,if_neg (fun m=>h (any_mem.mpr m))];simp
theorem put_nd {s:List (List Nat×α)}{p:List Nat}{v:α} (h:(s.map (·.1)).Nodup):((putS s p v).map (·.1)).Nodup:=by
 rw[put_keys]
 split
 ·exact h
 ·rename_i m
  rw[List.nodup_append]
  refine⟨h,by simp,fun a ha b hb=>?_⟩
  have:b=p:=by simpa using hb
  subst this
  intro e;subst e;exact m ha
theorem drop_nd {s:List (List Nat×α)}{p:List Nat} (h:(s.map (·.1)).Nodup):((dropS s p).map (·.1)).Nodup:=by
 unfold dropS
 exact List.Nodup.sublist (List.filter_sublist.map _) h
theorem put_mem {s:List (List Nat×α)}{p q:List Nat}{v:α} (h:q∈(putS s p v).map (·.1)):q=p∨q∈s.map (·.1):=by
 rw[put_keys] at h
 split at h
 ·exact .inr h
 ·rcases List.mem_append.mp h with h | h
  ·exact .inr h
  ·exact .inl (by simpa using h)
theorem lk_mem {s:List (List Nat×α)}{p:List Nat}{v:α} (h:lkS s p=some v):p∈s.map (·.1):=by
 by_cases m:p∈s.map (·.1)
 ·exact m
 ·rw[lkS_none.mpr m] at h;cases h
theorem lk_val {s:List (List Nat×α)}{p:List Nat}{v:α} (h:lkS s p=some v):∃ q∈s,q.2=v:=by
 unfold lkS at h
 cases e:s.find? (fun q=>q.1==p) with
 | none=>rw[e] at h;cases h
 | some q=>rw[e] at h;cases h;exact⟨q,List.mem_of_find?_eq_some e,rfl⟩
theorem put_all {P:α→Prop}{s:List (List Nat×α)}{p:List Nat}{v:α} (h:∀ q∈s,P q.2) (hv:P v):∀ q∈putS s p v,P q.2:=by
 intro q hq
 unfold putS at hq
 split at hq
 ·obtain⟨r,hr,e⟩:=List.mem_map.mp hq
  split at e
  ·rw[← e];exact hv
  ·rw[← e];exact h r hr
 ·rcases List.mem_append.mp hq with hq | hq
  ·exact h q hq
  ·have:q=(p,v):=by simpa using hq
   rw[this];exact hv
end
end K13
namespace K13
open MP PySem
open K10 (Rt okS)
structure Nb where
 k:Int
 s:List (List Nat×Rt)
 l:List (List Nat×Rt)
noncomputable abbrev Ch:=Int×Rt
noncomputable def Ch.d (c:Ch):D:=.tup [.int c.1,c.2.d,.int 100]
noncomputable def chD:Option Ch→D
 | none=>.non
 | some c=>Ch.d c
structure M where
 num:Int
 f1:Bool
 f4:Bool
 nb:List Nb
 own:List (List Nat×Unit)
 ch:List (List Nat×Ch)
 lo:List (List Nat×Unit)
noncomputable def tt:Unit→D:=fun _=>.bl true
noncomputable def insR (n:Int):O:=.ins "Router" [("number",.int n),("neighbours",.ref 1),("owned",.ref 2),("choices",.ref 3)]
noncomputable def insN (up:Bool) (i:Nat):O:=.ins "Neighbour" [("is_up",.bl up),("rules_in",.lst []),("rules_out",.lst []),("said",.ref (i+1)),("told",.ref (i+2))]
noncomputable def nbD:Nat→List Nb→List (D×D)
 | _,[]=>[]
 | i,b::r=>(.int b.k,.ref i)::nbD (i+4) r
noncomputable def lsD:Nat→List Nb→List (D×D)
 | _,[]=>[]
 | i,b::r=>(.int b.k,.ref (i+3))::lsD (i+4) r
noncomputable def blks:Nat→List Nb→List O
 | _,[]=>[]
 | i,b::r=>insN true i::.dct false (dS Rt.d b.s)::.dct false []::.dct false (dS Rt.d b.l)::blks (i+4) r
noncomputable def Hp (m:M) (t:List O):AH:=insR m.num::.dct m.f1 (nbD 6 m.nb)::.dct false (dS tt m.own)::.dct false (dS Ch.d m.ch)::.dct m.f4 (lsD 6 m.nb)::.dct false (dS tt m.lo)::(blks 6 m.nb++t)
theorem blks_len:∀ (i:Nat) (l:List Nb),(blks i l).length=4 * l.length
 | _,[]=>rfl
 | i,b::r=>by
  show (blks (i+4) r).length+4=_
  rw[blks_len (i+4) r]
  simp
  omega
theorem Hp_len (m:M) (t:List O):(Hp m t).length=6+4 * m.nb.length+t.length:=by
 show (blks 6 m.nb++t).length+6=_
 rw[List.length_append,blks_len]
 omega
theorem blks_get:∀ (i:Nat) (l:List Nb) (t:List O) (n:Nat) (b:Nb),l[n]?=some b →
  (blks i l++t)[4 * n]?=some (insN true (i+4 * n))∧(blks i l++t)[4 * n+1]?=some (.dct false (dS Rt.d b.s))∧(blks i l++t)[4 * n+2]?=some (.dct false [])∧(blks i l++t)[4 * n+3]?=some (.dct false (dS Rt.d b.l))
 | _,[],_,_,_,h=>by cases h
 | i,b::r,t,0,_,h=>by
  cases h
  exact⟨rfl,rfl,rfl,rfl⟩
 | i,b::r,t,n+1,b',h=>by
  have h:r[n]?=some b':=h
  have ih:=blks_get (i+4) r t n b' h
  have e:i+4+4 * n=i+4 * (n+1):=by omega
  rw[e] at ih
  exact ih
theorem Hp_get (m:M) (t:List O) {n:Nat}{b:Nb} (h:m.nb[n]?=some b) :
  (Hp m t)[6+4 * n]?=some (insN true (6+4 * n))∧(Hp m t)[6+4 * n+1]?=some (.dct false (dS Rt.d b.s))∧(Hp m t)[6+4 * n+3]?=some (.dct false (dS Rt.d b.l)):=by
 have g:=blks_get 6 m.nb t n b h
 have e:∀ j,(Hp m t)[6+j]?=(blks 6 m.nb++t)[j]?:=fun j=>by
  rw[Nat.add_comm]
  rfl
 refine⟨?_,?_,?_⟩
 ·rw[e];exact g.1
 ·rw[Nat.add_assoc,e];exact g.2.1
 ·rw[Nat.add_assoc,e];exact g.2.2.2
noncomputable def setS (l:List Nb) (n:Nat) (s:List (List Nat×Rt)):List Nb:=l.modify n fun b=>{ b with s:=s }
noncomputable def setL (l:List Nb) (n:Nat) (s:List (List Nat×Rt)):List Nb:=l.modify n fun b=>{ b with l:=s }
theorem blks_setS:∀ (i:Nat) (l:List Nb) (t:List O) (n:Nat) (s:List (List Nat×Rt)),n<l.length→(blks i l++t).set (4 * n+1) (.dct false (dS Rt.d s))=blks i (setS l n s)++t
 | _,[],_,_,_,h=>by simp at h
 | i,b::r,t,0,s,_=>rfl
 | i,b::r,t,n+1,s,h=>by
  have ih:=blks_setS (i+4) r t n s (by simpa using h)
  have e:4 * (n+1)+1=(4 * n+1)+4:=by omega
  rw[e]
  show _::_::_::_::((blks (i+4) r++t).set (4 * n+1) _)=_
  rw[ih]
  rfl
theorem blks_setL:∀ (i:Nat) (l:List Nb) (t:List O) (n:Nat) (s:List (List Nat×Rt)),n<l.length→(blks i l++t).set (4 * n+3) (.dct false (dS Rt.d s))=blks i (setL l n s)++t
 | _,[],_,_,_,h=>by simp at h
 | i,b::r,t,0,s,_=>rfl
 | i,b::r,t,n+1,s,h=>by
  have ih:=blks_setL (i+4) r t n s (by simpa using h)
  have e:4 * (n+1)+3=(4 * n+3)+4:=by omega
  rw[e]
  show _::_::_::_::((blks (i+4) r++t).set (4 * n+3) _)=_
  rw[ih]
  rfl
theorem nbD_setS:∀ (i:Nat) (l:List Nb) (n:Nat) (s:List (List Nat×Rt)),nbD i (setS l n s)=nbD i l∧lsD i (setS l n s)=lsD i l
 | _,[],n,_=>by unfold setS;simp
 | i,b::r,0,s=>⟨rfl,rfl⟩
 | i,b::r,n+1,s=>by
  have ih:=nbD_setS (i+4) r n s
  exact⟨congrArg (List.cons (D.int b.k,D.ref i)) ih.1,congrArg (List.cons (D.int b.k,D.ref (i+3))) ih.2⟩
theorem nbD_setL:∀ (i:Nat) (l:List Nb) (n:Nat) (s:List (List Nat×Rt)),nbD i (setL l n s)=nbD i l∧lsD i (setL l n s)=lsD i l
 | _,[],n,_=>by unfold setL;simp
 | i,b::r,0,s=>⟨rfl,rfl⟩
 | i,b::r,n+1,s=>by
  have ih:=nbD_setL (i+4) r n s
  exact⟨congrArg (List.cons (D.int b.k,D.ref i)) ih.1,congrArg (List.cons (D.int b.k,D.ref (i+3))) ih.2⟩
theorem Hp_setS {m:M}{t:List O}{n:Nat} (h:n<m.nb.length) (s:List (List Nat×Rt)):(Hp m t).set (6+4 * n+1) (.dct false (dS Rt.d s))=Hp { m with nb:=setS m.nb n s } t:=by
 have e:6+4 * n+1=(4 * n+1)+6:=by omega
 unfold Hp
 rw[e,(nbD_setS 6 m.nb n s).1,(nbD_setS 6 m.nb n s).2,← blks_setS 6 m.nb t n s h]
 rfl
theorem Hp_setL {m:M}{t:List O}{n:Nat} (h:n<m.nb.length) (s:List (List Nat×Rt)):(Hp m t).set (6+4 * n+3) (.dct false (dS Rt.d s))=Hp { m with nb:=setL m.nb n s } t:=by
 have e:6+4 * n+3=(4 * n+3)+6:=by omega
 unfold Hp
 rw[e,(nbD_setL 6 m.nb n s).1,(nbD_setL 6 m.nb n s).2,← blks_setL 6 m.nb t n s h]
 rfl
theorem eqK_int {a b:Int}:eqK (.int a) (.int b)=(a==b):=rfl
theorem nb_lk:∀ (i:Nat) (l:List Nb) (n:Nat) (b:Nb),(l.map (·.k)).Nodup→l[n]?=some b→lkD (nbD i l) (.int b.k)=some (.ref (i+4 * n))∧lkD (lsD i l) (.int b.k)=some (.ref (i+4 * n+3))
 | _,[],_,_,_,h=>by cases h
 | i,b::r,0,_,_,h=>by
  cases h
  unfold lkD nbD lsD
  simp[eqK_int]
 | i,b::r,n+1,b',nd,h=>by
  have h:r[n]?=some b':=h
  rw[List.map_cons,List.nodup_cons] at nd
  have ne:b.k≠b'.k:=fun e=>nd.1 (e▸List.mem_map_of_mem (List.mem_of_getElem? h))
  have ih:=nb_lk (i+4) r n b' nd.2 h
  have e:i+4+4 * n=i+4 * (n+1):=by omega
  rw[e] at ih
  refine⟨?_,?_⟩
  ·rw[← ih.1]
   unfold lkD
   rw[nbD,List.find?_cons,eqK_int,beq_eq_false_iff_ne.mpr ne]
  ·rw[← ih.2]
   unfold lkD
   rw[lsD,List.find?_cons,eqK_int,beq_eq_false_iff_ne.mpr ne]
theorem nb_lkN:∀ (i:Nat) (l:List Nb) (k:Int),k ∉ l.map (·.k)→lkD (nbD i l) (.int k)=none∧lkD (lsD i l) (.int k)=none
 | _,[],_,_=>⟨rfl,rfl⟩
 | i,b::r,k,h=>by
  rw[List.map_cons,List.mem_cons,not_or] at h
  have ih:=nb_lkN (i+4) r k h.2
  refine⟨?_,?_⟩
  ·rw[← ih.1]
   unfold lkD
   rw[nbD,List.find?_cons,eqK_int,beq_eq_false_iff_ne.mpr (Ne.symm h.1)]
  ·rw[← ih.2]
   unfold lkD
   rw[lsD,List.find?_cons,eqK_int,beq_eq_false_iff_ne.mpr (Ne.symm h.1)]
theorem nb_keys:∀ (i:Nat) (l:List Nb),(nbD i l).map (·.1)=(l.map (·.k)).map D.int∧(lsD i l).map (·.1)=(l.map (·.k)).map D.int
 | _,[]=>⟨rfl,rfl⟩
 | i,b::r=>by
  have ih:=nb_keys (i+4) r
  exact⟨congrArg (List.cons (D.int b.k)) ih.1,congrArg (List.cons (D.int b.k)) ih.2⟩
theorem nbD_len (i:Nat) (l:List Nb):(nbD i l).length=l.length∧(lsD i l).length=l.length:=by
 have:=nb_keys i l
 have h1:=congrArg List.length this.1
 have h2:=congrArg List.length this.2
 simp at h1 h2
 exact⟨h1,h2⟩
theorem nbD_app:∀ (i:Nat) (l:List Nb) (b:Nb),nbD i (l++[b])=nbD i l++[(.int b.k,.ref (i+4 * l.length))]∧lsD i (l++[b])=lsD i l++[(.int b.k,.ref (i+4 * l.length+3))]∧blks i (l++[b])=blks i l++blks (i+4 * l.length) [b]
 | i,[],b=>⟨rfl,rfl,rfl⟩
 | i,c::r,b=>by
  have ih:=nbD_app (i+4) r b
  have e:i+4+4 * r.length=i+4 * (c::r).length:=by simp;omega
  rw[e] at ih
  refine⟨congrArg (List.cons (D.int c.k,D.ref i)) ih.1,congrArg (List.cons (D.int c.k,D.ref (i+3))) ih.2.1,?_⟩
  show _::_::_::_::blks (i+4) (r++[b])=_
  rw[ih.2.2]
  rfl
end K13
namespace K13
open MP PySem
open K10 (Rt okS)
noncomputable def flR (n:Int):List (Str×D):=[("number",.int n),("neighbours",.ref 1),("owned",.ref 2),("choices",.ref 3)]
noncomputable def flN (up:Bool) (i:Nat):List (Str×D):=[("is_up",.bl up),("rules_in",.lst []),("rules_out",.lst []),("said",.ref (i+1)),("told",.ref (i+2))]
theorem insAtR {h:AH}{n:Int} (e:h[0]?=some (insR n)):insAt h "Router" (.ref 0)=some (0,flR n):=by
 show (match h[0]? with | some (.ins c' fs)=>if c'="Router" then some (0,fs) else none | _=>none)=_
 rw[e]
 exact if_pos rfl
theorem insAtN {h:AH}{up:Bool}{i a:Nat} (e:h[a]?=some (insN up i)):insAt h "Neighbour" (.ref a)=some (a,flN up i):=by
 show (match h[a]? with | some (.ins c' fs)=>if c'="Neighbour" then some (a,fs) else none | _=>none)=_
 rw[e]
 exact if_pos rfl
theorem dctAt_of {h:AH}{a:Nat}{f:Bool}{d:List (D×D)} (e:h[a]?=some (.dct f d)):dctAt h (.ref a)=some (a,d):=by
 show (match h[a]? with | some (.dct _ kvs)=>some (a,kvs) | _=>none)=_
 rw[e]
theorem dctW_of {h:AH}{a:Nat}{d:List (D×D)} (e:h[a]?=some (.dct false d)):dctW h (.ref a)=some (a,d):=by
 show (match h[a]? with | some (.dct false kvs)=>some (a,kvs) | _=>none)=_
 rw[e]
section
variable {G:List Den}{ρ:Ev}{h:AH}{j a i:Nat}{n:Int}{up:Bool}
theorem fR_num (g:getV ρ j=some (.ref 0)) (e:h[0]?=some (insR n)):ev G (.fld "Router" (.var j) "number") ρ h=some (.int n,h):=by
 rw[ev,ev_var,g];simp only[Option.bind_some];rw[insAtR e];rfl
theorem fR_nb (g:getV ρ j=some (.ref 0)) (e:h[0]?=some (insR n)):ev G (.fld "Router" (.var j) "neighbours") ρ h=some (.ref 1,h):=by
 rw[ev,ev_var,g];simp only[Option.bind_some];rw[insAtR e];rfl
theorem fR_own (g:getV ρ j=some (.ref 0)) (e:h[0]?=some (insR n)):ev G (.fld "Router" (.var j) "owned") ρ h=some (.ref 2,h):=by
 rw[ev,ev_var,g];simp only[Option.bind_some];rw[insAtR e];rfl
theorem fR_ch (g:getV ρ j=some (.ref 0)) (e:h[0]?=some (insR n)):ev G (.fld "Router" (.var j) "choices") ρ h=some (.ref 3,h):=by
 rw[ev,ev_var,g];simp only[Option.bind_some];rw[insAtR e];rfl
theorem fN_up (g:getV ρ j=some (.ref a)) (e:h[a]?=some (insN up i)):ev G (.fld "Neighbour" (.var j) "is_up") ρ h=some (.bl up,h):=by
 rw[ev,ev_var,g];simp only[Option.bind_some];rw[insAtN e];rfl
theorem fN_in (g:getV ρ j=some (.ref a)) (e:h[a]?=some (insN up i)):ev G (.fld "Neighbour" (.var j) "rules_in") ρ h=some (.lst [],h):=by
 rw[ev,ev_var,g];simp only[Option.bind_some];rw[insAtN e];rfl
theorem fN_said (g:getV ρ j=some (.ref a)) (e:h[a]?=some (insN up i)):ev G (.fld "Neighbour" (.var j) "said") ρ h=some (.ref (i+1),h):=by
 rw[ev,ev_var,g];simp only[Option.bind_some];rw[insAtN e];rfl
theorem evR_m {mt:Str}{xs:List PX}{ds:List D}{h':AH}{φ:Den} (hm:∀ n,((flR n).lookup mt).isNone=true) (g:getV ρ j=some (.ref 0)) (e:h[0]?=some (insR n)) (hx:evs G xs ρ h=some (ds,h')) (hG:G[i]?=some φ):evR G (.mcall i "Router" mt (.var j) xs) ρ h=φ (.ref 0::ds) h':=by
 simp only[evR,ev_var,g,Option.bind_some,insAtR e,hx,hG,hm n,if_true]
theorem ev_m {mt:Str}{xs:List PX}{ds:List D}{h' h'':AH}{φ:Den}{d:D} (hm:∀ n,((flR n).lookup mt).isNone=true) (g:getV ρ j=some (.ref 0)) (e:h[0]?=some (insR n)) (hx:evs G xs ρ h=some (ds,h')) (hG:G[i]?=some φ) (hr:φ (.ref 0::ds) h'=.ok d h''):ev G (.mcall i "Router" mt (.var j) xs) ρ h=some (d,h''):=by
 rw[ev,ev_var,g]
 simp only[Option.bind_some]
 rw[insAtR e]
 simp only[Option.bind_some]
 rw[if_pos (hm n),hx]
 simp only[Option.bind_some]
 rw[hG]
 simp only[Option.bind_some]
 rw[hr]
theorem ev_din {g:Bool}{k o:PX}{d:D}{f:Bool}{kvs:List (D×D)} (ek:ev G k ρ h=some (d,h)) (eo:ev G o ρ h=some (.ref a,h)) (e:h[a]?=some (.dct f kvs)) (hk:isK d=true):ev G (.din g k o) ρ h=some (.bl (xor g (lkD kvs d).isSome),h):=by
 rw[ev,ek]
 simp only[Option.bind_some]
 rw[eo]
 simp only[Option.bind_some]
 rw[dctAt_of e]
 simp only[Option.bind_some]
 rw[if_pos hk]
theorem ev_dget {k o:PX}{d r:D}{f:Bool}{kvs:List (D×D)} (eo:ev G o ρ h=some (.ref a,h)) (ek:ev G k ρ h=some (d,h)) (e:h[a]?=some (.dct f kvs)) (hk:isK d=true) (hl:lkD kvs d=some r):ev G (.dget o k) ρ h=some (r,h):=by
 rw[ev,eo]
 simp only[Option.bind_some]
 rw[ek]
 simp only[Option.bind_some]
 rw[dctAt_of e]
 simp only[Option.bind_some]
 rw[if_pos hk,hl]
 rfl
theorem ev_dgetN {k o:PX}{d:D}{f:Bool}{kvs:List (D×D)} (eo:ev G o ρ h=some (.ref a,h)) (ek:ev G k ρ h=some (d,h)) (e:h[a]?=some (.dct f kvs)) (hk:isK d=true):ev G (.dgetN o k) ρ h=some ((lkD kvs d).getD .non,h):=by
 rw[ev,eo]
 simp only[Option.bind_some]
 rw[dctAt_of e]
 simp only[Option.bind_some]
 rw[ek]
 simp only[Option.bind_some]
 rw[dctAt_of e]
 simp only[Option.bind_some]
 rw[if_pos hk]
theorem exS_dput {o k v:PX}{d x:D}{kvs:List (D×D)} (ev1:ev G v ρ h=some (x,h)) (eo:ev G o ρ h=some (.ref a,h)) (ek:ev G k ρ h=some (d,h)) (e:h[a]?=some (.dct false kvs)) (hk:isK d=true) (hl:kvs.length<SZ):exS G (.dput o k v) ρ h=.nx ρ (h.set a (.dct false (putD kvs d x))):=by
 rw[exS,evR_ev ev1]
 simp only
 rw[eo]
 simp only
 rw[ek]
 simp only
 rw[dctW_of e]
 simp only
 rw[if_pos ⟨hk,hl⟩]
theorem ev_dpopN {k o:PX}{d:D}{kvs:List (D×D)} (eo:ev G o ρ h=some (.ref a,h)) (ek:ev G k ρ h=some (d,h)) (e:h[a]?=some (.dct false kvs)) (hk:isK d=true):ev G (.dpopN o k) ρ h=(match lkD kvs d with
   | some r=>some (r,h.set a (.dct false (dropD kvs d)))
   | none=>some (.non,h)):=by
 rw[ev,eo]
 simp only[Option.bind_some]
 rw[dctAt_of e]
 simp only[Option.bind_some]
 rw[ek]
 simp only[Option.bind_some]
 rw[dctW_of e]
 simp only[Option.bind_some]
 rw[if_pos hk]
 all_goals (cases lkD kvs d<;>rfl)
end
theorem cut_nx {G:List Den}{np n:Nat}{b:List PSt}{args:List D}{h h':AH}{ρ':Ev} (hl:args.length=np) (e:exSs G b (startE n args) h=.nx ρ' h') (hh:h'.take h.length=h→h'=h):cutDen (runF G np n b) args h=.ok .non h':=by
 have er:runF G np n b args h=.ok .non h':=by unfold runF;rw[if_pos hl,e]
 by_cases q:h'.take h.length=h
 ·have:=hh q
  subst this
  exact cutDen_same er
 ·unfold cutDen
  rw[er]
  exact if_neg fun z=>q z.2
theorem take_len {h h':AH} (e:h'.length=h.length):h'.take h.length=h→h'=h:=fun q=>by
 rw[← e,List.take_length] at q
 exact q
section
variable {G:List Den}
def PNeedS (f:Den):Prop:=∀ (h:AH) (n k:Int),h[0]?=some (insR n)→k≠n→1≤k→k≤999→f [.ref 0,.int k] h=.ok .non h
theorem needS_ok:PNeedS (cutDen (runF G 2 2 p_Router_need_stranger)):=by
 intro h n k e hne h1 h2
 refine run_nx (ρ':=startE 2 [.ref 0,.int k]) rfl ?_
 have g0:getV (startE 2 [.ref 0,.int k]) 0=some (.ref 0):=rfl
 have g1:getV (startE 2 [.ref 0,.int k]) 1=some (.int k):=rfl
 have t1:evB G (.or (.val (.cmp .Eq (.var 1) (.fld "Router" (.var 0) "number"))) (.not (.val (.cmp2 .LtE .LtE (.con (.int 1)) (.var 1) (.con (.int 999)))))) (startE 2 [.ref 0,.int k]) h=some (false,h):=by
  have e1:ev G (.cmp .Eq (.var 1) (.fld "Router" (.var 0) "number")) (startE 2 [.ref 0,.int k]) h=some (.bl false,h):=by
   rw[ev,ev_var,g1]
   simp only[Option.bind_some]
   rw[fR_num g0 e]
   simp[hne]
  have e2:ev G (.cmp2 .LtE .LtE (.con (.int 1)) (.var 1) (.con (.int 999))) (startE 2 [.ref 0,.int k]) h=some (.bl true,h):=by
   rw[ev]
   simp[g1,h1,h2]
  simp[evB,e1,e2]
 unfold p_Router_need_stranger
 rw[exSs,exS,t1]
 simp[exSs]
def PHas (f:Den):Prop:=∀ (h:AH) (n k:Int) (f1:Bool) (d1:List (D×D)),h[0]?=some (insR n)→h[1]?=some (.dct f1 d1)→f [.ref 0,.int k] h=.ok (.bl (lkD d1 (.int k)).isSome) h
theorem has_ok:PHas (cutDen (runF G 2 2 p_Router_has_neighbour)):=by
 intro h n k f1 d1 e e1
 refine run_rt rfl ?_
 unfold p_Router_has_neighbour
 have:=ev_din (G:=G) (ρ:=startE 2 [.ref 0,.int k]) (g:=false) (k:=.var 1) (d:=.int k) (by simp[startE]) (fR_nb (j:=0) rfl e) e1 rfl
 rw[exSs_rt]
 rw[exS,evR_ev this]
 simp
def PNeedN (f:Den):Prop:=∀ (h:AH) (n k:Int) (f1:Bool) (d1:List (D×D)) (r:D),h[0]?=some (insR n)→h[1]?=some (.dct f1 d1)→lkD d1 (.int k)=some r→f [.ref 0,.int k] h=.ok r h
theorem needN_ok:PNeedN (cutDen (runF G 2 2 p_Router_need_neighbour)):=by
 intro h n k f1 d1 r e e1 hl
 refine run_rt rfl ?_
 unfold p_Router_need_neighbour
 have t1:=ev_din (G:=G) (ρ:=startE 2 [.ref 0,.int k]) (g:=true) (k:=.var 1) (d:=.int k) (by simp[startE]) (fR_nb (j:=0) rfl e) e1 rfl
 have t2:=ev_dget (G:=G) (ρ:=startE 2 [.ref 0,.int k]) (k:=.var 1) (d:=.int k) (r:=r) (fR_nb (j:=0) rfl e) (by simp[startE]) e1 rfl hl
 rw[hl] at t1
 rw[exSs_nx (ρ':=startE 2 [.ref 0,.int k]) (h':=h)]
 ·rw[exSs_rt]
  rw[exS,evR_ev t2]
 ·rw[exS]
  simp only[evB,t1,Option.bind_some]
  simp[exSs]
def PNeedU (f:Den):Prop:=∀ (h:AH) (n k:Int) (f1:Bool) (d1:List (D×D)) (a i:Nat),h[0]?=some (insR n)→h[1]?=some (.dct f1 d1)→lkD d1 (.int k)=some (.ref a)→h[a]?=some (insN true i)→f [.ref 0,.int k] h=.ok (.ref a) h
theorem needU_ok {φ:Den} (hG:G[10]?=some φ) (hφ:PNeedN φ):PNeedU (cutDen (runF G 2 3 p_Router_need_up)):=by
 intro h n k f1 d1 a i e e1 hl ea
 refine run_rt rfl ?_
 unfold p_Router_need_up
 rw[exSs_nx (ρ':=[some (.ref 0),some (.int k),some (.ref a)]) (h':=h)]
 ·rw[exSs_nx (ρ':=[some (.ref 0),some (.int k),some (.ref a)]) (h':=h)]
  ·rw[exSs_rt]
   rw[exS,evR_ev (d:=.ref a) (h':=h) (by simp)]
  ·rw[exS]
   have:=fN_up (G:=G) (ρ:=[some (.ref 0),some (.int k),some (.ref a)]) (j:=2) rfl ea
   simp only[evB,this,Option.bind_some,tru_bl]
   simp[exSs]
 ·rw[exS,evR_m (ds:=[.int k]) (h':=h) (by intro n;rfl) rfl e (by simp[evs,startE]) hG,hφ h n k f1 d1 _ e e1 hl]
  rfl
def PBest (f:Den):Prop:=∀ (h:AH) (n:Int) (f3:Bool) (d3:List (D×D)) (p:List Nat),h[0]?=some (insR n)→h[3]?=some (.dct f3 d3)→f [.ref 0,.str p] h=.ok ((lkD d3 (.str p)).getD .non) h
theorem best_ok:PBest (cutDen (runF G 2 2 p_Router_best)):=by
 intro h n f3 d3 p e e3
 refine run_rt rfl ?_
 unfold p_Router_best
 have t:=ev_dgetN (G:=G) (ρ:=startE 2 [.ref 0,.str p]) (k:=.var 1) (d:=.str p) (fR_ch (j:=0) rfl e) (by simp[startE]) e3 rfl
 rw[exSs_rt]
 rw[exS,evR_ev t]
def PChosen (f:Den):Prop:=∀ (h:AH) (n:Int) (f3:Bool) (d3:List (D×D)) (d:D),h[0]?=some (insR n)→h[3]?=some (.dct f3 d3)→srtK (d3.map (·.1))=some d→f [.ref 0] h=.ok d h
theorem chosen_ok:PChosen (cutDen (runF G 1 1 p_Router_chosen)):=by
 intro h n f3 d3 d e e3 hs
 refine run_rt rfl ?_
 unfold p_Router_chosen
 have t:ev G (.dsrt (.fld "Router" (.var 0) "choices")) (startE 1 [.ref 0]) h=some (d,h):=by
  rw[ev,fR_ch (j:=0) rfl e]
  simp only[Option.bind_some]
  rw[dctAt_of e3]
  simp only[Option.bind_some]
  rw[hs]
  rfl
 rw[exSs_rt]
 rw[exS,evR_ev t]
def PJudged (f:Den):Prop:=∀ (h:AH) (d:D),f [.lst [],d] h=.ok (.tup [d,.int 100,.int 0]) h
theorem judged_ok:PJudged (cutDen (runF G 2 7 p_judged)):=by
 intro h d
 refine run_rt rfl ?_
 unfold p_judged
 have sz:(3:Nat)≤SZ:=by decide
 simp[exSs,exS,evR,ev,evs,evI,startE,setT,itD,sz]
end
end K13
namespace K13
open MP PySem
open K10 (Rt okS)
section
variable {G:List Den}
theorem exS_fset {ρ:Ev}{h h1:AH}{c f:Str}{j a:Nat}{x:PX}{d:D}{fs:List (Str×D)} (ex:ev G x ρ h=some (d,h1)) (g:getV ρ j=some (.ref a)) (e:insAt h1 c (.ref a)=some (a,fs)) (hl:fs.length<1000):exS G (.fset c (.var j) f x) ρ h=.nx ρ (h1.set a (.ins c (putN f d fs))):=by
 rw[exS,evR_ev ex]
 simp only
 rw[ev_var,g]
 simp only[Option.bind_some]
 rw[e]
 simp only
 rw[if_pos hl]
theorem insAt_of {h:AH}{c:Str}{a:Nat}{fs:List (Str×D)} (e:h[a]?=some (.ins c fs)):insAt h c (.ref a)=some (a,fs):=by
 show (match h[a]? with | some (.ins c' fs)=>if c'=c then some (a,fs) else none | _=>none)=_
 rw[e]
 exact if_pos rfl
def PInitR (f:Den):Prop:=∀ n:Int,f [.ref 0,.int n] [.ins "Router" []]=.ok .non [insR n,.dct false [],.dct false [],.dct false []]
theorem initR_ok:PInitR (cutDen (runF G 2 2 p_Router___init__)):=by
 intro n
 refine cut_nx (ρ':=startE 2 [.ref 0,.int n]) rfl ?_ (fun q=>by cases q)
 unfold p_Router___init__
 rw[exSs_nx (exS_fset (a:=0) (d:=.int n) (h1:=[.ins "Router" []]) (by simp[startE]) rfl (insAt_of rfl) (by decide))]
 rw[exSs_nx (exS_fset (a:=0) (d:=.ref 1) (h1:=[.ins "Router" [("number",.int n)],.dct false []]) (by rw[ev];rfl) rfl (insAt_of rfl) (by simp))]
 rw[exSs_nx (exS_fset (a:=0) (d:=.ref 2) (h1:=[.ins "Router" [("number",.int n),("neighbours",.ref 1)],.dct false [],.dct false []]) (by rw[ev];rfl) rfl (insAt_of rfl) (by simp))]
 rw[exSs_nx (exS_fset (a:=0) (d:=.ref 3) (h1:=[.ins "Router" [("number",.int n),("neighbours",.ref 1),("owned",.ref 2)],.dct false [],.dct false [],.dct false []]) (by rw[ev];rfl) rfl (insAt_of rfl) (by simp))]
 rw[exSs]
 rfl
def PInitN (f:Den):Prop:=∀ h:AH,f [.ref h.length] (h++[.ins "Neighbour" []])=.ok .non (h++[insN false h.length,.dct false [],.dct false []])
theorem get_app (h:AH) (x:O) (t:List O):(h++x::t)[h.length]?=some x:=by simp
theorem set_app (h:AH) (x y:O) (t:List O):(h++x::t).set h.length y=h++y::t:=by simp
theorem initN_ok:PInitN (cutDen (runF G 1 1 p_Neighbour___init__)):=by
 intro h
 refine cut_nx (ρ':=startE 1 [.ref h.length]) rfl ?_ (fun q=>?_)
 ·unfold p_Neighbour___init__
  rw[exSs_nx (exS_fset (a:=h.length) (d:=.bl false) (h1:=h++[.ins "Neighbour" []]) (by simp) rfl (insAt_of (get_app h _ [])) (by decide)),set_app]
  rw[exSs_nx (exS_fset (a:=h.length) (d:=.lst []) (h1:=h++[.ins "Neighbour" [("is_up",.bl false)]]) (by simp[ev,evs,putN]) rfl (insAt_of (get_app h _ [])) (by simp)),set_app]
  rw[exSs_nx (exS_fset (a:=h.length) (d:=.lst []) (h1:=h++[.ins "Neighbour" [("is_up",.bl false),("rules_in",.lst [])]]) (by simp only[ev,evs,Option.bind_some];rfl) rfl (insAt_of (get_app h _ [])) (by simp)),set_app]
  rw[exSs_nx (exS_fset (a:=h.length) (d:=.ref (h.length+1)) (h1:=h++[.ins "Neighbour" [("is_up",.bl false),("rules_in",.lst []),("rules_out",.lst [])],.dct false []]) (by rw[ev];simp;rfl) rfl (insAt_of (get_app h _ _)) (by simp)),set_app]
  rw[exSs_nx (exS_fset (a:=h.length) (d:=.ref (h.length+2)) (h1:=h++[.ins "Neighbour" [("is_up",.bl false),("rules_in",.lst []),("rules_out",.lst []),("said",.ref (h.length+1))],.dct false [],.dct false []]) (by rw[ev];simp;rfl) rfl (insAt_of (get_app h _ _)) (by simp)),set_app]
  rw[exSs]
  rfl
 ·have e:=congrArg (·[h.length]?) q
  simp at e
  unfold insN at e
  cases e
noncomputable def HA (m:M) (up:Bool) (k:Int):AH:=insR m.num::.dct m.f1 (nbD 6 m.nb++[(.int k,.ref (6+4 * m.nb.length))])::.dct false (dS tt m.own)::.dct false (dS Ch.d m.ch)::.dct m.f4 (lsD 6 m.nb)::.dct false (dS tt m.lo)::(blks 6 m.nb++[insN up (6+4 * m.nb.length),.dct false [],.dct false []])
def PAdd (f:Den):Prop:=∀ (m:M) (k:Int),m.f1=false→k≠m.num→1≤k→k≤999→k ∉ m.nb.map (·.k)→m.nb.length≤1000→f [.ref 0,.int k] (Hp m [])=.ok .non (HA m false k)
theorem add_ok {φs φh φi:Den} (h9:G[9]?=some φs) (s9:PNeedS φs) (h12:G[12]?=some φh) (s12:PHas φh) (h7:G[7]?=some φi) (s7:PInitN φi):PAdd (cutDen (runF G 2 2 p_Router_add)):=by
 intro m k hf hne h1 h2 hk hlen
 have lk:=(nb_lkN 6 m.nb k hk).1
 refine cut_nx (ρ':=startE 2 [.ref 0,.int k]) rfl ?_ (fun q=>?_)
 ·unfold p_Router_add
  rw[exSs_nx (ρ':=startE 2 [.ref 0,.int k]) (h':=Hp m [])]
  rotate_left
  ·rw[exS,evR_m (ds:=[.int k]) (h':=Hp m []) (n:=m.num) (by intro n;rfl) rfl rfl (by simp[evs,startE]) h9,s9 _ m.num k rfl hne h1 h2]
  rw[exSs_nx (ρ':=startE 2 [.ref 0,.int k]) (h':=Hp m [])]
  rotate_left
  ·have t:=ev_m (G:=G) (ρ:=startE 2 [.ref 0,.int k]) (h:=Hp m []) (j:=0) (i:=12) (mt:="has_neighbour") (xs:=[.var 1]) (ds:=[.int k]) (h':=Hp m []) (n:=m.num) (by intro n;rfl) rfl rfl (by simp[evs,startE]) h12 (s12 _ m.num k _ _ rfl rfl)
   rw[lk] at t
   rw[exS]
   simp only[evB,t,Option.bind_some,tru_bl]
   simp[exSs]
  have hm:ev G (.make 7 "Neighbour" []) (startE 2 [.ref 0,.int k]) (Hp m [])=some (.ref (Hp m []).length,Hp m []++[insN false (Hp m []).length,.dct false [],.dct false []]):=by
   rw[ev]
   simp only[evs,Option.bind_some]
   rw[h7]
   simp only[Option.bind_some]
   rw[s7 (Hp m [])]
  have l0:(Hp m []).length=6+4 * m.nb.length:=by rw[Hp_len];rfl
  rw[l0] at hm
  have e2:Hp m []++[insN false (6+4 * m.nb.length),.dct false [],.dct false []]=Hp m [insN false (6+4 * m.nb.length),.dct false [],.dct false []]:=by
   unfold Hp;simp
  rw[e2] at hm
  rw[exSs_nx (ρ':=startE 2 [.ref 0,.int k]) (h':=HA m false k)]
  ·rw[exSs]
  ·rw[exS,evR_ev hm]
   simp only
   rw[fR_nb (n:=m.num) rfl rfl]
   simp only
   rw[ev_var]
   simp only[startE,List.map_cons,getV_succ,getV_zero,List.map_nil,List.cons_append,Option.bind_some]
   rw[dctW_of (d:=nbD 6 m.nb) (by show some (O.dct m.f1 (nbD 6 m.nb))=_;rw[hf])]
   simp only
   rw[if_pos ⟨rfl,by rw[(nbD_len 6 m.nb).1];show _<16777216;omega⟩]
   have ep:putD (nbD 6 m.nb) (.int k) (.ref (6+4 * m.nb.length))=nbD 6 m.nb++[(.int k,.ref (6+4 * m.nb.length))]:=by
    unfold putD
    rw[if_neg]
    intro z
    have:(nbD 6 m.nb).find? (fun p=>eqK p.1 (.int k))=none:=by
     unfold lkD at lk
     cases q:(nbD 6 m.nb).find? (fun p=>eqK p.1 (.int k)) with
     | none=>rfl
     | some v=>rw[q] at lk;cases lk
    obtain⟨x,hx,e⟩:=List.any_eq_true.mp z
    exact List.find?_eq_none.mp this x hx e
   rw[ep]
   unfold HA
   rw[hf]
   rfl
 ·have e:=congrArg (·[1]?) q
  have e:(HA m false k)[1]?=(Hp m [])[1]?:=by
   rw[← e]
   rw[List.getElem?_take_of_lt (by rw[Hp_len];omega)]
  have e:some (O.dct m.f1 (nbD 6 m.nb++[(.int k,.ref (6+4 * m.nb.length))]))=some (O.dct m.f1 (nbD 6 m.nb)):=e
  have e:=O.dct.inj (Option.some.inj e)
  have:=congrArg List.length e.2
  simp at this
def PUp (f:Den):Prop:=∀ (m:M) (k:Int),k ∉ m.nb.map (·.k)→f [.ref 0,.int k] (HA m false k)=.ok .non (HA m true k)
theorem up_ok {φ:Den} (hG:G[10]?=some φ) (hφ:PNeedN φ):PUp (cutDen (runF G 2 3 p_Router_up)):=by
 intro m k hk
 have lk:lkD (nbD 6 m.nb++[(.int k,.ref (6+4 * m.nb.length))]) (.int k)=some (.ref (6+4 * m.nb.length)):=by
  have:=(nb_lkN 6 m.nb k hk).1
  unfold lkD at this ⊢
  rw[List.find?_append]
  cases q:(nbD 6 m.nb).find? (fun p=>eqK p.1 (.int k)) with
  | none=>simp[eqK_int]
  | some v=>rw[q] at this;cases this
 have gl:(HA m false k)[6+4 * m.nb.length]?=some (insN false (6+4 * m.nb.length)):=by
  refine (congrArg (fun i=>(HA m false k)[i]?) (Nat.add_comm 6 (4 * m.nb.length))).trans ?_
  show (blks 6 m.nb++_)[4 * m.nb.length]?=_
  have:=get_app (blks 6 m.nb) (insN false (6+4 * m.nb.length)) [.dct false [],.dct false []]
  rw[blks_len] at this
  exact this
 refine cut_nx (ρ':=[some (.ref 0),some (.int k),some (.ref (6+4 * m.nb.length))]) rfl ?_ (take_len ?_)
 ·unfold p_Router_up
  rw[exSs_nx (ρ':=[some (.ref 0),some (.int k),some (.ref (6+4 * m.nb.length))]) (h':=HA m false k)]
  rotate_left
  ·rw[exS,evR_m (ds:=[.int k]) (h':=HA m false k) (n:=m.num) (by intro n;rfl) rfl rfl (by simp[evs,startE]) hG,hφ _ m.num k _ _ _ rfl rfl lk]
   rfl
  rw[exSs_nx (exS_fset (a:=6+4 * m.nb.length) (d:=.bl true) (h1:=HA m false k) (by simp) rfl (insAtN gl) (by show 5<1000;decide))]
  rw[exSs]
  have:(HA m false k).set (6+4 * m.nb.length) (.ins "Neighbour" (putN "is_up" (.bl true) (flN false (6+4 * m.nb.length))))=HA m true k:=by
   refine (congrArg (fun i=>(HA m false k).set i (.ins "Neighbour" (putN "is_up" (.bl true) (flN false (6+4 * m.nb.length))))) (Nat.add_comm 6 (4 * m.nb.length))).trans ?_
   have:=set_app (blks 6 m.nb) (insN false (6+4 * m.nb.length)) (insN true (6+4 * m.nb.length)) [.dct false [],.dct false []]
   rw[blks_len] at this
   exact congrArg (fun l=>insR m.num::O.dct m.f1 (nbD 6 m.nb++[(.int k,.ref (6+4 * m.nb.length))])::O.dct false (dS tt m.own)::O.dct false (dS Ch.d m.ch)::O.dct m.f4 (lsD 6 m.nb)::O.dct false (dS tt m.lo)::l) this
  rw[this]
 ·unfold HA;simp
theorem HA_new (m:M) (k:Int) (hf:m.f4=false) (hk:k ∉ m.nb.map (·.k)):(HA m true k++[O.dct false []]).set 4 (O.dct false (putD (lsD 6 m.nb) (.int k) (.ref (HA m true k).length)))=Hp { m with nb:=m.nb++[⟨k,[],[]⟩] } []:=by
 have lk:=(nb_lkN 6 m.nb k hk).2
 have ep:putD (lsD 6 m.nb) (.int k) (.ref (HA m true k).length)=lsD 6 m.nb++[(.int k,.ref (6+4 * m.nb.length+3))]:=by
  unfold putD
  rw[if_neg]
  ·have:(HA m true k).length=6+4 * m.nb.length+3:=by unfold HA;simp[blks_len];omega
   rw[this]
  ·intro z
   have:(lsD 6 m.nb).find? (fun p=>eqK p.1 (.int k))=none:=by
    unfold lkD at lk
    cases q:(lsD 6 m.nb).find? (fun p=>eqK p.1 (.int k)) with
    | none=>rfl
    | some v=>rw[q] at lk;cases lk
   obtain⟨x,hx,e⟩:=List.any_eq_true.mp z
   exact List.find?_eq_none.mp this x hx e
 have ap:=nbD_app 6 m.nb ⟨k,[],[]⟩
 rw[ep]
 unfold Hp
 simp only
 rw[ap.1,ap.2.1,ap.2.2,hf]
 unfold HA
 show _::_::_::_::_::_::(blks 6 m.nb++[insN true (6+4 * m.nb.length),.dct false [],.dct false []]++[.dct false []])=_
 simp[blks,dS]
end
end K13
namespace K13
open MP PySem
open K10 (Rt okS)
noncomputable def rk (c:Ch):List Int:=[-100,(c.2.path.length:Int),c.2.w,c.1]
noncomputable def cnt (n:Int) (p:List Nat) (b:Nb):Option Ch:=(lkS b.s p).bind fun r=>if r.path.contains n=true then none else some (b.k,r)
noncomputable def goC:List Ch→Ch→Ch
 | [],b=>b
 | x::r,b=>if ltL (rk x) (rk b)=true then goC r x else goC r b
noncomputable def minC:List Ch→Option Ch
 | []=>none
 | x::r=>some (goC r x)
noncomputable def ownC (p:List Nat):Ch:=(0,⟨p,[],0,[]⟩)
noncomputable def chM (m:M) (p:List Nat):Option Ch:=if (lkS m.own p).isSome=true then some (ownC p) else minC (m.nb.filterMap (cnt m.num p))
section
variable {G:List Den}
def PRank (f:Den):Prop:=∀ (h:AH) (c:Ch),f [Ch.d c] h=.ok (.tup ((rk c).map .int)) h
theorem rank_ok:PRank (cutDen (runF G 1 2 p_rank)):=by
 intro h c
 refine run_rt rfl ?_
 unfold p_rank
 have sz:(4:Nat)≤SZ:=by decide
 simp[exSs,exS,evR,ev,evs,startE,setT,Ch.d,Rt.d,idxD,atI,ixN,bltD,rk,sz]
theorem keyO_rank {φ:Den} (hφ:PRank φ) (h:AH) (c:Ch):keyO φ h (Ch.d c)=some (rk c):=by
 unfold keyO
 rw[hφ h c]
 refine (if_pos rfl).trans ?_
 rfl
theorem minGo_rank {φ:Den} (hφ:PRank φ) (h:AH):∀ (l:List Ch) (b:Ch),minGo φ h (l.map Ch.d) (Ch.d b) (rk b)=some (Ch.d (goC l b))
 | [],b=>rfl
 | x::r,b=>by
  rw[List.map_cons,minGo,keyO_rank hφ,goC]
  simp only[Option.bind_some]
  by_cases q:ltL (rk x) (rk b)=true
  ·rw[if_pos q,if_pos q];exact minGo_rank hφ h r x
  ·rw[if_neg q,if_neg q];exact minGo_rank hφ h r b
theorem minD_rank {φ:Den} (hφ:PRank φ) (h:AH) (l:List Ch):minD φ h (l.map Ch.d)=some (chD (minC l)):=by
 cases l with
 | nil=>rfl
 | cons x r =>
  rw[List.map_cons,minD,keyO_rank hφ]
  exact minGo_rank hφ h r x
theorem thaw_nx {n:Nat}{ρ:Ev}{h:AH}{kvs:List (D×D)} (e:h[n]?=some (.dct true kvs)):thawR n (.nx ρ h)=.nx ρ (h.set n (.dct false kvs)):=by
 simp only[thawR,thaw,e]
theorem cut_rtR {np n:Nat}{b:List PSt}{args:List D}{h h':AH}{i:Nat} (hl:args.length=np) (e:exSs G b (startE n args) h=.rt (.ref i) h'):cutDen (runF G np n b) args h=.ok (.ref i) h':=by
 have er:runF G np n b args h=.ok (.ref i) h':=by unfold runF;rw[if_pos hl,e]
 unfold cutDen
 rw[er]
 exact if_neg fun z=>by cases z.1
noncomputable def cntB:List PSt:=match p_Router_counting with
 | [_,.forD _ _ b,_]=>b
 | _=>[]
theorem atI_get {α:Type} (xs:List α) (n:Nat) (h:n<xs.length):atI xs (n:Int)=xs[n]?:=by
 unfold atI ixN
 rw[if_pos (by omega),if_pos (by omega)]
 simp
theorem cnt_step {φ:Den} (h5:G[5]?=some φ) (s5:PJudged φ) {m:M}{n:Nat}{b:Nb} (hb:m.nb[n]?=some b) (nd:(m.nb.map (·.k)).Nodup) (p:List Nat) (acc:List D) (ha:acc.length<SZ) (x1 x2 x3 x4:Option D) :
  ∃ y1 y2 y3 y4,forB G (.nm 3) cntB (.int b.k) [some (.ref 0),some (.str p),some (.ref (Hp m []).length),x1,x2,x3,x4] (Hp m [.lst acc])=.nx [some (.ref 0),some (.str p),some (.ref (Hp m []).length),y1,y2,y3,y4] (Hp m [.lst (acc++((cnt m.num p b).map Ch.d).toList)]) ∨
   forB G (.nm 3) cntB (.int b.k) [some (.ref 0),some (.str p),some (.ref (Hp m []).length),x1,x2,x3,x4] (Hp m [.lst acc])=.ct [some (.ref 0),some (.str p),some (.ref (Hp m []).length),y1,y2,y3,y4] (Hp m [.lst (acc++((cnt m.num p b).map Ch.d).toList)]):=by
 have gt:=Hp_get m [.lst acc] hb
 have lk:=(nb_lk 6 m.nb n b nd hb).1
 rw[forB_nm]
 unfold cntB p_Router_counting
 simp only
 have e4:ev G (.dget (.fld "Router" (.var 0) "neighbours") (.var 3)) [some (.ref 0),some (.str p),some (.ref (Hp m []).length),some (.int b.k),x2,x3,x4] (Hp m [.lst acc])=some (.ref (6+4 * n),Hp m [.lst acc]) :=
  ev_dget (fR_nb (n:=m.num) rfl rfl) (d:=.int b.k) (by simp) (f:=m.f1) (kvs:=nbD 6 m.nb) rfl rfl lk
 have e5:ev G (.dgetN (.fld "Neighbour" (.var 4) "said") (.var 1)) [some (.ref 0),some (.str p),some (.ref (Hp m []).length),some (.int b.k),some (.ref (6+4 * n)),x3,x4] (Hp m [.lst acc])=some (((lkS b.s p).map Rt.d).getD .non,Hp m [.lst acc]):=by
  rw[ev_dgetN (fN_said (a:=6+4 * n) rfl gt.1) (d:=.str p) (by simp) gt.2.1 rfl,lk_dS]
 have st:∀ r,exSs G (PSt.asg (.nm 4) (.dget (.fld "Router" (.var 0) "neighbours") (.var 3))::PSt.asg (.nm 5) (.dgetN (.fld "Neighbour" (.var 4) "said") (.var 1))::r) [some (.ref 0),some (.str p),some (.ref (Hp m []).length),some (.int b.k),x2,x3,x4] (Hp m [.lst acc])
   = exSs G r [some (.ref 0),some (.str p),some (.ref (Hp m []).length),some (.int b.k),some (.ref (6+4 * n)),some (((lkS b.s p).map Rt.d).getD .non),x4] (Hp m [.lst acc]):=by
  intro r
  rw[exSs_nx (ρ':=[some (.ref 0),some (.str p),some (.ref (Hp m []).length),some (.int b.k),some (.ref (6+4 * n)),x3,x4]) (h':=Hp m [.lst acc]) (by rw[exS,evR_ev e4];rfl)]
  rw[exSs_nx (by rw[exS,evR_ev e5];rfl)]
  rfl
 show ∃ y1 y2 y3 y4,exSs G (PSt.asg _ _::PSt.asg _ _::_) _ _=_∨exSs G (PSt.asg _ _::PSt.asg _ _::_) _ _=_
 simp only[List.set_cons_succ,List.set_cons_zero]
 rw[st]
 cases hs:lkS b.s p with
 | none =>
  refine⟨some (.int b.k),some (.ref (6+4 * n)),some .non,x4,.inr ?_⟩
  have ec:cnt m.num p b=none:=by unfold cnt;rw[hs];rfl
  rw[ec]
  simp[exSs,exS,evB,ev,cmpD,isNon]
 | some r =>
  have en:ev G (.fld "Router" (.var 0) "number") [some (.ref 0),some (.str p),some (.ref (Hp m []).length),some (.int b.k),some (.ref (6+4 * n)),some r.d,x4] (Hp m [.lst acc])=some (.int m.num,Hp m [.lst acc]):=fR_num rfl rfl
  have ei:ev G (.idx (.var 5) (.con (.int 1))) [some (.ref 0),some (.str p),some (.ref (Hp m []).length),some (.int b.k),some (.ref (6+4 * n)),some r.d,x4] (Hp m [.lst acc])=some (.tup (r.path.map .int),Hp m [.lst acc]):=by
   simp[ev,Rt.d,idxD,atI,ixN]
  have et:evB G (.or (.val (.cmp .Is (.var 5) (.con .non))) (.val (.cmp .In (.fld "Router" (.var 0) "number") (.idx (.var 5) (.con (.int 1)))))) [some (.ref 0),some (.str p),some (.ref (Hp m []).length),some (.int b.k),some (.ref (6+4 * n)),some r.d,x4] (Hp m [.lst acc])=some (r.path.contains m.num,Hp m [.lst acc]):=by
   have e1:ev G (.cmp .Is (.var 5) (.con .non)) [some (.ref 0),some (.str p),some (.ref (Hp m []).length),some (.int b.k),some (.ref (6+4 * n)),some r.d,x4] (Hp m [.lst acc])=some (.bl false,Hp m [.lst acc]):=by
    simp[ev,Rt.d,cmpD,isNon]
   have e2:ev G (.cmp .In (.fld "Router" (.var 0) "number") (.idx (.var 5) (.con (.int 1)))) [some (.ref 0),some (.str p),some (.ref (Hp m []).length),some (.int b.k),some (.ref (6+4 * n)),some r.d,x4] (Hp m [.lst acc])=some (.bl (r.path.contains m.num),Hp m [.lst acc]):=by
    rw[ev,en]
    simp only[Option.bind_some]
    rw[ei]
    simp only[Option.bind_some,vw_int,vw_tup,cmp_in_tup,pureD,pureDs,pure_int,pure_ints,Bool.and_self,if_true,inD_ints]
   rw[evB,evB,e1]
   simp only[Option.bind_some,tru_bl]
   rw[if_neg (by simp),evB,e2]
   simp
  by_cases hc:r.path.contains m.num=true
  ·refine⟨some (.int b.k),some (.ref (6+4 * n)),some r.d,x4,.inr ?_⟩
   have ec:cnt m.num p b=none:=by unfold cnt;rw[hs];exact if_pos hc
   rw[ec]
   simp only[Option.map_some,Option.getD_some]
   rw[exSs,exS,et,hc]
   simp[exSs,exS]
  ·have hc':r.path.contains m.num=false:=by simpa using hc
   have ec:cnt m.num p b=some (b.k,r):=by unfold cnt;rw[hs];exact if_neg hc
   refine⟨some (.int b.k),some (.ref (6+4 * n)),some r.d,some (.tup [r.d,.int 100,.int 0]),.inl ?_⟩
   rw[ec]
   simp only[Option.map_some,Option.getD_some]
   rw[exSs_nx (ρ':=[some (.ref 0),some (.str p),some (.ref (Hp m []).length),some (.int b.k),some (.ref (6+4 * n)),some r.d,x4]) (h':=Hp m [.lst acc]) (by rw[exS,et,hc'];simp[exSs])]
   have ein:ev G (.fld "Neighbour" (.var 4) "rules_in") [some (.ref 0),some (.str p),some (.ref (Hp m []).length),some (.int b.k),some (.ref (6+4 * n)),some r.d,x4] (Hp m [.lst acc])=some (.lst [],Hp m [.lst acc]):=fN_in (a:=6+4 * n) rfl gt.1
   rw[exSs_nx (ρ':=[some (.ref 0),some (.str p),some (.ref (Hp m []).length),some (.int b.k),some (.ref (6+4 * n)),some r.d,some (.tup [r.d,.int 100,.int 0])]) (h':=Hp m [.lst acc]) (by
    rw[exS,evR_call (ds:=[.lst [],r.d]) (h':=Hp m [.lst acc]) (by simp[evs,ein]) h5,s5]
    rfl)]
   have ga:(Hp m [.lst acc])[(Hp m []).length]?=some (.lst acc):=by
    have e:Hp m [.lst acc]=Hp m []++[.lst acc]:=by unfold Hp;simp
    rw[e]
    simp
   have sa:∀ y,(Hp m [.lst acc]).set (Hp m []).length y=Hp m [y]:=by
    intro y
    have e:Hp m [.lst acc]=Hp m []++[.lst acc]:=by unfold Hp;simp
    have e':Hp m [y]=Hp m []++[y]:=by unfold Hp;simp
    rw[e,e']
    simp
   have sz:(3:Nat)≤SZ:=by decide
   have et2:evs G [.var 3,.idx (.var 6) (.con (.int 0)),.idx (.var 6) (.con (.int 1))] [some (.ref 0),some (.str p),some (.ref (Hp m []).length),some (.int b.k),some (.ref (6+4 * n)),some r.d,some (.tup [r.d,.int 100,.int 0])] (Hp m [.lst acc])=some ([.int b.k,r.d,.int 100],Hp m [.lst acc]):=by
    simp[evs,ev,idxD,atI,ixN]
   simp only[exSs,exS,evB,evR,ev,et2,ga,sa,ha,sz,getV_zero,getV_succ,Option.bind_some,vw_tup,vw_non,cmpD,isNon,tru_bl,Bool.not_false,if_true,List.length_cons,List.length_nil,Nat.reduceAdd,Nat.reduceLeDiff]
   rfl
theorem cnt_loop {φ:Den} (h5:G[5]?=some φ) (s5:PJudged φ) {m:M} (nd:(m.nb.map (·.k)).Nodup) (p:List Nat):∀ (l2:List Nb) (l1:List Nb) (acc:List D) (x1 x2 x3 x4:Option D),m.nb=l1++l2→acc.length+l2.length<SZ →
  ∃ y1 y2 y3 y4,forL (forB G (.nm 3) cntB) ((l2.map (·.k)).map D.int) [some (.ref 0),some (.str p),some (.ref (Hp m []).length),x1,x2,x3,x4] (Hp m [.lst acc])=.nx [some (.ref 0),some (.str p),some (.ref (Hp m []).length),y1,y2,y3,y4] (Hp m [.lst (acc++(l2.filterMap (cnt m.num p)).map Ch.d)])
 | [],l1,acc,x1,x2,x3,x4,_,_=>⟨x1,x2,x3,x4,by simp[forL]⟩
 | b::l2,l1,acc,x1,x2,x3,x4,e,hl=>by
  have hb:m.nb[l1.length]?=some b:=by rw[e];simp
  have hl':acc.length+(l2.length+1)<SZ:=hl
  obtain⟨y1,y2,y3,y4,q⟩:=cnt_step h5 s5 hb nd p acc (by omega) x1 x2 x3 x4
  obtain⟨z1,z2,z3,z4,w⟩:=cnt_loop h5 s5 nd p l2 (l1++[b]) (acc++((cnt m.num p b).map Ch.d).toList) y1 y2 y3 y4 (by rw[e];simp) (by
   have:(((cnt m.num p b).map Ch.d).toList).length≤1:=by cases cnt m.num p b<;>simp
   rw[List.length_append];omega)
  refine⟨z1,z2,z3,z4,?_⟩
  have ee:acc++((cnt m.num p b).map Ch.d).toList++(l2.filterMap (cnt m.num p)).map Ch.d=acc++((b::l2).filterMap (cnt m.num p)).map Ch.d:=by
   rw[List.filterMap_cons]
   cases cnt m.num p b<;>simp
  rw[ee] at w
  rw[List.map_cons,List.map_cons,forL]
  rcases q with q | q
  ·rw[q];exact w
  ·rw[q];exact w
def PCount (f:Den):Prop:=∀ (m:M) (p:List Nat),m.f1=false→(m.nb.map (·.k)).Nodup→m.nb.length≤1000→f [.ref 0,.str p] (Hp m [])=.ok (.ref (Hp m []).length) (Hp m [.lst ((m.nb.filterMap (cnt m.num p)).map Ch.d)])
theorem count_ok {φ:Den} (h5:G[5]?=some φ) (s5:PJudged φ):PCount (cutDen (runF G 2 7 p_Router_counting)):=by
 intro m p hf nd hl
 have er:exSs G p_Router_counting (startE 7 [.ref 0,.str p]) (Hp m [])=.rt (.ref (Hp m []).length) (Hp m [.lst ((m.nb.filterMap (cnt m.num p)).map Ch.d)]):=by
  have:p_Router_counting=[.asg (.nm 2) (.new []),.forD (.nm 3) (.fld "Router" (.var 0) "neighbours") cntB,.ret (.var 2)]:=rfl
  rw[this]
  have e0:Hp m []++[.lst []]=Hp m [.lst []]:=by unfold Hp;simp
  have sz:(0:Nat)≤SZ:=by decide
  rw[exSs_nx (ρ':=[some (.ref 0),some (.str p),some (.ref (Hp m []).length),none,none,none,none]) (h':=Hp m [.lst []]) (by
   have:ev G (.new []) (startE 7 [.ref 0,.str p]) (Hp m [])=some (.ref (Hp m []).length,Hp m [.lst []]):=by
    rw[ev]
    simp only[evs,Option.bind_some]
    rw[if_pos (by decide),e0]
   rw[exS,evR_ev this]
   rfl)]
  have nd':(({ m with f1:=true }:M).nb.map (·.k)).Nodup:=nd
  obtain⟨y1,y2,y3,y4,q⟩:=cnt_loop h5 s5 (m:={ m with f1:=true }) nd' p m.nb [] [] none none none none rfl (by show 0+m.nb.length<16777216;omega)
  have hlen:(Hp { m with f1:=true } []).length=(Hp m []).length:=by rw[Hp_len,Hp_len]
  rw[hlen] at q
  simp only[List.nil_append] at q
  rw[exSs_nx (ρ':=[some (.ref 0),some (.str p),some (.ref (Hp m []).length),y1,y2,y3,y4]) (h':=Hp m [.lst ((m.nb.filterMap (cnt m.num p)).map Ch.d)])]
  ·refine exSs_rt ?_
   rw[exS,evR_ev (d:=.ref (Hp m []).length) (h':=Hp m [.lst ((m.nb.filterMap (cnt m.num p)).map Ch.d)]) (by simp)]
  ·rw[exS,fR_nb (n:=m.num) rfl rfl]
   simp only
   rw[dctW_of (d:=nbD 6 m.nb) (by show some (O.dct m.f1 (nbD 6 m.nb))=_;rw[hf])]
   simp only
   rw[(nb_keys 6 m.nb).1]
   have es:(Hp m [.lst []]).set 1 (.dct true (nbD 6 m.nb))=Hp { m with f1:=true } [.lst []]:=rfl
   rw[es]
   show thawR 1 (forL (forB G (.nm 3) cntB) _ _ _)=_
   rw[q]
   rw[thaw_nx (kvs:=nbD 6 m.nb) rfl]
   congr 1
   unfold Hp
   rw[hf]
   rfl
 exact cut_rtR rfl er
end
end K13
namespace K13
open MP PySem
open K10 (Rt okS PNeedPrefix PNeedRoute goodP goodR)
theorem nrfs_ints:∀ l:List Int,nrfs (l.map D.int)=true
 | []=>rfl
 | a::l=>by rw[List.map_cons,nrfs,nrfs_ints l];rfl
theorem nrf_rt (r:Rt):nrf r.d=true:=by
 simp[Rt.d,nrf,nrfs,nrfs_ints]
theorem nrf_ch (c:Option Ch):nrf (chD c)=true:=by
 cases c with
 | none=>rfl
 | some c=>simp[chD,Ch.d,nrf,nrfs,nrf_rt]
section
variable {G:List Den}
def PChoice (f:Den):Prop:=∀ (m:M) (p:List Nat),m.f1=false→(m.nb.map (·.k)).Nodup→m.nb.length≤1000→f [.ref 0,.str p] (Hp m [])=.ok (chD (chM m p)) (Hp m [])
theorem choice_ok {φc φr:Den} (h15:G[15]?=some φc) (s15:PCount φc) (h6:G[6]?=some φr) (s6:PRank φr):PChoice (cutDen (runF G 2 2 p_Router_choice)):=by
 intro m p hf nd hl
 have t1:=ev_din (G:=G) (h:=Hp m []) (ρ:=startE 2 [.ref 0,.str p]) (g:=false) (k:=.var 1) (d:=.str p) (by simp[startE]) (fR_own (j:=0) (n:=m.num) rfl rfl) (f:=false) (kvs:=dS tt m.own) rfl rfl
 rw[lk_dS,Option.isSome_map,Bool.false_xor] at t1
 unfold chM
 by_cases ho:(lkS m.own p).isSome=true
 ·rw[if_pos ho]
  refine run_rt rfl ?_
  unfold p_Router_choice
  refine exSs_rt ?_
  rw[exS]
  simp only[evB,t1,Option.bind_some,tru_bl,ho,if_true]
  refine exSs_rt ?_
  have sz:(4:Nat)≤SZ:=by decide
  have sz3:(3:Nat)≤SZ:=by decide
  have sz0:(0:Nat)≤SZ:=by decide
  have e:ev G (.tup [.con (.int 0),.tup [.var 1,.tup [],.con (.int 0),.tup []],.con (.int 100)]) (startE 2 [.ref 0,.str p]) (Hp m [])=some (chD (some (ownC p)),Hp m []):=by
   simp[ev,evs,startE,chD,Ch.d,ownC,Rt.d,sz,sz3]
  rw[exS,evR_ev e]
 ·rw[if_neg ho]
  have ho':(lkS m.own p).isSome=false:=by simpa using ho
  have e0:Hp m [.lst ((m.nb.filterMap (cnt m.num p)).map Ch.d)]=Hp m []++[.lst ((m.nb.filterMap (cnt m.num p)).map Ch.d)]:=by unfold Hp;simp
  refine run_rtN (h':=Hp m [.lst ((m.nb.filterMap (cnt m.num p)).map Ch.d)]) rfl ?_ (nrf_ch _) ?_
  ·unfold p_Router_choice
   rw[exSs_nx (ρ':=startE 2 [.ref 0,.str p]) (h':=Hp m []) (by
    rw[exS]
    simp only[evB,t1,Option.bind_some,tru_bl,ho']
    simp[exSs])]
   refine exSs_rt ?_
   have em:=ev_m (G:=G) (ρ:=startE 2 [.ref 0,.str p]) (h:=Hp m []) (j:=0) (i:=15) (mt:="counting") (xs:=[.var 1]) (ds:=[.str p]) (h':=Hp m []) (n:=m.num) (by intro n;rfl) rfl rfl (by simp[evs,startE]) h15 (s15 m p hf nd hl)
   have ga:(Hp m [.lst ((m.nb.filterMap (cnt m.num p)).map Ch.d)])[(Hp m []).length]?=some (.lst ((m.nb.filterMap (cnt m.num p)).map Ch.d)):=by
    rw[e0];simp
   have e:ev G (.minK 6 (.mcall 15 "Router" "counting" (.var 0) [.var 1])) (startE 2 [.ref 0,.str p]) (Hp m [])=some (chD (minC (m.nb.filterMap (cnt m.num p))),Hp m [.lst ((m.nb.filterMap (cnt m.num p)).map Ch.d)]):=by
    rw[ev,em]
    simp only[Option.bind_some]
    rw[h6]
    simp only[Option.bind_some,vw,ga]
    rw[minD_rank s6]
    rfl
   rw[exS,evR_ev e]
  ·rw[e0,List.take_left' rfl]
noncomputable def chS (m:M) (p:List Nat):List (List Nat×Ch):=match chM m p with
 | none=>dropS m.ch p
 | some c=>putS m.ch p c
theorem dropS_no {α:Type}{s:List (List Nat×α)}{p:List Nat} (h:lkS s p=none):dropS s p=s:=by
 have:=lkS_none.mp h
 unfold dropS
 rw[List.filter_eq_self]
 intro q hq
 have:q.1≠p:=fun e=>this (e▸List.mem_map_of_mem hq)
 rw[beq_eq_false_iff_ne.mpr this]
 rfl
def PAgain (f:Den):Prop:=∀ (m:M) (p:List Nat),m.f1=false→(m.nb.map (·.k)).Nodup→m.nb.length≤1000→m.ch.length≤1000→f [.ref 0,.lst [.str p]] (Hp m [])=.ok .non (Hp { m with ch:=chS m p } [])
theorem again_ok {φ:Den} (h16:G[16]?=some φ) (s16:PChoice φ):PAgain (cutDen (runF G 2 4 p_Router_choose_again)):=by
 intro m p hf nd hl hc
 refine cut_nx (ρ':=[some (.ref 0),some (.lst [.str p]),some (.str p),some (chD (chM m p))]) rfl ?_ (take_len (by rw[Hp_len,Hp_len]))
 have e:p_Router_choose_again=[.forS (.nm 2) (.seq (.var 1)) (match p_Router_choose_again with | [.forS _ _ b]=>b | _=>[])]:=rfl
 rw[e]
 refine (exSs_nx (ρ':=[some (.ref 0),some (.lst [.str p]),some (.str p),some (chD (chM m p))]) (h':=Hp { m with ch:=chS m p } []) ?_).trans (by rw[exSs])
 rw[exS_for (ds:=[.str p]) (h':=Hp m []) (by rw[evI_seq (d:=.lst [.str p]) (h':=Hp m []) (l:=[.str p]) (by simp[startE]) rfl])]
 rw[forL,forB_nm]
 unfold p_Router_choose_again
 simp only
 rw[exSs_nx (ρ':=[some (.ref 0),some (.lst [.str p]),some (.str p),some (chD (chM m p))]) (h':=Hp m []) (by
  rw[exS,evR_m (ds:=[.str p]) (h':=Hp m []) (n:=m.num) (by intro n;rfl) rfl rfl (by simp[evs,startE]) h16,s16 m p hf nd hl]
  rfl)]
 cases hm:chM m p with
 | none =>
  have es:chS m p=dropS m.ch p:=by unfold chS;rw[hm]
  have ep:=ev_dpopN (G:=G) (h:=Hp m []) (ρ:=[some (.ref 0),some (.lst [.str p]),some (.str p),some (chD none)]) (k:=.var 2) (d:=.str p) (fR_ch (j:=0) (n:=m.num) rfl rfl) (by simp) (kvs:=dS Ch.d m.ch) rfl rfl
  rw[lk_dS] at ep
  have t:evB G (.val (.cmp .Is (.var 3) (.con .non))) [some (.ref 0),some (.lst [.str p]),some (.str p),some (chD none)] (Hp m [])=some (true,Hp m []):=by simp[evB,ev,chD,cmpD,isNon]
  have:exSs G [PSt.ifs (.val (.cmp .Is (.var 3) (.con .non))) [PSt.ex (.dpopN (.fld "Router" (.var 0) "choices") (.var 2))] [PSt.dput (.fld "Router" (.var 0) "choices") (.var 2) (.var 3)]] [some (.ref 0),some (.lst [.str p]),some (.str p),some (chD none)] (Hp m [])=.nx [some (.ref 0),some (.lst [.str p]),some (.str p),some (chD none)] (Hp { m with ch:=chS m p } []):=by
   rw[exSs,exS,t]
   simp only[if_true]
   rw[es]
   cases hq:lkS m.ch p with
   | none =>
    rw[hq] at ep
    rw[exSs_nx (by rw[exS,evR_ev ep])]
    rw[dropS_no hq]
    simp[exSs]
   | some c =>
    rw[hq] at ep
    simp only[Option.map_some] at ep
    rw[drop_dS] at ep
    rw[exSs_nx (by rw[exS,evR_ev ep])]
    simp[exSs]
    rfl
  rw[this]
  rfl
 | some c =>
  have es:chS m p=putS m.ch p c:=by unfold chS;rw[hm]
  have t:evB G (.val (.cmp .Is (.var 3) (.con .non))) [some (.ref 0),some (.lst [.str p]),some (.str p),some (chD (some c))] (Hp m [])=some (false,Hp m []):=by simp[evB,ev,chD,Ch.d,cmpD,isNon]
  have ep:=exS_dput (G:=G) (h:=Hp m []) (ρ:=[some (.ref 0),some (.lst [.str p]),some (.str p),some (chD (some c))]) (v:=.var 3) (x:=Ch.d c) (k:=.var 2) (d:=.str p) (by simp[chD]) (fR_ch (j:=0) (n:=m.num) rfl rfl) (by simp) (kvs:=dS Ch.d m.ch) rfl rfl (by rw[len_dS];show _<16777216;omega)
  rw[put_dS] at ep
  have:exSs G [PSt.ifs (.val (.cmp .Is (.var 3) (.con .non))) [PSt.ex (.dpopN (.fld "Router" (.var 0) "choices") (.var 2))] [PSt.dput (.fld "Router" (.var 0) "choices") (.var 2) (.var 3)]] [some (.ref 0),some (.lst [.str p]),some (.str p),some (chD (some c))] (Hp m [])=.nx [some (.ref 0),some (.lst [.str p]),some (.str p),some (chD (some c))] (Hp { m with ch:=chS m p } []):=by
   rw[exSs,exS,t,es]
   simp only[Bool.false_eq_true,if_false]
   rw[exSs_nx ep]
   simp[exSs]
   rfl
  rw[this]
  rfl
noncomputable def hearM (m:M) (n:Nat) (b:Nb) (r:Rt):M:={ m with nb:=setS m.nb n (putS b.s r.pre r),ch:=chS { m with nb:=setS m.nb n (putS b.s r.pre r) } r.pre }
theorem setS_keys:∀ (l:List Nb) (n:Nat) (s:List (List Nat×Rt)),(setS l n s).map (·.k)=l.map (·.k)
 | [],n,s=>by unfold setS;simp
 | b::r,0,s=>rfl
 | b::r,n+1,s=>congrArg (List.cons b.k) (setS_keys r n s)
theorem setS_len (l:List Nb) (n:Nat) (s:List (List Nat×Rt)):(setS l n s).length=l.length:=by
 have:=congrArg List.length (setS_keys l n s)
 simpa using this
def PHear (f:Den):Prop:=∀ (m:M) (n:Nat) (b:Nb) (r:Rt),m.f1=false→(m.nb.map (·.k)).Nodup→m.nb.length≤1000→m.ch.length≤1000→m.nb[n]?=some b→b.s.length≤1000→r.Ok→goodR r=true→(∃ q,r.path=b.k::q)→f [.ref 0,.int b.k,r.d] (Hp m [])=.ok .non (Hp (hearM m n b r) [])
theorem hear_ok {φu φr φa:Den} (h11:G[11]?=some φu) (s11:PNeedU φu) (h4:G[4]?=some φr) (s4:PNeedRoute φr) (h17:G[17]?=some φa) (s17:PAgain φa):PHear (cutDen (runF G 3 4 p_Router_hear)):=by
 intro m n b r hf nd hl hc hb hs ok good ⟨q,hp⟩
 have gt:=Hp_get m [] hb
 have lk:=(nb_lk 6 m.nb n b nd hb).1
 have hn:n<m.nb.length:=(List.getElem?_eq_some_iff.mp hb).1
 refine cut_nx (ρ':=[some (.ref 0),some (.int b.k),some r.d,some (.ref (6+4 * n))]) rfl ?_ (take_len (by rw[Hp_len,Hp_len];unfold hearM;rw[setS_len]))
 unfold p_Router_hear
 rw[exSs_nx (ρ':=[some (.ref 0),some (.int b.k),some r.d,some (.ref (6+4 * n))]) (h':=Hp m []) (by
  rw[exS,evR_m (ds:=[.int b.k]) (h':=Hp m []) (n:=m.num) (by intro n;rfl) rfl rfl (by simp[evs,startE]) h11,s11 _ m.num b.k m.f1 (nbD 6 m.nb) (6+4 * n) (6+4 * n) rfl rfl lk gt.1]
  rfl)]
 rw[exSs_nx (ρ':=[some (.ref 0),some (.int b.k),some r.d,some (.ref (6+4 * n))]) (h':=Hp m []) (by
  rw[exS,evR_call (ds:=[r.d]) (h':=Hp m []) (by simp[evs]) h4,s4 r _ ok,if_pos good])]
 rw[exSs_nx (ρ':=[some (.ref 0),some (.int b.k),some r.d,some (.ref (6+4 * n))]) (h':=Hp m []) (by
  rw[exS]
  have:evB G (.val (.cmp .NotEq (.idx (.idx (.var 2) (.con (.int 1))) (.con (.int 0))) (.var 1))) [some (.ref 0),some (.int b.k),some r.d,some (.ref (6+4 * n))] (Hp m [])=some (false,Hp m []):=by
   simp[evB,ev,Rt.d,hp,idxD,atI,ixN]
  rw[this]
  simp[exSs])]
 have ei:ev G (.idx (.var 2) (.con (.int 0))) [some (.ref 0),some (.int b.k),some r.d,some (.ref (6+4 * n))] (Hp m [])=some (.str r.pre,Hp m []):=by simp[ev,Rt.d,idxD,atI,ixN]
 have ep:=exS_dput (G:=G) (h:=Hp m []) (ρ:=[some (.ref 0),some (.int b.k),some r.d,some (.ref (6+4 * n))]) (v:=.var 2) (x:=r.d) (k:=.idx (.var 2) (.con (.int 0))) (d:=.str r.pre) (by simp) (fN_said (a:=6+4 * n) (j:=3) rfl gt.1) ei gt.2.1 rfl (by rw[len_dS];show _<16777216;omega)
 rw[put_dS,Hp_setS hn] at ep
 rw[exSs_nx ep]
 have ag:=s17 { m with nb:=setS m.nb n (putS b.s r.pre r) } r.pre hf (by show ((setS m.nb n _).map (·.k)).Nodup;rw[setS_keys];exact nd) (by show (setS m.nb n _).length≤1000;rw[setS_len];exact hl) hc
 have sz:(1:Nat)≤SZ:=by decide
 have el:ev G (.lst [.idx (.var 2) (.con (.int 0))]) [some (.ref 0),some (.int b.k),some r.d,some (.ref (6+4 * n))] (Hp { m with nb:=setS m.nb n (putS b.s r.pre r) } [])=some (.lst [.str r.pre],Hp { m with nb:=setS m.nb n (putS b.s r.pre r) } []):=by
  simp[ev,evs,Rt.d,idxD,atI,ixN,sz]
 rw[exSs_nx (ρ':=[some (.ref 0),some (.int b.k),some r.d,some (.ref (6+4 * n))]) (h':=Hp (hearM m n b r) []) (by
  rw[exS,evR_m (ds:=[.lst [.str r.pre]]) (h':=Hp { m with nb:=setS m.nb n (putS b.s r.pre r) } []) (n:=m.num) (by intro n;rfl) rfl rfl (by simp[evs,el]) h17,ag]
  rfl)]
 rw[exSs]
noncomputable def ownM (m:M) (p:List Nat):M:={ m with own:=putS m.own p (),ch:=chS { m with own:=putS m.own p () } p }
def POwn (f:Den):Prop:=∀ (m:M) (p:List Nat),m.f1=false→(m.nb.map (·.k)).Nodup→m.nb.length≤1000→m.ch.length≤1000→m.own.length≤1000→okS p→goodP p=true→f [.ref 0,.str p,.bl true] (Hp m [])=.ok .non (Hp (ownM m p) [])
theorem own_ok {φp φa:Den} (h3:G[3]?=some φp) (s3:PNeedPrefix φp) (h17:G[17]?=some φa) (s17:PAgain φa):POwn (cutDen (runF G 3 3 p_Router_own)):=by
 intro m p hf nd hl hc ho ok good
 refine cut_nx (ρ':=[some (.ref 0),some (.str p),some (.bl true)]) rfl ?_ (take_len (by rw[Hp_len,Hp_len];rfl))
 unfold p_Router_own
 rw[exSs_nx (ρ':=[some (.ref 0),some (.str p),some (.bl true)]) (h':=Hp m []) (by
  rw[exS,evR_call (ds:=[.str p]) (h':=Hp m []) (by simp[evs,startE]) h3,s3 p _ ok,if_pos good]
  rfl)]
 have ep:=exS_dput (G:=G) (h:=Hp m []) (ρ:=[some (.ref 0),some (.str p),some (.bl true)]) (v:=.con (.bl true)) (x:=tt ()) (k:=.var 1) (d:=.str p) (by simp[tt]) (fR_own (j:=0) (n:=m.num) rfl rfl) (by simp) (kvs:=dS tt m.own) rfl rfl (by rw[len_dS];show _<16777216;omega)
 rw[put_dS] at ep
 rw[exSs_nx (ρ':=[some (.ref 0),some (.str p),some (.bl true)]) (h':=Hp { m with own:=putS m.own p () } []) (by
  rw[exS]
  have:evB G (.val (.var 2)) [some (.ref 0),some (.str p),some (.bl true)] (Hp m [])=some (true,Hp m []):=by simp[evB]
  rw[this]
  simp only[if_true]
  rw[exSs_nx ep]
  simp[exSs]
  rfl)]
 have ag:=s17 { m with own:=putS m.own p () } p hf nd hl hc
 have sz:(1:Nat)≤SZ:=by decide
 rw[exSs_nx (ρ':=[some (.ref 0),some (.str p),some (.bl true)]) (h':=Hp (ownM m p) []) (by
  rw[exS,evR_m (ds:=[.lst [.str p]]) (h':=Hp { m with own:=putS m.own p () } []) (n:=m.num) (by intro n;rfl) rfl rfl (by simp[evs,ev,sz]) h17,ag]
  rfl)]
 rw[exSs]
noncomputable def fndG (g:List Nat→Option Ch) (a:List Nat):Nat→Option Ch
 | 0=>g (a.take 0)
 | n+1=>match g (a.take (n+1)) with
  | some c=>some c
  | none=>fndG g a n
def PFind (f:Den):Prop:=∀ (m:M) (a:List Nat),a.length≤1000→f [.ref 0,.str a] (Hp m [])=.ok (chD (fndG (lkS m.ch) a a.length)) (Hp m [])
noncomputable def fndB:List PSt:=match p_Router_find with
 | [.forN _ _ b,_]=>b
 | _=>[]
noncomputable def dnL (n:Nat):List D:=(List.range (n+1)).map fun (i:Nat)=>.int ((n:Int) - i)
theorem dnL_zero:dnL 0=[.int 0]:=rfl
theorem dnL_succ (n:Nat):dnL (n+1)=.int (n+1:Nat)::dnL n:=by
 unfold dnL
 rw[List.range_succ_eq_map,List.map_cons,List.map_map]
 congr 1
 refine List.map_congr_left fun i _=>?_
 simp only[Function.comp]
 congr 1
 omega
theorem cut_hi {s:List Nat}{n:Nat} (h:n≤s.length):cut s none (some (n:Int))=s.take n:=by
 have e1:sIx s.length s.length (some (n:Int))=n:=by
  show (if (n:Int)<0 then ((n:Int)+(s.length:Int)).toNat else min (n:Int).toNat s.length)=n
  rw[if_neg (by omega)]
  show min n s.length=n
  omega
 unfold cut
 rw[e1]
 rfl
theorem find_step {φ:Den} (h20:G[20]?=some φ) (s20:PBest φ) (m:M) (a:List Nat) (ha:a.length≤1000) (n:Nat) (hn:n≤a.length) (x1 x2:Option D) :
  forB G (.nm 2) fndB (.int n) [some (.ref 0),some (.str a),x1,x2] (Hp m [])=match lkS m.ch (a.take n) with
   | some c=>.rt (Ch.d c) (Hp m [])
   | none=>.nx [some (.ref 0),some (.str a),some (.int n),some .non] (Hp m []):=by
 rw[forB_nm]
 unfold fndB p_Router_find
 simp only[List.set_cons_succ,List.set_cons_zero]
 have sz:a.length≤SZ:=by show _≤16777216;omega
 have es:evs G [.sl (.var 1) none (some (.var 2))] [some (.ref 0),some (.str a),some (.int n),x2] (Hp m [])=some ([.str (a.take n)],Hp m []):=by
  simp[evs,ev,evo,slD,sz,cut_hi hn]
 have eb:=s20 (Hp m []) m.num false (dS Ch.d m.ch) (a.take n) rfl rfl
 rw[lk_dS] at eb
 rw[exSs_nx (ρ':=[some (.ref 0),some (.str a),some (.int n),some (((lkS m.ch (a.take n)).map Ch.d).getD .non)]) (h':=Hp m []) (by
  rw[exS,evR_m (ds:=[.str (a.take n)]) (h':=Hp m []) (n:=m.num) (by intro n;rfl) rfl rfl es h20,eb]
  rfl)]
 cases lkS m.ch (a.take n) with
 | none=>simp[exSs,exS,evB,ev,cmpD,isNon]
 | some c=>simp[exSs,exS,evB,ev,cmpD,isNon,Ch.d,evR]
theorem find_loop {φ:Den} (h20:G[20]?=some φ) (s20:PBest φ) (m:M) (a:List Nat) (ha:a.length≤1000):∀ (n:Nat),n≤a.length→∀ (x1 x2:Option D),
  match fndG (lkS m.ch) a n with
   | some c=>forL (forB G (.nm 2) fndB) (dnL n) [some (.ref 0),some (.str a),x1,x2] (Hp m [])=.rt (Ch.d c) (Hp m [])
   | none=>∃ y1 y2,forL (forB G (.nm 2) fndB) (dnL n) [some (.ref 0),some (.str a),x1,x2] (Hp m [])=.nx [some (.ref 0),some (.str a),y1,y2] (Hp m [])
 | 0,hn,x1,x2=>by
  have st:=find_step h20 s20 m a ha 0 hn x1 x2
  unfold fndG
  rw[dnL_zero,forL]
  cases hq:lkS m.ch (a.take 0) with
  | none =>
   rw[hq] at st
   exact⟨some (.int 0),some .non,by rw[show (D.int 0)=D.int ((0:Nat):Int) from rfl,st];rfl⟩
  | some c =>
   rw[hq] at st
   show _=_
   rw[show (D.int 0)=D.int ((0:Nat):Int) from rfl,st]
 | n+1,hn,x1,x2=>by
  have st:=find_step h20 s20 m a ha (n+1) hn x1 x2
  unfold fndG
  rw[dnL_succ,forL]
  cases hq:lkS m.ch (a.take (n+1)) with
  | some c =>
   rw[hq] at st
   show _=_
   rw[st]
  | none =>
   rw[hq] at st
   have ih:=find_loop h20 s20 m a ha n (by omega) (some (.int (n+1:Nat))) (some .non)
   simp only
   rw[st]
   exact ih
theorem exS_forN {t:PTg}{e:PX}{b:List PSt}{ρ:Ev}{h h':AH}{d:D}{l:List D} (e1:ev G e ρ h=some (d,h')) (e2:dnD d=some l):exS G (.forN t e b) ρ h=forL (forB G t b) l ρ h':=by
 rw[exS,e1]
 simp only
 rw[e2]
 rfl
theorem dnD_nat {n:Nat} (h:n≤1000):dnD (.int n)=some (dnL n):=by
 have hb:0≤(n:Int)∧(n:Int)<2 ^ 62:=⟨by omega,by omega⟩
 have:dnD (.int n)=if 0≤(n:Int)∧(n:Int)<2 ^ 62 then some ((List.range ((n:Int).toNat+1)).map fun (i:Nat)=>.int ((n:Int) - i)) else none:=by rw[dnD]
 rw[this,if_pos hb,Int.toNat_natCast]
 rfl
theorem find_ok {φ:Den} (h20:G[20]?=some φ) (s20:PBest φ):PFind (cutDen (runF G 2 4 p_Router_find)):=by
 intro m a ha
 refine run_rt rfl ?_
 have e:p_Router_find=[.forN (.nm 2) (.blt .len [.var 1]) fndB,.ret (.con .non)]:=rfl
 have sz:a.length≤SZ:=by show _≤16777216;omega
 have ef:exS G (.forN (.nm 2) (.blt .len [.var 1]) fndB) (startE 4 [.ref 0,.str a]) (Hp m [])=forL (forB G (.nm 2) fndB) (dnL a.length) [some (.ref 0),some (.str a),none,none] (Hp m []):=by
  have:ev G (.blt .len [.var 1]) (startE 4 [.ref 0,.str a]) (Hp m [])=some (.int a.length,Hp m []):=by
   simp[ev,evs,startE,bl_lenS,sz]
  exact exS_forN this (dnD_nat ha)
 have lp:=find_loop h20 s20 m a ha a.length (Nat.le_refl _) none none
 rw[e]
 cases hq:fndG (lkS m.ch) a a.length with
 | some c =>
  rw[hq] at lp
  exact exSs_rt (by rw[ef,lp];rfl)
 | none =>
  rw[hq] at lp
  obtain⟨y1,y2,lp⟩:=lp
  rw[exSs_nx (by rw[ef,lp])]
  exact exSs_rt (by rw[exS,evR_ev (d:=.non) (h':=Hp m []) (by simp)];rfl)
end
end K13
namespace K13
open MP PySem
open K10 (Rt okS)
theorem ltL_irr:∀ a:List Int,ltL a a=false
 | []=>rfl
 | x::a=>by rw[ltL,if_pos rfl];exact ltL_irr a
theorem ltL_neg:∀ a b c:List Int,ltL b a=false→ltL c b=false→ltL c a=false
 | [],[],c,_,h=>h
 | [],_::_,[],h,_=>rfl
 | [],_::_,_::_,h,_=>rfl
 | _::_,[],_,h,_=>by cases h
 | x::a,y::b,[],_,h=>by cases h
 | x::a,y::b,z::c,h1,h2=>by
  rw[ltL] at h1 h2 ⊢
  by_cases e1:y=x
  ·rw[if_pos e1] at h1
   by_cases e2:z=y
   ·rw[if_pos e2] at h2
    rw[if_pos (e2.trans e1)]
    exact ltL_neg a b c h1 h2
   ·rw[if_neg e2] at h2
    rw[if_neg (by rw[← e1];exact e2),← e1]
    exact h2
  ·rw[if_neg e1] at h1
   have h1':¬ y<x:=by simpa using h1
   by_cases e2:z=y
   ·rw[if_pos e2] at h2
    rw[if_neg (by rw[e2];exact e1),e2]
    exact h1
   ·rw[if_neg e2] at h2
    have h2':¬ z<y:=by simpa using h2
    rw[if_neg (by omega)]
    simp
    omega
theorem ltL_anti:∀ a b:List Int,ltL b a=false→ltL a b=false→a=b
 | [],[],_,_=>rfl
 | [],_::_,_,h=>by cases h
 | _::_,[],h,_=>by cases h
 | x::a,y::b,h1,h2=>by
  rw[ltL] at h1 h2
  by_cases e:y=x
  ·rw[if_pos e] at h1
   rw[if_pos e.symm] at h2
   rw[e,ltL_anti a b h1 h2]
  ·rw[if_neg e] at h1
   rw[if_neg (Ne.symm e)] at h2
   simp at h1 h2
   omega
theorem ltL_tot (a b:List Int):ltL b a=false∨ltL a b=false:=by
 cases h:ltL b a with
 | false=>exact .inl rfl
 | true =>
  right
  cases h2:ltL a b with
  | false=>rfl
  | true =>
   exfalso
   revert h h2
   revert b
   induction a with
   | nil=>intro b h _;cases b<;>cases h
   | cons x a ih =>
    intro b h h2
    cases b with
    | nil=>cases h2
    | cons y b =>
     rw[ltL] at h h2
     by_cases e:y=x
     ·rw[if_pos e] at h
      rw[if_pos e.symm] at h2
      exact ih b h h2
     ·rw[if_neg e] at h
      rw[if_neg (Ne.symm e)] at h2
      simp at h h2
      omega
theorem goC_min : ∀ (l : List Ch) (b : Ch), goC l b ∈ b :: l ∧ ∀ x ∈ b :: l, ltL (rk x) (rk (goC l b)) = false
  | [], b => ⟨by simp [goC], fun x hx => by have : x = b := by simpa using hx
                                            subst this; exact ltL_irr _⟩
  | y :: l, b => by
    rw [goC]
    by_cases q : ltL (rk y) (rk b) = true
    · rw [if_pos q]
      have ih := goC_min l y
      refine ⟨List.mem_cons_of_mem _ ih.1, fun x hx => ?_⟩
      rcases List.mem_cons.mp hx with rfl | hx
      · refine ltL_neg _ (rk y) _ (ih.2 y List.mem_cons_self) ?_
        rcases ltL_tot (rk y) (rk x) with h | h
        · exact h
        · rw [h] at q; cases q
      · exact ih.2 x hx
    · rw [if_neg q]
      have q' : ltL (rk y) (rk b) = false := by simpa using q
      have ih := goC_min l b
      refine ⟨?_, fun x hx => ?_⟩
      · rcases List.mem_cons.mp ih.1 with h | h
        · rw [h]; exact List.mem_cons_self
        · exact List.mem_cons_of_mem _ (List.mem_cons_of_mem _ h)
      · rcases List.mem_cons.mp hx with rfl | hx
        · exact ih.2 x List.mem_cons_self
        · rcases List.mem_cons.mp hx with rfl | hx
          · exact ltL_neg _ (rk b) _ (ih.2 b List.mem_cons_self) q'
          · exact ih.2 x (List.mem_cons_of_mem _ hx)
noncomputable def rowOf (c:Ch):D:=.tup [.int (c.2.path.length:Int),.int c.2.w,.int c.1,c.2.d]
noncomputable def leC (a b:Ch):Bool:=!ltL (rk b) (rk a)
theorem key3_row (c:Ch):key3 (rowOf c)=some [(c.2.path.length:Int),c.2.w,c.1]:=rfl
theorem le3_row (a b:Ch):leC a b=le3 (rowOf a) (rowOf b):=by
 unfold leC le3
 rw[key3_row,key3_row]
 show (!ltL (rk b) (rk a))=_
 unfold rk
 rw[ltL,if_pos rfl]
theorem keys3_rows:∀ l:List Ch,keys3 (l.map rowOf)=some (l.map fun c=>[(c.2.path.length:Int),c.2.w,c.1])
 | []=>rfl
 | c::l=>by
  rw[List.map_cons,keys3,key3_row,keys3_rows l]
  rfl
theorem sort_rows {l:List Ch} (nd:(l.map (·.1)).Nodup) (hl:l.length<64):srtRD (l.map rowOf)=some ((l.mergeSort leC).map rowOf):=by
 unfold srtRD
 rw[keys3_rows]
 simp only[Option.bind_some]
 rw[if_pos]
 ·rw[List.map_mergeSort (s:=le3) fun a _ b _=>le3_row a b]
 ·refine⟨?_,by simpa using hl⟩
  have:(l.map fun c:Ch=>c.1)=(l.map fun c:Ch=>[(c.2.path.length:Int),c.2.w,c.1]).map fun k=>k.getD 2 0:=by
   rw[List.map_map];rfl
  rw[this] at nd
  exact List.Pairwise.of_map (fun k:List Int=>k.getD 2 0) (fun a b h e=>h (by rw[e])) nd
theorem sort_head {l:List Ch}{c:Ch} (nd:(l.map (·.1)).Nodup) (hm:minC l=some c):∃ r,l.mergeSort leC=c::r:=by
 have hs:=List.pairwise_mergeSort (le:=leC) (fun a b c h1 h2=>by
  unfold leC at *
  simp only[Bool.not_eq_true'] at *
  exact ltL_neg _ _ _ h1 h2) (fun a b=>by
  unfold leC
  rcases ltL_tot (rk a) (rk b) with h | h
  ·rw[h];rfl
  ·rw[h];simp) l
 have hp:=List.mergeSort_perm l leC
 cases l with
 | nil=>cases hm
 | cons x t =>
  have hm:goC t x=c:=by simpa [minC] using hm
  have gm:=goC_min t x
  rw[hm] at gm
  cases e:(x::t).mergeSort leC with
  | nil=>rw[e] at hp;exact absurd hp.length_eq (by simp)
  | cons y r =>
   refine⟨r,?_⟩
   rw[e] at hp hs
   have hy:y∈x::t:=hp.mem_iff.mp List.mem_cons_self
   have hc:c∈y::r:=hp.mem_iff.mpr gm.1
   have h1:ltL (rk c) (rk y)=false:=by
    rcases List.mem_cons.mp hc with h | h
    ·rw[h];exact ltL_irr _
    ·have:=(List.pairwise_cons.mp hs).1 c h
     unfold leC at this
     simpa using this
   have ek:=ltL_anti _ _ (gm.2 y hy) h1
   have ek1:y.1=c.1:=by
    have:=congrArg (fun l:List Int=>l.getD 3 0) ek
    simpa [rk] using this.symm
   have:y=c:=by
    clear hs e h1 ek hp hc
    have hcx:c∈x::t:=gm.1
    revert hcx hy
    generalize x::t=l at nd
    intro hcx hy
    induction l with
    | nil=>cases hcx
    | cons z l ih =>
     rw[List.map_cons,List.nodup_cons] at nd
     rcases List.mem_cons.mp hcx with h | h
     ·rcases List.mem_cons.mp hy with h' | h'
      ·rw[h,h']
      ·exact absurd (List.mem_map_of_mem (f:=(·.1)) h') (by rw[← ek1,h];exact nd.1)
     ·rcases List.mem_cons.mp hy with h' | h'
      ·exact absurd (List.mem_map_of_mem (f:=(·.1)) h) (by rw[ek1,h'];exact nd.1)
      ·exact ih nd.2 h h'
   rw[this]
section
variable {G:List Den}
noncomputable def bstB:List PSt:=match p_best with
 | [_,_,.forD _ _ b,_,_]=>b
 | _=>[]
structure Well (m:M):Prop where
 f1:m.f1=false
 f4:m.f4=false
 nd:(m.nb.map (·.k)).Nodup
 len:m.nb.length≤7
 same:∀ b∈m.nb,b.l=b.s
 lo:m.lo=m.own
 ok:∀ b∈m.nb,∀ q∈b.s,(q.2:Rt).Ok∧okS q.2.pre
theorem ev_tup1 {ρ:Ev}{h:AH}{r:Rt}{e:PX} (he:ev G e ρ h=some (r.d,h)):ev G (.idx e (.con (.int 1))) ρ h=some (.tup (r.path.map .int),h):=by
 rw[ev,he]
 simp[Rt.d,idxD,atI,ixN]
theorem ev_tup2 {ρ:Ev}{h:AH}{r:Rt}{e:PX} (he:ev G e ρ h=some (r.d,h)):ev G (.idx e (.con (.int 2))) ρ h=some (.int r.w,h):=by
 rw[ev,he]
 simp[Rt.d,idxD,atI,ixN]
theorem Hp_tail (m:M) (t:List O):Hp m t=Hp m []++t:=by unfold Hp;simp
theorem bst_step {m:M}{n:Nat}{b:Nb} (hb:m.nb[n]?=some b) (nd:(m.nb.map (·.k)).Nodup) (hs:b.l=b.s) (p:List Nat) (acc:List D) (ha:acc.length<SZ) (x1 x2 x3:Option D) :
  ∃ y1 y2,forB G (.nm 5) bstB (.int b.k) [some (.ref 4),some (.ref 5),some (.int m.num),some (.str p),some (.ref (Hp m []).length),x1,x2] (Hp m [.lst acc])=.nx [some (.ref 4),some (.ref 5),some (.int m.num),some (.str p),some (.ref (Hp m []).length),y1,y2] (Hp m [.lst (acc++((cnt m.num p b).map rowOf).toList)]):=by
 have gt:=Hp_get m [.lst acc] hb
 rw[hs] at gt
 have lk:=(nb_lk 6 m.nb n b nd hb).2
 rw[forB_nm]
 unfold bstB p_best
 simp only[List.set_cons_succ,List.set_cons_zero]
 have e0:∀ z,ev G (.dget (.var 0) (.var 5)) [some (.ref 4),some (.ref 5),some (.int m.num),some (.str p),some (.ref (Hp m []).length),some (.int b.k),z] (Hp m [.lst acc])=some (.ref (6+4 * n+3),Hp m [.lst acc]):=fun z =>
  ev_dget (a:=4) (by simp) (d:=.int b.k) (by simp) (f:=m.f4) (kvs:=lsD 6 m.nb) rfl rfl lk
 have ed:ev G (.din false (.var 3) (.dget (.var 0) (.var 5))) [some (.ref 4),some (.ref 5),some (.int m.num),some (.str p),some (.ref (Hp m []).length),some (.int b.k),x2] (Hp m [.lst acc])=some (.bl (lkS b.s p).isSome,Hp m [.lst acc]):=by
  have:=ev_din (G:=G) (g:=false) (k:=.var 3) (d:=.str p) (ρ:=[some (.ref 4),some (.ref 5),some (.int m.num),some (.str p),some (.ref (Hp m []).length),some (.int b.k),x2]) (h:=Hp m [.lst acc]) (by simp) (e0 x2) gt.2.2 rfl
  rw[lk_dS,Option.isSome_map,Bool.false_xor] at this
  exact this
 cases hq:lkS b.s p with
 | none =>
  rw[hq] at ed
  have ec:cnt m.num p b=none:=by unfold cnt;rw[hq];rfl
  refine⟨some (.int b.k),x2,?_⟩
  rw[ec,exSs,exS,evB,evB,ed]
  simp[exSs]
 | some r =>
  rw[hq] at ed
  have e1:∀ z,ev G (.dget (.dget (.var 0) (.var 5)) (.var 3)) [some (.ref 4),some (.ref 5),some (.int m.num),some (.str p),some (.ref (Hp m []).length),some (.int b.k),z] (Hp m [.lst acc])=some (r.d,Hp m [.lst acc]):=fun z =>
   ev_dget (e0 z) (d:=.str p) (by simp) gt.2.2 rfl (by rw[lk_dS,hq];rfl)
  have e2:ev G (.cmp .NotIn (.var 2) (.blt .list [.idx (.dget (.dget (.var 0) (.var 5)) (.var 3)) (.con (.int 1))])) [some (.ref 4),some (.ref 5),some (.int m.num),some (.str p),some (.ref (Hp m []).length),some (.int b.k),x2] (Hp m [.lst acc])=some (.bl (!r.path.contains m.num),Hp m [.lst acc]):=by
   have:ev G (.blt .list [.idx (.dget (.dget (.var 0) (.var 5)) (.var 3)) (.con (.int 1))]) [some (.ref 4),some (.ref 5),some (.int m.num),some (.str p),some (.ref (Hp m []).length),some (.int b.k),x2] (Hp m [.lst acc])=some (.lst (r.path.map .int),Hp m [.lst acc]):=by
    rw[ev,evs,ev_tup1 (e1 x2)]
    simp[evs,bltD]
   rw[ev,ev_var]
   simp only[getV_succ,getV_zero,Option.bind_some]
   rw[this]
   simp only[Option.bind_some,vw_int,vw_lst,cmp_nin_lst,pureD,pureDs,pure_int,pure_ints,Bool.and_self,if_true,inD_ints]
  by_cases hc:r.path.contains m.num=true
  ·have ec:cnt m.num p b=none:=by unfold cnt;rw[hq];exact if_pos hc
   refine⟨some (.int b.k),x2,?_⟩
   rw[hc] at e2
   rw[ec,exSs,exS,evB,evB,ed]
   simp only[Option.bind_some,tru_bl,Option.isSome_some,if_true]
   rw[evB,e2]
   simp[exSs]
  ·have hc':r.path.contains m.num=false:=by simpa using hc
   have ec:cnt m.num p b=some (b.k,r):=by unfold cnt;rw[hq];exact if_neg hc
   refine⟨some (.int b.k),some r.d,?_⟩
   rw[hc'] at e2
   rw[ec,exSs,exS,evB,evB,ed]
   simp only[Option.bind_some,tru_bl,Option.isSome_some,if_true]
   rw[evB,e2]
   simp only[Option.bind_some,tru_bl,Bool.not_false,if_true]
   rw[exSs_nx (ρ':=[some (.ref 4),some (.ref 5),some (.int m.num),some (.str p),some (.ref (Hp m []).length),some (.int b.k),some r.d]) (h':=Hp m [.lst acc]) (by rw[exS,evR_ev (e1 x2)];rfl)]
   have ga:(Hp m [.lst acc])[(Hp m []).length]?=some (.lst acc):=by rw[Hp_tail];simp
   have sa:∀ y,(Hp m [.lst acc]).set (Hp m []).length y=Hp m [y]:=by intro y;rw[Hp_tail,Hp_tail m [y]];simp
   have sz:(4:Nat)≤SZ:=by decide
   have ev6:ev G (.var 6) [some (.ref 4),some (.ref 5),some (.int m.num),some (.str p),some (.ref (Hp m []).length),some (.int b.k),some r.d] (Hp m [.lst acc])=some (r.d,Hp m [.lst acc]):=by simp
   have et:evs G [.blt .len [.idx (.var 6) (.con (.int 1))],.idx (.var 6) (.con (.int 2)),.var 5,.var 6] [some (.ref 4),some (.ref 5),some (.int m.num),some (.str p),some (.ref (Hp m []).length),some (.int b.k),some r.d] (Hp m [.lst acc])=some ([.int r.path.length,.int r.w,.int b.k,r.d],Hp m [.lst acc]):=by
    have el:ev G (.blt .len [.idx (.var 6) (.con (.int 1))]) [some (.ref 4),some (.ref 5),some (.int m.num),some (.str p),some (.ref (Hp m []).length),some (.int b.k),some r.d] (Hp m [.lst acc])=some (.int r.path.length,Hp m [.lst acc]):=by
     rw[ev,evs,ev_tup1 ev6]
     simp[evs,bltD]
    simp only[evs,el,ev_tup2 ev6,ev6,ev_var,getV_succ,getV_zero,Option.bind_some]
   simp only[exSs,exS,evR,ev,et,ga,sa,ha,sz,getV_zero,getV_succ,Option.bind_some,if_true,List.length_cons,List.length_nil,Nat.reduceAdd]
   rfl
theorem bst_loop {m:M} (nd:(m.nb.map (·.k)).Nodup) (hs:∀ b∈m.nb,b.l=b.s) (p:List Nat):∀ (l2 l1:List Nb) (acc:List D) (x1 x2:Option D),m.nb=l1++l2→acc.length+l2.length<SZ →
  ∃ y1 y2,forL (forB G (.nm 5) bstB) ((l2.map (·.k)).map D.int) [some (.ref 4),some (.ref 5),some (.int m.num),some (.str p),some (.ref (Hp m []).length),x1,x2] (Hp m [.lst acc])=.nx [some (.ref 4),some (.ref 5),some (.int m.num),some (.str p),some (.ref (Hp m []).length),y1,y2] (Hp m [.lst (acc++(l2.filterMap (cnt m.num p)).map rowOf)])
 | [],l1,acc,x1,x2,_,_=>⟨x1,x2,by simp[forL]⟩
 | b::l2,l1,acc,x1,x2,e,hl=>by
  have hb:m.nb[l1.length]?=some b:=by rw[e];simp
  have hl':acc.length+(l2.length+1)<SZ:=hl
  obtain⟨y1,y2,q⟩:=bst_step (G:=G) hb nd (hs b (by rw[e];simp)) p acc (by omega) x1 x2 none
  obtain⟨z1,z2,w⟩:=bst_loop nd hs p l2 (l1++[b]) (acc++((cnt m.num p b).map rowOf).toList) y1 y2 (by rw[e];simp) (by
   have:(((cnt m.num p b).map rowOf).toList).length≤1:=by cases cnt m.num p b<;>simp
   rw[List.length_append];omega)
  refine⟨z1,z2,?_⟩
  have ee:acc++((cnt m.num p b).map rowOf).toList++(l2.filterMap (cnt m.num p)).map rowOf=acc++((b::l2).filterMap (cnt m.num p)).map rowOf:=by
   rw[List.filterMap_cons]
   cases cnt m.num p b<;>simp
  rw[ee] at w
  rw[List.map_cons,List.map_cons,forL,q]
  exact w
theorem cnt_fst {n:Int}{p:List Nat}{b:Nb}{c:Ch} (h:cnt n p b=some c):c.1=b.k∧∃ q∈b.s,q.2=c.2:=by
 unfold cnt at h
 cases hq:lkS b.s p with
 | none=>rw[hq] at h;cases h
 | some r =>
  rw[hq] at h
  have h:(if r.path.contains n=true then none else some (b.k,r))=some c:=h
  split at h
  ·cases h
  ·cases h
   exact⟨rfl,lk_val hq⟩
theorem cnt_nd (n:Int) (p:List Nat):∀ l:List Nb,(l.map (·.k)).Nodup→((l.filterMap (cnt n p)).map (·.1)).Nodup∧∀ x∈(l.filterMap (cnt n p)).map (·.1),x∈l.map (·.k)
 | [],_=>⟨by simp,by simp⟩
 | b::l,h=>by
  rw[List.map_cons,List.nodup_cons] at h
  have ih:=cnt_nd n p l h.2
  rw[List.filterMap_cons]
  cases hc:cnt n p b with
  | none=>exact⟨ih.1,fun x hx=>List.mem_cons_of_mem _ (ih.2 x hx)⟩
  | some c =>
   have e:=(cnt_fst hc).1
   simp only[List.map_cons,List.nodup_cons]
   refine⟨⟨fun z=>h.1 (by rw[← e];exact ih.2 _ z),ih.1⟩,fun x hx=>?_⟩
   rcases List.mem_cons.mp hx with h' | h'
   ·rw[h',e];exact List.mem_cons_self
   ·exact List.mem_cons_of_mem _ (ih.2 x h')
theorem pure_rt {r:Rt} (h:okS r.pre) (n:Nat):pureN (n+2) r.d=true:=by
 simp only[Rt.d,pure_tup,List.all_cons,List.all_nil,pure_str,pure_int,pure_ints,h.2,Bool.and_self]
theorem pure_row {c:Ch} (h:okS c.2.pre):pureN 15 (rowOf c)=true:=by
 simp only[rowOf,pure_tup,List.all_cons,List.all_nil,pure_int,pure_rt h 12,Bool.and_self]
def PBestL (f:Den):Prop:=∀ (m:M) (p:List Nat),Well m→f [.ref 4,.ref 5,.int m.num,.str p] (Hp m [])=.ok (chD (chM m p)) (Hp m [])
theorem bestL_ok:PBestL (cutDen (runF G 4 7 p_best)):=by
 intro m p W
 have t1:=ev_din (G:=G) (h:=Hp m []) (ρ:=startE 7 [.ref 4,.ref 5,.int m.num,.str p]) (g:=false) (k:=.var 3) (d:=.str p) (by simp[startE]) (o:=.var 1) (a:=5) (by simp[startE]) (f:=false) (kvs:=dS tt m.lo) rfl rfl
 rw[lk_dS,Option.isSome_map,Bool.false_xor,W.lo] at t1
 unfold chM
 by_cases ho:(lkS m.own p).isSome=true
 ·rw[if_pos ho]
  refine run_rt rfl ?_
  unfold p_best
  refine exSs_rt ?_
  rw[exS]
  simp only[evB,t1,Option.bind_some,tru_bl,ho,if_true]
  refine exSs_rt ?_
  have sz:(4:Nat)≤SZ:=by decide
  have sz3:(3:Nat)≤SZ:=by decide
  have e:ev G (.tup [.con (.int 0),.tup [.var 3,.tup [],.con (.int 0),.tup []],.con (.int 100)]) (startE 7 [.ref 4,.ref 5,.int m.num,.str p]) (Hp m [])=some (chD (some (ownC p)),Hp m []):=by
   simp[ev,evs,startE,chD,Ch.d,ownC,Rt.d,sz,sz3]
  rw[exS,evR_ev e]
 ·rw[if_neg ho]
  have ho':(lkS m.own p).isSome=false:=by simpa using ho
  have hn:=cnt_nd m.num p m.nb W.nd
  have hlen:(m.nb.filterMap (cnt m.num p)).length≤7:=Nat.le_trans (List.length_filterMap_le _ _) W.len
  have okc:∀ c∈m.nb.filterMap (cnt m.num p),okS c.2.pre:=by
   intro c hc
   obtain⟨b,hb,e⟩:=List.mem_filterMap.mp hc
   obtain⟨q,hq,e2⟩:=(cnt_fst e).2
   rw[← e2]
   exact (W.ok b hb q hq).2
  revert hn hlen okc
  generalize hcs:m.nb.filterMap (cnt m.num p)=cs
  intro hn hlen okc
  refine run_rtN (h':=Hp m [.lst (cs.map rowOf)]) rfl ?_ (nrf_ch _) (by rw[Hp_tail m [.lst (cs.map rowOf)],List.take_left' rfl])
  have e:p_best=[(match p_best with | a::_=>a | _=>.pas),.asg (.nm 4) (.new []),.forD (.nm 5) (.var 0) bstB,(match p_best with | [_,_,_,a,_]=>a | _=>.pas),(match p_best with | [_,_,_,_,a]=>a | _=>.pas)]:=rfl
  rw[e]
  rw[exSs_nx (ρ':=[some (.ref 4),some (.ref 5),some (.int m.num),some (.str p),none,none,none]) (h':=Hp m []) (by
   unfold p_best
   simp only
   rw[exS]
   simp only[evB,t1,Option.bind_some,tru_bl,ho']
   simp[exSs,startE])]
  rw[exSs_nx (ρ':=[some (.ref 4),some (.ref 5),some (.int m.num),some (.str p),some (.ref (Hp m []).length),none,none]) (h':=Hp m [.lst []]) (by
   have:ev G (.new []) [some (.ref 4),some (.ref 5),some (.int m.num),some (.str p),none,none,none] (Hp m [])=some (.ref (Hp m []).length,Hp m [.lst []]):=by
    rw[ev]
    simp only[evs,Option.bind_some]
    rw[if_pos (by decide),← Hp_tail]
   rw[exS,evR_ev this]
   rfl)]
  have nd':(({ m with f4:=true }:M).nb.map (·.k)).Nodup:=W.nd
  obtain⟨y1,y2,q⟩:=bst_loop (G:=G) (m:={ m with f4:=true }) nd' W.same p m.nb [] [] none none rfl (by have:=W.len;show 0+m.nb.length<16777216;omega)
  have hl2:(Hp { m with f4:=true } []).length=(Hp m []).length:=by rw[Hp_len,Hp_len]
  rw[hl2] at q
  simp only[List.nil_append] at q
  rw[hcs] at q
  rw[exSs_nx (ρ':=[some (.ref 4),some (.ref 5),some (.int m.num),some (.str p),some (.ref (Hp m []).length),y1,y2]) (h':=Hp m [.lst (cs.map rowOf)])]
  rotate_left
  ·have e0:ev G (.var 0) [some (.ref 4),some (.ref 5),some (.int m.num),some (.str p),some (.ref (Hp m []).length),none,none] (Hp m [.lst []])=some (.ref 4,Hp m [.lst []]):=by simp
   rw[exS,e0]
   simp only
   rw[dctW_of (d:=lsD 6 m.nb) (by show some (O.dct m.f4 (lsD 6 m.nb))=_;rw[W.f4])]
   simp only
   rw[(nb_keys 6 m.nb).2]
   have es:(Hp m [.lst []]).set 4 (.dct true (lsD 6 m.nb))=Hp { m with f4:=true } [.lst []]:=rfl
   rw[es]
   show thawR 4 (forL (forB G (.nm 5) bstB) _ _ _)=_
   rw[q]
   rw[thaw_nx (kvs:=lsD 6 m.nb) rfl]
   congr 1
   unfold Hp
   rw[W.f4]
   rfl
  have ga:(Hp m [.lst (cs.map rowOf)])[(Hp m []).length]?=some (.lst (cs.map rowOf)):=by rw[Hp_tail];simp
  have hpure:(cs.map rowOf).all (pureN 15)=true:=by
   rw[List.all_map,List.all_eq_true]
   exact fun c hc=>pure_row (okc c hc)
  have ev4:ev G (.var 4) [some (.ref 4),some (.ref 5),some (.int m.num),some (.str p),some (.ref (Hp m []).length),y1,y2] (Hp m [.lst (cs.map rowOf)])=some (.ref (Hp m []).length,Hp m [.lst (cs.map rowOf)]):=by simp
  have vw4:vw (Hp m [.lst (cs.map rowOf)]) (.ref (Hp m []).length)=.lst (cs.map rowOf):=by simp only[vw,ga]
  have te:evB G (.val (.cmp .Eq (.var 4) (.lst []))) [some (.ref 4),some (.ref 5),some (.int m.num),some (.str p),some (.ref (Hp m []).length),y1,y2] (Hp m [.lst (cs.map rowOf)])=some (cs.isEmpty,Hp m [.lst (cs.map rowOf)]):=by
   have sz0:(0:Nat)≤SZ:=by decide
   rw[evB,ev,ev4]
   simp only[Option.bind_some]
   simp only[ev,evs,Option.bind_some,List.length_nil,sz0,if_true,vw4,vw_lst,cmp_eq,pureD,pure_lst,hpure,List.all_nil,Bool.and_self]
   cases cs with
   | nil=>simp[eqD,eqDs]
   | cons a l=>simp[eqD,eqDs]
  unfold p_best
  simp only
  cases hcase:cs with
  | nil =>
   rw[hcase] at te
   refine exSs_rt ?_
   rw[exS,te]
   simp[exSs,exS,evR,ev,minC,chD]
  | cons x t =>
   have ne:cs.isEmpty=false:=by rw[hcase];rfl
   rw[← hcase]
   rw[ne] at te
   rw[exSs_nx (ρ':=[some (.ref 4),some (.ref 5),some (.int m.num),some (.str p),some (.ref (Hp m []).length),y1,y2]) (h':=Hp m [.lst (cs.map rowOf)]) (by rw[exS,te];simp[exSs])]
   obtain⟨c,hc⟩:∃ c,minC cs=some c:=by rw[hcase];exact⟨_,rfl⟩
   obtain⟨r,hr⟩:=sort_head hn.1 hc
   have hso:=sort_rows hn.1 (show cs.length<64 by omega)
   rw[hr] at hso
   have es:ev G (.srtR (.var 4)) [some (.ref 4),some (.ref 5),some (.int m.num),some (.str p),some (.ref (Hp m []).length),y1,y2] (Hp m [.lst (cs.map rowOf)])=some (.lst ((c::r).map rowOf),Hp m [.lst (cs.map rowOf)]):=by
    rw[ev,ev4]
    simp only[Option.bind_some,vw4,hso]
   have e0:ev G (.idx (.srtR (.var 4)) (.con (.int 0))) [some (.ref 4),some (.ref 5),some (.int m.num),some (.str p),some (.ref (Hp m []).length),y1,y2] (Hp m [.lst (cs.map rowOf)])=some (rowOf c,Hp m [.lst (cs.map rowOf)]):=by
    rw[ev,es]
    simp[idxD,atI,ixN]
   have sz3:(3:Nat)≤SZ:=by decide
   have e2:ev G (.tup [.idx (.idx (.srtR (.var 4)) (.con (.int 0))) (.con (.int 2)),.idx (.idx (.srtR (.var 4)) (.con (.int 0))) (.con (.int 3)),.con (.int 100)]) [some (.ref 4),some (.ref 5),some (.int m.num),some (.str p),some (.ref (Hp m []).length),y1,y2] (Hp m [.lst (cs.map rowOf)])=some (Ch.d c,Hp m [.lst (cs.map rowOf)]):=by
    have a2:ev G (.idx (.idx (.srtR (.var 4)) (.con (.int 0))) (.con (.int 2))) [some (.ref 4),some (.ref 5),some (.int m.num),some (.str p),some (.ref (Hp m []).length),y1,y2] (Hp m [.lst (cs.map rowOf)])=some (.int c.1,Hp m [.lst (cs.map rowOf)]):=by
     rw[ev,e0]
     simp[rowOf,idxD,atI,ixN]
    have a3:ev G (.idx (.idx (.srtR (.var 4)) (.con (.int 0))) (.con (.int 3))) [some (.ref 4),some (.ref 5),some (.int m.num),some (.str p),some (.ref (Hp m []).length),y1,y2] (Hp m [.lst (cs.map rowOf)])=some (c.2.d,Hp m [.lst (cs.map rowOf)]):=by
     rw[ev,e0]
     simp[rowOf,idxD,atI,ixN]
    rw[ev]
    simp only[evs,a2,a3,ev_con,Option.bind_some,List.length_cons,List.length_nil,Nat.reduceAdd,sz3,if_true]
    rfl
   refine exSs_rt ?_
   rw[exS,evR_ev e2,hc]
   rfl
end
end K13
namespace K13
open MP PySem
open K10 (Rt okS goodP goodR goodTags risT goodPath goodW BitStr PBits mulOk_l mulOk_r compL_cons ints_ofP strs_ofP bits_ok)
def TagsG (l:List Int):Prop:=goodTags l=true
def PTagsG (f:Den):Prop:=∀ (m:Int) (h:AH),∃ l:List Int,TagsG l∧f [.int m] h=.ok (.tup (l.map .int)) h
theorem tagsG_ok {G:List Den}:PTagsG (cutDen (runF G 1 2 p_tags)):=by
 intro m h
 suffices H:Rets (fun d=>∃ l:List Int,d=.tup (l.map .int)∧TagsG l) h (exSs G p_tags (startE 2 [.int m]) h) by
  obtain⟨d,⟨s,rfl,p⟩,e⟩:=run_rets H rfl
  exact⟨s,p,e⟩
 unfold p_tags
 have one:∀ (c q r:Int),0<q∧q<2 ^ 100→0<r→EvP G (.bin .Add (.con (.int c)) (.bin .Mod (.bin .FloorDiv (.var 0) (.con (.int q))) (.con (.int r)))) (startE 2 [.int m]) h fun d=>∃ i:Int,d=.int i∧c≤i∧i<c+r:=by
  intro c q r h1 h2
  refine EvI.p (P:=fun i=>c≤i∧i<c+r) (ei_add (P:=fun i=>i=c) (Q:=fun i=>0≤i∧i<r) (ei_con rfl) (ei_modC (P:=fun _=>True) (ei_fdivC (P:=fun _=>True) (ei_var (i:=m) (by simp[startE]) trivial) (fun _ _=>trivial) h1) (fun x _=>⟨Int.emod_nonneg _ (by omega),Int.emod_lt_of_pos _ h2⟩) h2) fun x y e p=>?_) fun i p=>⟨i,rfl,p⟩
  omega
 refine st_asg (Post:=Rets _ h) (P:=fun d=>∃ a b c e:Int,d=.lst [.int a,.int b,.int c,.int e]∧1≤a∧a<b∧b<c∧c<e∧e≤99) (ep_lst (PL:=fun ds=>∃ a b c e:Int,ds=[.int a,.int b,.int c,.int e]∧1≤a∧a<b∧b<c∧c<e∧e≤99)
  (el_cons (P2:=fun ds=>∃ b c e:Int,ds=[.int b,.int c,.int e]∧4≤b∧b<c∧c<e∧e≤99) (one 1 8 3 (by decide) (by decide))
   (el_cons (P2:=fun ds=>∃ c e:Int,ds=[.int c,.int e]∧95≤c∧c<e∧e≤99) (one 4 24 90 (by decide) (by decide))
    (el_two (one 95 2160 3 (by decide) (by decide)) (one 98 6480 2 (by decide) (by decide)) ?_) ?_) ?_) ?_) ?_
 ·rintro _ _ ⟨i,rfl,p⟩ ⟨j,rfl,q⟩
  exact⟨i,j,rfl,by omega,by omega,by omega⟩
 ·rintro _ _ ⟨i,rfl,p⟩ ⟨j,k,rfl,q⟩
  exact⟨i,j,k,rfl,by omega,by omega,by omega,by omega⟩
 ·rintro _ _ ⟨i,rfl,p⟩ ⟨j,k,l,rfl,q⟩
  exact⟨i,j,k,l,rfl,by omega,by omega,by omega,by omega,by omega⟩
 ·rintro _ ⟨i,j,k,l,rfl,q⟩
  exact⟨by simp[SZ],i,j,k,l,rfl,q⟩
 rintro _ ⟨a,b,c,e,rfl,h0,h1,h2,h3,h4⟩
 refine st_retP (P:=fun d=>∃ l:List Int,d=.tup (l.map .int)∧TagsG l) (ep_blt (PL:=fun ds=>∃ l:List Int,ds=[.lst (l.map .int)]∧TagsG l) (el_one (P1:=fun d=>∃ l:List Int,d=.lst (l.map .int)∧TagsG l) ?_ fun d ⟨l,e,p⟩=>⟨l,by rw[e],p⟩) fun ds ⟨l,e,p⟩=>⟨_,⟨l,rfl,p⟩,by rw[e];rfl⟩) fun d p=>p
 let s4:List Int:=[a,b,c,e]
 have bit:∀ k:Nat,k<4→∃ t:Bool,evB G (.val (.cmp .Eq (.bin .Mod (.bin .FloorDiv (.var 1) (.bin .LShift (.con (.int 1)) (.var 0))) (.con (.int 2))) (.con (.int 1)))) [some (.int k),some (.int m),some (.lst [.int a,.int b,.int c,.int e])] h=some (t,h):=by
  intro k hk
  have:=et_cmpI (G:=G) (ρ:=[some (.int k),some (.int m),some (.lst [.int a,.int b,.int c,.int e])]) (h:=h) (op:=.Eq) (PB':=fun _=>True) (ei_modC (n:=2) (P:=fun _=>True) (R:=fun _=>True) (ei_fdiv (Q:=fun y=>0<y∧y<2 ^ 100) (P:=fun _=>True) (R:=fun _=>True) (ei_var (j:=1) (i:=m) (by simp) trivial)
   (ei_shl (a:=.con (.int 1)) (b:=.var 0) (P:=fun x=>x=1) (Q:=fun x=>x=(k:Int)) (ei_con rfl) (ei_var (i:=k) (by simp) rfl) (fun x y e1 e2=>by subst e1 e2;exact⟨by omega,by omega,by decide⟩) fun x y e1 e2=>by
    subst e1 e2
    have:(2:Nat) ^ k≤2 ^ 4:=Nat.pow_le_pow_right (by decide) (by omega)
    have e:(1:Int) * 2 ^ ((k:Int)).toNat=((2 ^ k:Nat):Int):=by simp
    rw[e]
    have:(2 ^ k:Nat)<2 ^ 100:=Nat.lt_of_le_of_lt this (by decide)
    exact⟨by exact_mod_cast Nat.pow_pos (by decide),by exact_mod_cast this⟩) (fun y hy=>hy) fun _ _ _ _=>trivial) fun x _=>trivial) (ei_con (i:=1) (P:=fun _=>True) trivial) fun x y _ _=>⟨_,trivial,rfl⟩
  obtain⟨t,_,e⟩:=this
  exact⟨t,e⟩
 obtain⟨t0,e0⟩:=bit 0 (by decide)
 obtain⟨t1,e1⟩:=bit 1 (by decide)
 obtain⟨t2,e2⟩:=bit 2 (by decide)
 obtain⟨t3,e3⟩:=bit 3 (by decide)
 have keep:List.map (getV (List.set (startE 2 [D.int m]) 1 (some (D.lst [D.int a,D.int b,D.int c,D.int e])))) [0,1]=[some (.int m),some (.lst [.int a,.int b,.int c,.int e])]:=by simp[startE]
 refine⟨.lst (([(t0,a),(t1,b),(t2,c),(t3,e)].filterMap fun p=>if p.1 then some p.2 else none).map .int),⟨_,rfl,?_⟩,?_⟩
 ·cases t0<;>cases t1<;>cases t2<;>cases t3<;>simp[TagsG,goodTags,risT]<;>omega
 ·unfold ev evI
  rw[ev_con]
  show ((compL _ (List.map (fun i:Nat=>D.int (i:Int)) (List.range 4)) h).bind _)=_
  rw[keep]
  have r4:List.map (fun i:Nat=>D.int (i:Int)) (List.range 4)=[.int ((0:Nat):Int),.int ((1:Nat):Int),.int ((2:Nat):Int),.int ((3:Nat):Int)]:=rfl
  rw[r4]
  rw[compL_cons (o:=if t0 then some (.int a) else none),compL_cons (o:=if t1 then some (.int b) else none),compL_cons (o:=if t2 then some (.int c) else none),compL_cons (o:=if t3 then some (.int e) else none)]
  ·cases t0<;>cases t1<;>cases t2<;>cases t3<;>simp[compL,putO,SZ]
  ·simp only[e3,Option.bind_some];cases t3<;>simp[ev,idxD,atI,ixN]
  ·simp only[e2,Option.bind_some];cases t2<;>simp[ev,idxD,atI,ixN]
  ·simp only[e1,Option.bind_some];cases t1<;>simp[ev,idxD,atI,ixN]
  ·simp only[e0,Option.bind_some];cases t0<;>simp[ev,idxD,atI,ixN]
def PNum (f:Den):Prop:=∀ (m:Int) (h:AH),∃ l:List Int,l.length=8∧l.Nodup∧(∀ x∈l,1≤x∧x≤999)∧f [.int m,.int 8] h=.ok (.lst (l.map .int)) h
theorem num_ok {G:List Den}:PNum (cutDen (runF G 2 3 p_numbers)):=by
 intro m h
 suffices H:Rets (fun d=>∃ l:List Int,d=.lst (l.map .int)∧l.length=8∧l.Nodup∧(∀ x∈l,1≤x∧x≤999)) h (exSs G p_numbers (startE 3 [.int m,.int 8]) h) by
  obtain⟨d,⟨s,rfl,p⟩,e⟩:=run_rets H rfl
  exact⟨s,p.1,p.2.1,p.2.2,e⟩
 unfold p_numbers
 refine st_asg (Post:=Rets _ h) (P:=fun d=>∃ i:Int,d=.int i∧(i=1∨i=2∨i=500∨i=7)) (ep_idxA (ea_cons (ep_con ⟨_,rfl,.inl rfl⟩) (ea_cons (ep_con ⟨_,rfl,.inr (.inl rfl)⟩) (ea_cons (ep_con ⟨_,rfl,.inr (.inr (.inl rfl))⟩) (ea_cons (ep_con ⟨_,rfl,.inr (.inr (.inr rfl))⟩) ea_nil)))) (ei_var (i:=m) (by simp[startE]) trivial)) ?_
 rintro d ⟨st,rfl,hst⟩
 refine st_retP (P:=fun d=>d=.lst (([0,1,2,3,4,5,6,7]:List Int).map fun i=>.int ((m / 4+i * st) % 999+1))) ⟨_,rfl,?_⟩ ?_
 ·have hs:evI G (.rng (.var 1)) (List.set (startE 3 [D.int m,D.int 8]) 2 (some (D.int st))) h=some ((List.range (8:Int).toNat).map fun i:Nat=>D.int (i:Int),h):=evI_rng (n:=8) (by simp[startE]) ⟨by decide,by decide⟩
  have:=ev_comp (G:=G) (keep:=[0,2]) (elt:=.bin .Add (.bin .Mod (.bin .Add (.bin .FloorDiv (.var 1) (.con (.int 4))) (.bin .Mult (.var 0) (.var 2))) (.con (.int 999))) (.con (.int 1))) (g:=fun d=>match d with | .int i=>.int ((m / 4+i * st) % 999+1) | d=>d) hs (by rw[List.length_map,List.length_range];decide) (by
   intro d hd
   obtain⟨j,hj,rfl⟩:=List.mem_map.mp hd
   have hj:j<8:=by simpa using hj
   have ok:mulOk (j:Int) st=true:=mulOk_l (by omega)
   simp[ev,startE,binD,ok])
  rw[this]
  rfl
 ·rintro _ rfl
  refine⟨([0,1,2,3,4,5,6,7]:List Int).map fun i=>((m / 4+i * st) % 999+1),by rw[List.map_map];rfl,rfl,?_,?_⟩
  ·generalize m / 4=a
   rcases hst with rfl | rfl | rfl | rfl<;>(simp only[List.map_cons,List.map_nil,List.nodup_cons,List.mem_cons,List.not_mem_nil,or_false,not_or,not_false_eq_true,List.nodup_nil,and_true];omega)
  ·intro x hx
   obtain⟨i,_,rfl⟩:=List.mem_map.mp hx
   have h1:=Int.emod_nonneg (m / 4+i * st) (show (999:Int)≠0 by decide)
   have h2:=Int.emod_lt_of_pos (m / 4+i * st) (show (0:Int)<999 by decide)
   omega
def PPre (f:Den):Prop:=∀ (m:Int) (h:AH),∃ P:List (List Nat),P.length=7∧P.Nodup∧(∀ p∈P,BitStr p∧p.length≤16)∧f [.int m] h=.ok (.lst (P.map .str)) h
theorem bits_app {a b:List Nat} (ha:BitStr a) (hb:BitStr b):BitStr (a++b):=fun c hc=>by
 rcases List.mem_append.mp hc with h | h
 ·exact ha c h
 ·exact hb c h
theorem pre_ok {G:List Den}{φ:Den} (h26:G[26]?=some φ) (s26:PBits φ):PPre (cutDen (runF G 1 3 p_prefixes)):=by
 intro m h
 suffices H:Rets (fun d=>∃ P:List (List Nat),d=.lst (P.map .str)∧P.length=7∧P.Nodup∧(∀ p∈P,BitStr p∧p.length≤16)) h (exSs G p_prefixes (startE 3 [.int m]) h) by
  obtain⟨d,⟨s,rfl,p⟩,e⟩:=run_rets H rfl
  exact⟨s,p.1,p.2.1,p.2.2,e⟩
 unfold p_prefixes
 refine st_asg (Post:=Rets _ h) (P:=fun d=>∃ s,d=.str s∧BitStr s∧s.length≤12) ?_ ?_
 ·refine ep_call h26 (el_two (P1:=fun d=>∃ i:Int,d=.int i) (P2:=fun d=>∃ i:Int,d=.int i∧0≤i∧i≤12) (PL:=fun ds=>∃ i j:Int,ds=[.int i,.int j]∧0≤j∧j≤12) (EvI.p (P:=fun _=>True) (ei_fdivC (P:=fun _=>True) (ei_var (i:=m) (by simp[startE]) trivial) fun _ _=>trivial) fun i _=>⟨i,rfl⟩) (ep_idxA (ea_cons (ep_con ⟨_,rfl,by decide,by decide⟩) (ea_cons (ep_con ⟨_,rfl,by decide,by decide⟩) (ea_cons (ep_con ⟨_,rfl,by decide,by decide⟩) (ea_cons (ep_con ⟨_,rfl,by decide,by decide⟩) ea_nil)))) (ei_var (i:=m) (by simp[startE]) trivial)) ?_) ?_
  ·rintro _ _ ⟨i,rfl⟩ ⟨j,rfl,p⟩
   exact⟨i,j,rfl,p⟩
  ·rintro _ ⟨i,j,rfl,p1,p2⟩
   obtain⟨s,a,b,e⟩:=s26 i j h p1 (by omega)
   exact⟨.str s,⟨s,rfl,a,by omega⟩,e⟩
 rintro _ ⟨s,rfl,hb,hl⟩
 refine st_asg (Post:=Rets _ h) (P:=fun d=>d=.lst ([[],[48],[49],[48,48],[48,49,49],[49,48]].map fun t=>.str (s++t))) ⟨_,rfl,?_⟩ ?_
 ·have sz:∀ k:Nat,k≤20→s.length+k≤SZ:=fun k hk=>by show _≤16777216;omega
  have hs:evI G (.seq (.lst [.con (.str []),.con (.str [48]),.con (.str [49]),.con (.str [48,48]),.con (.str [48,49,49]),.con (.str [49,48])])) (List.set (startE 3 [D.int m]) 1 (some (D.str s))) h=some ([[],[48],[49],[48,48],[48,49,49],[49,48]].map D.str,h):=by
   refine evI_seq (d:=.lst ([[],[48],[49],[48,48],[48,49,49],[49,48]].map D.str)) ?_ rfl
   have sz6:(6:Nat)≤SZ:=by decide
   simp[ev,evs,sz6]
  rw[ev_comp (g:=fun d=>match d with | .str t=>.str (s++t) | d=>d) hs (by decide) (by
   intro d hd
   obtain⟨t,ht,rfl⟩:=List.mem_map.mp hd
   have ht3:t.length≤20:=by
    simp only[List.mem_cons,List.not_mem_nil,or_false] at ht
    rcases ht with rfl | rfl | rfl | rfl | rfl | rfl<;>decide
   simp[ev,startE,binD,sz _ ht3])]
  rfl
 rintro _ rfl
 refine st_retP (P:=fun d=>∃ t,BitStr t∧t.length=16∧d=.lst (([[],[48],[49],[48,48],[48,49,49],[49,48]].map fun t=>.str (s++t))++[.str t])) ?_ ?_
 ·have hb2:EvP G (.call 26 [.bin .FloorDiv (.var 0) (.con (.int 65536)),.con (.int 16)]) (List.set (List.set (startE 3 [D.int m]) 1 (some (D.str s))) 2 (some (D.lst ([[],[48],[49],[48,48],[48,49,49],[49,48]].map fun t=>.str (s++t))))) h (fun d=>∃ u,d=.str u∧BitStr u∧u.length=16):=by
   refine ep_call h26 (el_two (P1:=fun d=>∃ i:Int,d=.int i) (P2:=fun d=>d=.int 16) (PL:=fun ds=>∃ i:Int,ds=[.int i,.int 16]) (EvI.p (P:=fun _=>True) (ei_fdivC (P:=fun _=>True) (ei_var (i:=m) (by simp[startE]) trivial) fun _ _=>trivial) fun i _=>⟨i,rfl⟩) (ep_con rfl) ?_) ?_
   ·rintro _ _ ⟨i,rfl⟩ rfl
    exact⟨i,rfl⟩
   ·rintro _ ⟨i,rfl⟩
    obtain⟨u,a,b,e⟩:=s26 i 16 h (by decide) (by decide)
    exact⟨.str u,⟨u,rfl,a,by simpa using b⟩,e⟩
  obtain⟨_,⟨u,rfl,hu,hul⟩,eu⟩:=hb2
  have z1:s.length+u.length≤SZ:=by show _≤16777216;omega
  have z2:(s++u).length+1≤SZ:=by rw[List.length_append];show _≤16777216;omega
  have z3:(s++u++[48]).length≤SZ:=by rw[List.length_append,List.length_append];show _≤16777216;simp;omega
  refine⟨_,⟨(s++u++[48]).take 16,?_,?_,rfl⟩,?_⟩
  ·intro c hc
   refine bits_app (bits_app hb hu) (fun c hc=>?_) c (List.mem_of_mem_take hc)
   exact .inl (by simpa using hc)
  ·rw[List.length_take,List.length_append,List.length_append]
   simp
   omega
  ·have e1:ev G (.sl (.bin .Add (.bin .Add (.var 1) (.call 26 [.bin .FloorDiv (.var 0) (.con (.int 65536)),.con (.int 16)])) (.con (.str [48]))) none (some (.con (.int 16)))) (List.set (List.set (startE 3 [D.int m]) 1 (some (D.str s))) 2 (some (D.lst ([[],[48],[49],[48,48],[48,49,49],[49,48]].map fun t=>.str (s++t))))) h=some (.str ((s++u++[48]).take 16),h):=by
    have b1:ev G (.bin .Add (.var 1) (.call 26 [.bin .FloorDiv (.var 0) (.con (.int 65536)),.con (.int 16)])) (List.set (List.set (startE 3 [D.int m]) 1 (some (D.str s))) 2 (some (D.lst ([[],[48],[49],[48,48],[48,49,49],[49,48]].map fun t=>.str (s++t))))) h=some (.str (s++u),h):=by
     have gv:getV (List.set (List.set (startE 3 [D.int m]) 1 (some (D.str s))) 2 (some (D.lst ([[],[48],[49],[48,48],[48,49,49],[49,48]].map fun t=>.str (s++t))))) 1=some (.str s):=by simp[startE]
     rw[ev,ev_var,gv]
     simp only[Option.bind_some]
     rw[eu]
     simp only[Option.bind_some,vw_str,binD,z1,if_true]
    have b2:ev G (.bin .Add (.bin .Add (.var 1) (.call 26 [.bin .FloorDiv (.var 0) (.con (.int 65536)),.con (.int 16)])) (.con (.str [48]))) (List.set (List.set (startE 3 [D.int m]) 1 (some (D.str s))) 2 (some (D.lst ([[],[48],[49],[48,48],[48,49,49],[49,48]].map fun t=>.str (s++t))))) h=some (.str (s++u++[48]),h):=by
     rw[ev,b1]
     simp only[Option.bind_some,ev_con,vw_str,binD,List.length_cons,List.length_nil,Nat.zero_add,z2,if_true]
    have hc16:cut (s++u++[48]) none (some (16:Int))=(s++u++[48]).take 16:=cut_hi (n:=16) (by rw[List.length_append,List.length_append];simp;omega)
    rw[ev,b2]
    simp only[Option.bind_some,evo,ev_con,vw_str,slD,z3,if_true,hc16]
   have sz7:(7:Nat)≤SZ:=by decide
   have sz1:(1:Nat)≤SZ:=by decide
   have el:ev G (.lst [.sl (.bin .Add (.bin .Add (.var 1) (.call 26 [.bin .FloorDiv (.var 0) (.con (.int 65536)),.con (.int 16)])) (.con (.str [48]))) none (some (.con (.int 16)))]) (List.set (List.set (startE 3 [D.int m]) 1 (some (D.str s))) 2 (some (D.lst ([[],[48],[49],[48,48],[48,49,49],[49,48]].map fun t=>.str (s++t))))) h=some (.lst [.str ((s++u++[48]).take 16)],h):=by
    rw[ev,evs,e1]
    simp only[Option.bind_some,evs,List.length_cons,List.length_nil,Nat.zero_add,sz1,if_true]
   rw[ev,ev_var]
   simp only[startE,List.map_cons,List.map_nil,List.length_cons,List.length_nil,List.replicate,List.set_cons_succ,List.set_cons_zero,List.cons_append,List.nil_append,getV_succ,getV_zero,Option.bind_some] at el ⊢
   rw[el]
   simp only[Option.bind_some,vw_lst,binD,List.length_cons,List.length_nil,Nat.reduceAdd,sz7,if_true,List.cons_append,List.nil_append]
 ·rintro _ ⟨t,ht,hl16,rfl⟩
  refine⟨([[],[48],[49],[48,48],[48,49,49],[49,48]].map fun t=>s++t)++[t],rfl,rfl,?_,?_⟩
  ·rw[List.nodup_append]
   refine⟨?_,by simp,?_⟩
   ·simp
   ·intro a ha b hb' e
    have hb':b=t:=by simpa using hb'
    rw[hb'] at e
    have hla:=congrArg List.length e
    rw[hl16] at hla
    obtain⟨x,hx,rfl⟩:=List.mem_map.mp ha
    rw[List.length_append] at hla
    simp only[List.mem_cons,List.not_mem_nil,or_false] at hx
    rcases hx with rfl | rfl | rfl | rfl | rfl | rfl<;>simp at hla<;>omega
  ·intro p hp
   rcases List.mem_append.mp hp with hp | hp
   ·obtain⟨x,hx,rfl⟩:=List.mem_map.mp hp
    simp only[List.mem_cons,List.not_mem_nil,or_false] at hx
    refine⟨bits_app hb ?_,?_⟩
    ·rcases hx with rfl | rfl | rfl | rfl | rfl | rfl<;>intro c hc<;>simp at hc<;>omega
    ·rw[List.length_append]
     rcases hx with rfl | rfl | rfl | rfl | rfl | rfl<;>simp<;>omega
   ·have:p=t:=by simpa using hp
    rw[this]
    exact⟨ht,by omega⟩
end K13
namespace K13
open MP PySem
open K10 (Rt okS goodP goodR goodTags risT goodPath goodW BitStr PBits mulOk_l mulOk_r ints_ofP strs_ofP)
section
variable {G:List Den}
noncomputable def rtB:List PSt:=match p_route with
 | [_,.forS _ _ b,_,_]=>b
 | _=>[]
noncomputable abbrev rtE (mo first:Int) (P:List (List Nat)) (so:List Int) (n:Nat) (x5 x6:Option D):Ev:=[some (.int mo),some (.lst (P.map .str)),some (.int first),some (.lst (so.map .int)),some (.ref n),x5,x6]
theorem rt_step {h:AH}{mo first:Int}{P:List (List Nat)}{so:List Int} (hso:so≠[]) (acc:List D) (ha:acc.length<SZ) (j:Nat) (hj:j<11) (x5:Option D) :
  ∃ i∈so,forB G (.nm 5) rtB (.int j) (rtE mo first P so h.length x5 none) (h++[.lst acc])=.nx (rtE mo first P so h.length (some (.int j)) none) (h++[.lst (acc++[.int i])]):=by
 rw[forB_nm]
 unfold rtB p_route
 simp only[List.set_cons_succ,List.set_cons_zero]
 have hx:=ep_idxM (G:=G) (ρ:=rtE mo first P so h.length (some (.int j)) none) (h:=h++[.lst acc]) (j:=3) (xs:=so.map .int) (a:=.bin .FloorDiv (.var 0) (.bin .Add (.con (.int 64)) (.bin .Mult (.con (.int 13)) (.var 5)))) (PD:=fun d=>∃ i∈so,d=.int i) (by simp) (by simpa using hso) (by intro x hx;obtain⟨i,hi,rfl⟩:=List.mem_map.mp hx;exact⟨i,hi,rfl⟩)
  (ei_fdiv (P:=fun _=>True) (Q:=fun y=>y=64+13 * (j:Int)) (ei_var (i:=mo) (by simp) trivial) (ei_add (P:=fun x=>x=64) (Q:=fun x=>x=13 * (j:Int)) (ei_con rfl) (ei_mul (P:=fun x=>x=13) (Q:=fun x=>x=(j:Int)) (ei_con rfl) (ei_var (by simp) rfl) (fun x y e1 e2=>by subst e1;exact mulOk_l (by decide)) fun x y e1 e2=>by rw[e1,e2]) fun x y e1 e2=>by rw[e1,e2]) (fun y e=>by subst e;exact⟨by omega,by omega⟩) fun _ _ _ _=>trivial)
 obtain⟨d,⟨i,hi,rfl⟩,ex⟩:=hx
 refine⟨i,hi,?_⟩
 have ga:(h++[.lst acc])[h.length]?=some (O.lst acc):=by simp
 have sa:(h++[O.lst acc]).set h.length (.lst (acc++[.int i]))=h++[.lst (acc++[.int i])]:=by simp
 have ea:ev G (.app (.var 4) (.idx (.var 3) (.bin .Mod (.bin .FloorDiv (.var 0) (.bin .Add (.con (.int 64)) (.bin .Mult (.con (.int 13)) (.var 5)))) (.blt .len [.var 3])))) (rtE mo first P so h.length (some (.int j)) none) (h++[.lst acc])=some (.non,h++[.lst (acc++[.int i])]):=by
  rw[ev,ev_var]
  simp only[getV_succ,getV_zero,Option.bind_some]
  rw[ga]
  simp only
  rw[ex]
  simp only[Option.bind_some]
  rw[ga]
  simp only
  rw[if_pos ha,sa]
 rw[exSs_nx (by rw[exS,evR_ev ea])]
 rw[exSs]
theorem rt_loop {h:AH}{mo first:Int}{P:List (List Nat)}{so:List Int} (hso:so≠[]):∀ (ds:List Nat) (acc:List D) (x5:Option D),(∀ j∈ds,j<11)→acc.length+ds.length<SZ →
  ∃ (q:List Int) (y5:Option D),q.length=ds.length∧(∀ i∈q,i∈so)∧forL (forB G (.nm 5) rtB) (ds.map fun i:Nat=>D.int (i:Int)) (rtE mo first P so h.length x5 none) (h++[.lst acc])=.nx (rtE mo first P so h.length y5 none) (h++[.lst (acc++q.map .int)])
 | [],acc,x5,_,_=>⟨[],x5,rfl,by simp,by simp[forL]⟩
 | j::ds,acc,x5,hd,hl=>by
  have hl':acc.length+(ds.length+1)<SZ:=hl
  obtain⟨i,hi,e⟩:=rt_step (G:=G) (h:=h) (mo:=mo) (first:=first) (P:=P) hso acc (by omega) j (hd j List.mem_cons_self) x5
  obtain⟨q,y5,a,b,c⟩:=rt_loop (h:=h) (mo:=mo) (first:=first) (P:=P) hso ds (acc++[.int i]) (some (.int j)) (fun x hx=>hd x (List.mem_cons_of_mem _ hx)) (by rw[List.length_append];simp;omega)
  refine⟨i::q,y5,by simp[a],?_,?_⟩
  ·intro x hx
   rcases List.mem_cons.mp hx with rfl | hx
   ·exact hi
   ·exact b x hx
  ·rw[List.map_cons,forL,e]
   simp only
   rw[c]
   simp
def PRoute (f:Den):Prop:=∀ (mo first:Int) (P:List (List Nat)) (so:List Int) (h:AH),P≠[]→so≠[]→(∀ i∈so,1≤i∧i≤999)→1≤first→first≤999 →
 ∃ r:Rt,r.pre∈P∧(∃ q,r.path=first::q)∧goodPath r.path=true∧goodW r.w=true∧goodTags r.tags=true∧f [.int mo,.lst (P.map .str),.int first,.lst (so.map .int)] h=.ok r.d h
theorem route_ok {φ:Den} (h28:G[28]?=some φ) (s28:PTagsG φ):PRoute (cutDen (runF G 4 7 p_route)):=by
 intro mo first P so h hP hso hs1 hf1 hf2
 have e:p_route=[.asg (.nm 4) (.new [.var 2]),.forS (.nm 5) (match p_route with | [_,.forS _ i _,_,_]=>i | _=>.seq .dnew) rtB,(match p_route with | [_,_,a,_]=>a | _=>.pas),(match p_route with | [_,_,_,a]=>a | _=>.pas)]:=rfl
 have hn:EvI G (.idx (.lst [.bin .Mod (.var 0) (.con (.int 3)),.bin .Mod (.var 0) (.con (.int 5)),.con (.int 11)]) (.bin .Mod (.bin .FloorDiv (.var 0) (.con (.int 16))) (.con (.int 3)))) (rtE mo first P so h.length none none) (h++[.lst [.int first]]) (fun i=>0≤i∧i≤11):=by
  have v0:∀ {Q:Int→Prop},Q mo→EvI G (.var 0) (rtE mo first P so h.length none none) (h++[.lst [.int first]]) Q:=fun q=>ei_var (by simp) q
  have:=ep_idxA (G:=G) (ρ:=rtE mo first P so h.length none none) (h:=h++[.lst [.int first]]) (n:=3) (es:=[.bin .Mod (.var 0) (.con (.int 3)),.bin .Mod (.var 0) (.con (.int 5)),.con (.int 11)]) (a:=.bin .FloorDiv (.var 0) (.con (.int 16))) (PD:=fun d=>∃ i:Int,d=.int i∧0≤i∧i≤11)
   (ea_cons (EvI.p (P:=fun i=>0≤i∧i≤11) (ei_modC (P:=fun _=>True) (v0 trivial) fun x _=>by omega) fun i p=>⟨i,rfl,p⟩) (ea_cons (EvI.p (P:=fun i=>0≤i∧i≤11) (ei_modC (P:=fun _=>True) (v0 trivial) fun x _=>by omega) fun i p=>⟨i,rfl,p⟩) (ea_cons (ep_con ⟨11,rfl,by decide,by decide⟩) ea_nil)))
   (ei_fdivC (P:=fun _=>True) (v0 trivial) fun _ _=>trivial)
  obtain⟨d,⟨i,rfl,p⟩,q⟩:=this
  exact⟨i,p,q⟩
 obtain⟨n,hn12,en⟩:=hn
 obtain⟨q,y5,hq,hqs,lp⟩:=rt_loop (G:=G) (h:=h) (mo:=mo) (first:=first) (P:=P) hso (List.range n.toNat) [.int first] none (fun j hj=>by have:=List.mem_range.mp hj;omega) (by rw[List.length_range];show 1+n.toNat<16777216;omega)
 have hql:q.length≤11:=by rw[hq,List.length_range];omega
 have hw:EvP G (.idx (.lst [.con (.int 0),.bin .Mod (.bin .FloorDiv (.var 0) (.con (.int 4096))) (.con (.int 3)),.con (.int 1000)]) (.bin .Mod (.bin .FloorDiv (.var 0) (.con (.int 16384))) (.con (.int 3)))) (rtE mo first P so h.length y5 none) (h++[.lst (.int first::q.map .int)]) (fun d=>∃ i:Int,d=.int i∧0≤i∧i≤1000):=by
  have v0:∀ {Q:Int→Prop},Q mo→EvI G (.var 0) (rtE mo first P so h.length y5 none) (h++[.lst (.int first::q.map .int)]) Q:=fun q=>ei_var (by simp) q
  exact ep_idxA (n:=3) (ea_cons (ep_con ⟨0,rfl,by decide,by decide⟩) (ea_cons (EvI.p (P:=fun i=>0≤i∧i≤1000) (ei_modC (P:=fun _=>True) (ei_fdivC (P:=fun _=>True) (v0 trivial) fun _ _=>trivial) fun x _=>by omega) fun i p=>⟨i,rfl,p⟩) (ea_cons (ep_con ⟨1000,rfl,by decide,by decide⟩) ea_nil))) (ei_fdivC (P:=fun _=>True) (v0 trivial) fun _ _=>trivial)
 obtain⟨_,⟨w,rfl,hw0,hw1⟩,ew⟩:=hw
 have hp:=ep_idxM (G:=G) (ρ:=rtE mo first P so h.length y5 (some (.int w))) (h:=h++[.lst (.int first::q.map .int)]) (j:=1) (xs:=P.map .str) (a:=.bin .FloorDiv (.var 0) (.con (.int 65536))) (PD:=fun d=>∃ i∈P,d=.str i) (by simp) (by simpa using hP) (by intro x hx;obtain⟨i,hi,rfl⟩:=List.mem_map.mp hx;exact⟨i,hi,rfl⟩)
  (ei_fdivC (P:=fun _=>True) (ei_var (i:=mo) (by simp) trivial) fun _ _=>trivial)
 obtain⟨_,⟨pr,hpr,rfl⟩,ep⟩:=hp
 have ht:EvP G (.call 28 [.bin .FloorDiv (.var 0) (.bin .Pow (.con (.int 2)) (.con (.int 24)))]) (rtE mo first P so h.length y5 (some (.int w))) (h++[.lst (.int first::q.map .int)]) (fun d=>∃ l:List Int,d=.tup (l.map .int)∧TagsG l):=by
  refine ep_call h28 (el_one (P1:=fun d=>∃ i:Int,d=.int i) (PL:=fun ds=>∃ i:Int,ds=[.int i]) (EvI.p (P:=fun _=>True) (ei_fdivP (P:=fun _=>True) (ei_var (i:=mo) (by simp) trivial) fun _ _=>trivial) fun i _=>⟨i,rfl⟩) fun d ⟨i,e⟩=>⟨i,by rw[e]⟩) ?_
  rintro _ ⟨i,rfl⟩
  obtain⟨l,a,b⟩:=s28 i (h++[.lst (.int first::q.map .int)])
  exact⟨_,⟨l,rfl,a⟩,b⟩
 obtain⟨_,⟨tg,rfl,htg⟩,et⟩:=ht
 refine⟨⟨pr,first::q,w,tg⟩,hpr,⟨q,rfl⟩,?_,?_,htg,?_⟩
 ·show goodPath (first::q)=true
  unfold goodPath
  have:(first::q).all (fun n=>decide (1≤n)&&decide (n≤999))=true:=by
   rw[List.all_eq_true]
   intro x hx
   rcases List.mem_cons.mp hx with rfl | hx
   ·simp[hf1,hf2]
   ·have:=hs1 x (hqs x hx)
    simp[this.1,this.2]
  rw[this]
  have h1:(1:Int)≤((first::q).length:Int):=by simp;omega
  have h2:((first::q).length:Int)≤12:=by simp;omega
  simp only[h1,h2,decide_true,Bool.and_self]
 ·show goodW w=true
  unfold goodW
  simp[hw0,hw1]
 ·refine run_rtN (h':=h++[.lst (.int first::q.map .int)]) rfl ?_ (nrf_rt _) (List.take_left' rfl)
  rw[e]
  have sz1:(1:Nat)≤SZ:=by decide
  rw[exSs_nx (ρ':=rtE mo first P so h.length none none) (h':=h++[.lst [.int first]]) (by
   have:ev G (.new [.var 2]) (startE 7 [.int mo,.lst (P.map .str),.int first,.lst (so.map .int)]) h=some (.ref h.length,h++[.lst [.int first]]):=by
    simp[ev,evs,startE,sz1]
   rw[exS,evR_ev this]
   rfl)]
  rw[exSs_nx (ρ':=rtE mo first P so h.length y5 none) (h':=h++[.lst (.int first::q.map .int)]) (by
   unfold p_route
   simp only
   rw[exS_for (evI_rng en ⟨by omega,by omega⟩),lp]
   rfl)]
  unfold p_route
  simp only
  rw[exSs_nx (ρ':=rtE mo first P so h.length y5 (some (.int w))) (h':=h++[.lst (.int first::q.map .int)]) (by
   rw[exS,evR_ev ew]
   rfl)]
  refine exSs_rt ?_
  have sz4:(4:Nat)≤SZ:=by decide
  have ga:(h++[.lst (.int first::q.map .int)])[h.length]?=some (O.lst (.int first::q.map .int)):=by simp
  have etu:ev G (.blt .tuple [.var 4]) (rtE mo first P so h.length y5 (some (.int w))) (h++[.lst (.int first::q.map .int)])=some (.tup (.int first::q.map .int),h++[.lst (.int first::q.map .int)]):=by
   rw[ev]
   simp only[evs,ev_var,getV_succ,getV_zero,Option.bind_some,List.map_cons,List.map_nil,vw,ga,bltD]
  have er:ev G (.tup [.idx (.var 1) (.bin .Mod (.bin .FloorDiv (.var 0) (.con (.int 65536))) (.blt .len [.var 1])),.blt .tuple [.var 4],.var 6,.call 28 [.bin .FloorDiv (.var 0) (.bin .Pow (.con (.int 2)) (.con (.int 24)))]]) (rtE mo first P so h.length y5 (some (.int w))) (h++[.lst (.int first::q.map .int)])=some (Rt.d ⟨pr,first::q,w,tg⟩,h++[.lst (.int first::q.map .int)]):=by
   rw[ev]
   simp only[evs,ep,etu,et,ev_var,getV_succ,getV_zero,Option.bind_some,List.length_cons,List.length_nil,Nat.reduceAdd,sz4,if_true]
   rfl
  rw[exS,evR_ev er]
end
end K13
namespace K13
open MP PySem
open K10 (Rt okS goodP goodR goodTags risT goodPath goodW BitStr)
theorem cnt_setL (n:Int) (p:List Nat):∀ (l:List Nb) (i:Nat) (x:List (List Nat×Rt)),(setL l i x).filterMap (cnt n p)=l.filterMap (cnt n p)
 | [],i,x=>by unfold setL;simp
 | b::r,0,x=>rfl
 | b::r,i+1,x=>by
  show (b::setL r i x).filterMap (cnt n p)=_
  rw[List.filterMap_cons,List.filterMap_cons,cnt_setL n p r i x]
theorem cnt_setS (n:Int) (p q:List Nat) (r:Rt) (hne:p≠q):∀ (l:List Nb) (i:Nat) (b:Nb),l[i]?=some b→(setS l i (putS b.s q r)).filterMap (cnt n p)=l.filterMap (cnt n p)
 | [],i,b,h=>by cases h
 | c::l,0,b,h=>by
  cases h
  show ({ c with s:=putS c.s q r }::l).filterMap (cnt n p)=_
  rw[List.filterMap_cons,List.filterMap_cons]
  have:cnt n p { c with s:=putS c.s q r }=cnt n p c:=by
   unfold cnt
   simp only
   rw[lk_put,if_neg hne]
  rw[this]
 | c::l,i+1,b,h=>by
  have h:l[i]?=some b:=h
  show (c::setS l i _).filterMap (cnt n p)=_
  rw[List.filterMap_cons,List.filterMap_cons,cnt_setS n p q r hne l i b h]
structure Inv (m:M) (P:List (List Nat)) (j:Nat):Prop extends Well m where
 rng:∀ b∈m.nb,1≤b.k∧b.k≤999
 sl:∀ b∈m.nb,b.s.length≤j
 ol:m.own.length≤j
 cl:m.ch.length≤2 * j
 keys:∀ b∈m.nb,∀ p∈b.s.map (·.1),p∈P
 okeys:∀ p∈m.own.map (·.1),p∈P
 chnd:(m.ch.map (·.1)).Nodup
 chl:∀ p,lkS m.ch p=chM m p
theorem chM_congr {m m':M}{p:List Nat} (h1:m'.num=m.num) (h2:lkS m'.own p=lkS m.own p) (h3:m'.nb.filterMap (cnt m.num p)=m.nb.filterMap (cnt m.num p)):chM m' p=chM m p:=by
 unfold chM
 rw[h1,h2,h3]
theorem lk_chS {m:M}{p q:List Nat}:lkS (chS m p) q=if q=p then chM m p else lkS m.ch q:=by
 unfold chS
 cases h:chM m p with
 | none =>
  simp only
  rw[lk_drop]
 | some c =>
  simp only
  rw[lk_put]
theorem chS_len {m:M}{p:List Nat}:(chS m p).length≤m.ch.length+1:=by
 unfold chS
 cases chM m p with
 | none=>exact Nat.le_succ_of_le drop_len
 | some c=>exact put_len
theorem chS_nd {m:M}{p:List Nat} (h:(m.ch.map (·.1)).Nodup):((chS m p).map (·.1)).Nodup:=by
 unfold chS
 cases chM m p with
 | none=>exact drop_nd h
 | some c=>exact put_nd h
noncomputable def turnM (m:M) (n:Nat) (b:Nb) (r:Rt):M:={ hearM m n b r with nb:=setL (hearM m n b r).nb n (putS b.l r.pre r) }
theorem mem_set2 {l:List Nb}{n:Nat}{b:Nb}{s t:List (List Nat×Rt)} (hb:l[n]?=some b):∀ c∈setL (setS l n s) n t,c∈l∨c=⟨b.k,s,t⟩:=by
 induction l generalizing n with
 | nil=>cases hb
 | cons x l ih =>
  intro c hc
  cases n with
  | zero =>
   cases hb
   have hc:c∈(⟨b.k,s,t⟩:Nb)::l:=hc
   rcases List.mem_cons.mp hc with h | h
   ·exact .inr h
   ·exact .inl (List.mem_cons_of_mem _ h)
  | succ n =>
   have hb:l[n]?=some b:=hb
   have hc:c∈x::setL (setS l n s) n t:=hc
   rcases List.mem_cons.mp hc with h | h
   ·exact .inl (by rw[h];exact List.mem_cons_self)
   ·rcases ih hb c h with h | h
    ·exact .inl (List.mem_cons_of_mem _ h)
    ·exact .inr h
theorem setL_keys:∀ (l:List Nb) (n:Nat) (s:List (List Nat×Rt)),(setL l n s).map (·.k)=l.map (·.k)
 | [],n,s=>by unfold setL;simp
 | b::r,0,s=>rfl
 | b::r,n+1,s=>congrArg (List.cons b.k) (setL_keys r n s)
theorem turn_inv {m:M}{P:List (List Nat)}{j n:Nat}{b:Nb}{r:Rt} (I:Inv m P j) (hb:m.nb[n]?=some b) (hp:r.pre∈P) (ok:r.Ok) (okp:okS r.pre):Inv (turnM m n b r) P (j+1):=by
 have hbm:b∈m.nb:=List.mem_of_getElem? hb
 have hbs:=I.same b hbm
 have ks:(turnM m n b r).nb.map (·.k)=m.nb.map (·.k):=by
  show (setL (setS m.nb n _) n _).map (·.k)=_
  rw[setL_keys,setS_keys]
 have mem:∀ c∈(turnM m n b r).nb,c∈m.nb∨c=⟨b.k,putS b.s r.pre r,putS b.l r.pre r⟩:=mem_set2 hb
 have cm:∀ q,chM (turnM m n b r) q=chM { m with nb:=setS m.nb n (putS b.s r.pre r) } q:=fun q=>chM_congr rfl rfl (cnt_setL _ _ _ _ _)
 exact {
  f1:=I.f1
  f4:=I.f4
  nd:=by rw[ks];exact I.nd
  len:=by have:=congrArg List.length ks;simp at this;rw[this];exact I.len
  same:=fun c hc=>by
   rcases mem c hc with h | h
   ·exact I.same c h
   ·rw[h];show putS b.l r.pre r=putS b.s r.pre r;rw[hbs]
  lo:=I.lo
  ok:=fun c hc q hq=>by
   rcases mem c hc with h | h
   ·exact I.ok c h q hq
   ·rw[h] at hq
    exact put_all (P:=fun t:Rt=>t.Ok∧okS t.pre) (fun q hq=>I.ok b hbm q hq) ⟨ok,okp⟩ q hq
  rng:=fun c hc=>by
   rcases mem c hc with h | h
   ·exact I.rng c h
   ·rw[h];exact I.rng b hbm
  sl:=fun c hc=>by
   rcases mem c hc with h | h
   ·exact Nat.le_succ_of_le (I.sl c h)
   ·rw[h]
    exact Nat.le_trans put_len (Nat.succ_le_succ (I.sl b hbm))
  ol:=Nat.le_succ_of_le I.ol
  cl:=by
   show (chS _ r.pre).length≤2 * (j+1)
   refine Nat.le_trans chS_len ?_
   have:=I.cl
   show m.ch.length+1≤_
   omega
  keys:=fun c hc p hp'=>by
   rcases mem c hc with h | h
   ·exact I.keys c h p hp'
   ·rw[h] at hp'
    rcases put_mem hp' with h | h
    ·rw[h];exact hp
    ·exact I.keys b hbm p h
  okeys:=I.okeys
  chnd:=chS_nd (m:={ m with nb:=setS m.nb n (putS b.s r.pre r) }) I.chnd
  chl:=fun q=>by
   show lkS (chS { m with nb:=setS m.nb n (putS b.s r.pre r) } r.pre) q=_
   rw[lk_chS,cm]
   by_cases h:q=r.pre
   ·rw[if_pos h,h]
   ·rw[if_neg h]
    show lkS m.ch q=_
    rw[I.chl q]
    exact (chM_congr (m:=m) (m':={ m with nb:=setS m.nb n (putS b.s r.pre r) }) rfl rfl (cnt_setS _ _ _ _ h _ _ _ hb)).symm }
noncomputable def ownT (m:M) (p:List Nat):M:={ ownM m p with lo:=putS m.lo p () }
theorem own_inv {m:M}{P:List (List Nat)}{j:Nat}{p:List Nat} (I:Inv m P j) (hp:p∈P):Inv (ownT m p) P (j+1):={
  f1:=I.f1
  f4:=I.f4
  nd:=I.nd
  len:=I.len
  same:=I.same
  lo:=by show putS m.lo p ()=putS m.own p ();rw[I.lo]
  ok:=I.ok
  rng:=I.rng
  sl:=fun c hc=>Nat.le_succ_of_le (I.sl c hc)
  ol:=Nat.le_trans put_len (Nat.succ_le_succ I.ol)
  cl:=by
   show (chS _ p).length≤2 * (j+1)
   refine Nat.le_trans chS_len ?_
   have:=I.cl
   show m.ch.length+1≤_
   omega
  keys:=I.keys
  okeys:=fun q hq=>by
   rcases put_mem hq with h | h
   ·rw[h];exact hp
   ·exact I.okeys q h
  chnd:=chS_nd (m:={ m with own:=putS m.own p () }) I.chnd
  chl:=fun q=>by
   show lkS (chS { m with own:=putS m.own p () } p) q=chM { m with own:=putS m.own p () } q
   rw[lk_chS]
   by_cases h:q=p
   ·rw[if_pos h,h]
   ·rw[if_neg h]
    show lkS m.ch q=_
    rw[I.chl q]
    exact (chM_congr (m:=m) (m':={ m with own:=putS m.own p () }) rfl (by show lkS (putS m.own p ()) q=_;rw[lk_put,if_neg h]) rfl).symm }
theorem Inv.mono {m:M}{P:List (List Nat)}{i j:Nat} (I:Inv m P i) (h:i≤j):Inv m P j :=
 { I with sl:=fun b hb=>Nat.le_trans (I.sl b hb) h,ol:=Nat.le_trans I.ol h,cl:=Nat.le_trans I.cl (Nat.mul_le_mul_left _ h) }
theorem minC_mem {l:List Ch}{c:Ch} (h:minC l=some c):c∈l:=by
 cases l with
 | nil=>cases h
 | cons x t =>
  have h:goC t x=c:=by simpa [minC] using h
  rw[← h]
  exact (goC_min t x).1
theorem chM_ok {m:M} (W:Well m) {p:List Nat}{c:Ch} (hp:okS p) (h:chM m p=some c):okS c.2.pre:=by
 unfold chM at h
 split at h
 ·cases h;exact hp
 ·obtain⟨b,hb,e⟩:=List.mem_filterMap.mp (minC_mem h)
  obtain⟨q,hq,e2⟩:=(cnt_fst e).2
  rw[← e2]
  exact (W.ok b hb q hq).2
theorem chM_dom {m:M}{P:List (List Nat)}{j:Nat} (I:Inv m P j) {p:List Nat}{c:Ch} (h:chM m p=some c):p∈P:=by
 unfold chM at h
 split at h
 ·rename_i ho
  cases hq:lkS m.own p with
  | none=>rw[hq] at ho;cases ho
  | some u=>exact I.okeys p (lk_mem hq)
 ·obtain⟨b,hb,e⟩:=List.mem_filterMap.mp (minC_mem h)
  unfold cnt at e
  cases hq:lkS b.s p with
  | none=>rw[hq] at e;cases e
  | some r=>exact I.keys b hb p (lk_mem hq)
theorem fnd_spec (g:List Nat→Option Ch) (a:List Nat):∀ n,(∀ c,fndG g a n=some c→∃ i,i≤n∧g (a.take i)=some c∧∀ j,i<j→j≤n→g (a.take j)=none)∧(fndG g a n=none→∀ j,j≤n→g (a.take j)=none)
 | 0=>by
  unfold fndG
  refine⟨fun c h=>⟨0,Nat.le_refl _,h,fun j h1 h2=>by omega⟩,fun h j hj=>?_⟩
  have:j=0:=by omega
  rw[this];exact h
 | n+1=>by
  have ih:=fnd_spec g a n
  unfold fndG
  cases hq:g (a.take (n+1)) with
  | some c' =>
   refine⟨fun c h=>?_,fun h=>by cases h⟩
   cases h
   exact⟨n+1,Nat.le_refl _,hq,fun j h1 h2=>by omega⟩
  | none =>
   refine⟨fun c h=>?_,fun h j hj=>?_⟩
   ·obtain⟨i,h1,h2,h3⟩:=ih.1 c h
    refine⟨i,by omega,h2,fun j hj1 hj2=>?_⟩
    by_cases e:j=n+1
    ·rw[e];exact hq
    ·exact h3 j hj1 (by omega)
   ·by_cases e:j=n+1
    ·rw[e];exact hq
    ·exact ih.2 h j (by omega)
end K13
namespace K13
open MP PySem
open K10 (Rt okS goodP goodR goodTags risT goodPath goodW BitStr)
theorem cut_any {s:List Nat}{n:Nat}:cut s none (some (n:Int))=s.take n:=by
 have e1:sIx s.length s.length (some (n:Int))=min n s.length:=by
  show (if (n:Int)<0 then ((n:Int)+(s.length:Int)).toNat else min (n:Int).toNat s.length)=_
  rw[if_neg (by omega)]
  rfl
 unfold cut
 rw[e1]
 show (s.drop 0).take (min n s.length - 0)=_
 rw[List.drop_zero,Nat.sub_zero]
 exact List.take_eq_take_min.symm
theorem range_getD {α:Type} (d:α):∀ P:List α,(List.range P.length).map (fun i=>P.getD i d)=P:=by
 intro P
 refine List.ext_getElem? fun i=>?_
 by_cases h:i<P.length
 ·simp[h]
 ·simp[h]
theorem eqD_refl_ints:∀ l:List Int,eqDs (l.map D.int) (l.map D.int)=true
 | []=>by simp[eqDs]
 | a::l=>by rw[List.map_cons,eqDs,eqD_refl_ints l];simp
theorem eqD_rt (r:Rt):eqD r.d r.d=true:=by
 simp[Rt.d,eqD,eqDs,eqD_refl_ints]
theorem eqD_ch (c:Option Ch):eqD (chD c) (chD c)=true:=by
 cases c with
 | none=>simp[chD]
 | some c=>simp[chD,Ch.d,eqD,eqDs,eqD_rt]
theorem pure_ch {c:Option Ch} (h:∀ x,c=some x→okS x.2.pre) (n:Nat):pureN (n+3) (chD c)=true:=by
 cases c with
 | none=>simp[chD]
 | some c =>
  simp only[chD,Ch.d,pure_tup,List.all_cons,List.all_nil,pure_int,pure_rt (h c rfl) n,Bool.and_self]
section
variable {G:List Den}
theorem ev_cmpEq {ρ:Ev}{h:AH}{a b:PX}{x y:D} (ea:ev G a ρ h=some (x,h)) (eb:ev G b ρ h=some (y,h)) (vx:vw h x=x) (vy:vw h y=y) (px:pureN 16 x=true) (py:pureN 16 y=true):ev G (.cmp .Eq a b) ρ h=some (.bl (eqD x y),h):=by
 rw[ev,ea]
 simp only[Option.bind_some]
 rw[eb]
 simp only[Option.bind_some]
 rw[vx,vy,cmp_eq,pureD,pureD,px,py]
 rfl
theorem ev_cmpNe {ρ:Ev}{h:AH}{a b:PX}{x y:D} (ea:ev G a ρ h=some (x,h)) (eb:ev G b ρ h=some (y,h)) (vx:vw h x=x) (vy:vw h y=y) (px:pureN 16 x=true) (py:pureN 16 y=true):ev G (.cmp .NotEq a b) ρ h=some (.bl (!eqD x y),h):=by
 rw[ev,ea]
 simp only[Option.bind_some]
 rw[eb]
 simp only[Option.bind_some]
 rw[vx,vy,cmp_ne,pureD,pureD,px,py]
 rfl
noncomputable def hd (m:M) (p:List Nat):D:=.tup [.int (p.length:Int),chD (chM m p)]
noncomputable def fdB:List PSt:=match p_found with
 | [_,_,_,_,_,.forS _ _ b,_]=>b
 | _=>[]
noncomputable abbrev fdE (P:List (List Nat)) (m:M) (a:List Nat) (H:List (List Nat)) (x5 x6 x7:Option D):Ev:=[some (.ref 0),some (.lst (P.map .str)),some (.lst (P.map fun p=>chD (chM m p))),some (.str a),some (.lst (H.map (hd m))),x5,x6,x7]
theorem fd_step {P H:List (List Nat)}{m:M}{a:List Nat} (q p:List Nat) (x5 x6:Option D) :
  forB G (.nm 5) fdB (hd m q) (fdE P m a H x5 x6 (some (hd m p))) (Hp m [])=.nx (fdE P m a H (some (hd m q)) x6 (some (hd m (if p.length<q.length then q else p)))) (Hp m []):=by
 rw[forB_nm]
 unfold fdB p_found
 simp only[List.set_cons_succ,List.set_cons_zero]
 have t:evB G (.val (.cmp .Gt (.idx (.var 5) (.con (.int 0))) (.idx (.var 7) (.con (.int 0))))) (fdE P m a H (some (hd m q)) x6 (some (hd m p))) (Hp m [])=some (decide (p.length<q.length),Hp m []):=by
  simp[evB,ev,hd,idxD,atI,ixN]
 rw[exSs,exS,t]
 by_cases h:p.length<q.length
 ·simp[h,exSs,exS,evR,setT]
 ·simp[h,exSs]
theorem fd_loop {P H:List (List Nat)}{m:M}{a:List Nat} (x6:Option D):∀ (L:List (List Nat)) (p:List Nat) (x5:Option D),(∀ q∈L,q∈H)→p∈H →
  ∃ r∈H,p.length≤r.length∧(∀ q∈L,q.length≤r.length)∧∃ y5,forL (forB G (.nm 5) fdB) (L.map (hd m)) (fdE P m a H x5 x6 (some (hd m p))) (Hp m [])=.nx (fdE P m a H y5 x6 (some (hd m r))) (Hp m [])
 | [],p,x5,_,hp=>⟨p,hp,Nat.le_refl _,by simp,x5,by simp[forL]⟩
 | q::L,p,x5,hL,hp=>by
  have hq:=hL q List.mem_cons_self
  obtain⟨r,hr,h1,h2,y5,e⟩:=fd_loop x6 L (if p.length<q.length then q else p) (some (hd m q)) (fun z hz=>hL z (List.mem_cons_of_mem _ hz)) (by split<;>assumption)
  refine⟨r,hr,?_,?_,y5,?_⟩
  ·split at h1<;>omega
  ·intro z hz
   rcases List.mem_cons.mp hz with rfl | hz
   ·split at h1<;>omega
   ·exact h2 z hz
  ·rw[List.map_cons,forL,fd_step]
   exact e
def PFound (f:Den):Prop:=∀ (m:M) (P:List (List Nat)) (j:Nat) (a:List Nat),Inv m P j→P.length=7→(∀ p∈P,okS p∧p.length≤1000)→okS a→a.length≤1000 →
 f [.ref 0,.lst (P.map .str),.lst (P.map fun p=>chD (chM m p)),.str a] (Hp m [])=.ok (.bl true) (Hp m [])
theorem found_ok {φ:Den} (h21:G[21]?=some φ) (s21:PFind φ):PFound (cutDen (runF G 4 8 p_found)):=by
 intro m P j a I hP7 hPok hao ha
 refine run_rt rfl ?_
 have W:Well m:=I.toWell
 let H:=(P.filter fun p=>a.take p.length==p).filter fun p=>(chM m p).isSome
 have fl:fndG (lkS m.ch) a a.length=fndG (chM m) a a.length:=by
  have:lkS m.ch=chM m:=funext I.chl
  rw[this]
 have memH:∀ p,p∈H ↔ p∈P∧a.take p.length=p∧(chM m p).isSome=true:=by
  intro p
  simp only[H,List.mem_filter,beq_iff_eq]
  exact⟨fun h=>⟨h.1.1,h.1.2,h.2⟩,fun h=>⟨⟨h.1,h.2.1⟩,h.2.2⟩⟩
 have hle:∀ p∈H,p.length≤a.length:=fun p hp=>by
  have:=congrArg List.length ((memH p).mp hp).2.1
  rw[List.length_take] at this
  omega
 have fs:=fnd_spec (chM m) a a.length
 have e:p_found=[(match p_found with | a::_=>a | _=>.pas),(match p_found with | _::a::_=>a | _=>.pas),.asg (.nm 6) (.mcall 21 "Router" "find" (.var 0) [.var 3]),.ifs (.val (.cmp .Eq (.var 4) (.lst []))) [.ret (.cmp .Is (.var 6) (.con .non))] [],.asg (.nm 7) (.idx (.var 4) (.con (.int 0))),.forS (.nm 5) (.seq (.var 4)) fdB,(match p_found with | [_,_,_,_,_,_,a]=>a | _=>.pas)]:=rfl
 rw[e]
 have sz7:(7:Nat)≤SZ:=by decide
 have sz2:(2:Nat)≤SZ:=by decide
 have aSZ:a.length≤SZ:=by show _≤16777216;omega
 have hat:∀ k:Nat,k<7→∃ p,P[k]?=some p∧p∈P∧P.getD k []=p:=fun k hk=>by
  have hk':k<P.length:=by omega
  exact⟨P[k],by simp[hk'],List.getElem_mem hk',by simp[hk']⟩
 have st1:∀ ρ':Ev,ρ'=[some (.ref 0),some (.lst (P.map .str)),some (.lst (P.map fun p=>chD (chM m p))),some (.str a),some (.lst ((P.filter fun p=>a.take p.length==p).map (hd m))),none,none,none]→exS G (match p_found with | a::_=>a | _=>.pas) (startE 8 [.ref 0,.lst (P.map .str),.lst (P.map fun p=>chD (chM m p)),.str a]) (Hp m [])=.nx ρ' (Hp m []):=by
  rintro _ rfl
  unfold p_found
  simp only
  have hs:evI G (.rng (.con (.int 7))) (startE 8 [.ref 0,.lst (P.map .str),.lst (P.map fun p=>chD (chM m p)),.str a]) (Hp m [])=some ((List.range (7:Int).toNat).map fun i:Nat=>D.int (i:Int),Hp m []):=evI_rng (n:=7) (by simp) ⟨by decide,by decide⟩
  have ec:=ev_compIf (G:=G) (keep:=[3,2,1]) (ρ:=startE 8 [.ref 0,.lst (P.map .str),.lst (P.map fun p=>chD (chM m p)),.str a]) (h:=Hp m []) (elt:=.tup [.blt .len [.idx (.var 3) (.var 0)],.idx (.var 2) (.var 0)]) (c:=.val (.cmp .Eq (.sl (.var 1) none (some (.blt .len [.idx (.var 3) (.var 0)]))) (.idx (.var 3) (.var 0))))
   (p:=fun d=>match d with | .int i=>(a.take (P.getD i.toNat []).length==P.getD i.toNat []) | _=>false) (g:=fun d=>match d with | .int i=>hd m (P.getD i.toNat []) | d=>d) hs (by rw[List.length_map,List.length_range];decide) (by
    intro d hd'
    obtain⟨k,hk,rfl⟩:=List.mem_map.mp hd'
    have hk:k<7:=by simpa using hk
    obtain⟨p,h1,h2,h3⟩:=hat k hk
    have hpl:=hPok p h2
    have keep:List.map (getV (startE 8 [.ref 0,.lst (P.map .str),.lst (P.map fun p=>chD (chM m p)),.str a])) [3,2,1]=[some (.str a),some (.lst (P.map fun p=>chD (chM m p))),some (.lst (P.map .str))]:=by simp[startE]
    rw[keep]
    have ei:ev G (.idx (.var 3) (.var 0)) [some (.int k),some (.str a),some (.lst (P.map fun p=>chD (chM m p))),some (.lst (P.map .str))] (Hp m [])=some (.str p,Hp m []):=by
     have:atI (P.map D.str) (k:Int)=some (.str p):=by rw[atI_get _ _ (by rw[List.length_map];omega),List.getElem?_map,h1];rfl
     simp[ev,idxD,this]
    have elen:ev G (.blt .len [.idx (.var 3) (.var 0)]) [some (.int k),some (.str a),some (.lst (P.map fun p=>chD (chM m p))),some (.lst (P.map .str))] (Hp m [])=some (.int p.length,Hp m []):=by
     rw[ev,evs,ei]
     simp[evs,bl_lenS,hpl.1.1]
    have es:ev G (.sl (.var 1) none (some (.blt .len [.idx (.var 3) (.var 0)]))) [some (.int k),some (.str a),some (.lst (P.map fun p=>chD (chM m p))),some (.lst (P.map .str))] (Hp m [])=some (.str (a.take p.length),Hp m []):=by
     rw[ev,ev_var]
     simp only[getV_succ,getV_zero,Option.bind_some]
     simp only[evo,elen,Option.bind_some,vw_str,slD,aSZ,if_true,cut_any]
    have hta:(a.take p.length).all (fun c=>decide (c<1114112))=true:=by
     rw[List.all_eq_true]
     exact fun x hx=>List.all_eq_true.mp hao.2 x (List.mem_of_mem_take hx)
    rw[evB,ev,es]
    simp only[Option.bind_some]
    rw[ei]
    simp only[Option.bind_some,vw_str,cmp_eq,pureD,pure_str,hta,hpl.1.2,Bool.and_self,if_true,eqD_str,tru_bl]
    show _=some ((a.take (P.getD k []).length==P.getD k []),_)
    rw[h3]) (by
    intro d hd' _
    obtain⟨k,hk,rfl⟩:=List.mem_map.mp hd'
    have hk:k<7:=by simpa using hk
    obtain⟨p,h1,h2,h3⟩:=hat k hk
    have hpl:=hPok p h2
    have keep:List.map (getV (startE 8 [.ref 0,.lst (P.map .str),.lst (P.map fun p=>chD (chM m p)),.str a])) [3,2,1]=[some (.str a),some (.lst (P.map fun p=>chD (chM m p))),some (.lst (P.map .str))]:=by simp[startE]
    rw[keep]
    have ei:ev G (.idx (.var 3) (.var 0)) [some (.int k),some (.str a),some (.lst (P.map fun p=>chD (chM m p))),some (.lst (P.map .str))] (Hp m [])=some (.str p,Hp m []):=by
     have:atI (P.map D.str) (k:Int)=some (.str p):=by rw[atI_get _ _ (by rw[List.length_map];omega),List.getElem?_map,h1];rfl
     simp[ev,idxD,this]
    have ei2:ev G (.idx (.var 2) (.var 0)) [some (.int k),some (.str a),some (.lst (P.map fun p=>chD (chM m p))),some (.lst (P.map .str))] (Hp m [])=some (chD (chM m p),Hp m []):=by
     have:atI (P.map fun p=>chD (chM m p)) (k:Int)=some (chD (chM m p)):=by rw[atI_get _ _ (by rw[List.length_map];omega),List.getElem?_map,h1];rfl
     simp[ev,idxD,this]
    have elen:ev G (.blt .len [.idx (.var 3) (.var 0)]) [some (.int k),some (.str a),some (.lst (P.map fun p=>chD (chM m p))),some (.lst (P.map .str))] (Hp m [])=some (.int p.length,Hp m []):=by
     rw[ev,evs,ei]
     simp[evs,bl_lenS,hpl.1.1]
    rw[ev]
    simp only[evs,elen,ei2,Option.bind_some,List.length_cons,List.length_nil,Nat.reduceAdd,sz2,if_true]
    show _=some (hd m (P.getD k []),_)
    rw[h3]
    rfl)
  rw[exS,evR_ev ec]
  show R.nx _ _=_
  congr 1
  have el:(((List.range (7:Int).toNat).map fun i:Nat=>D.int (i:Int)).filter fun d=>match d with | .int i=>(a.take (P.getD i.toNat []).length==P.getD i.toNat []) | _=>false).map (fun d=>match d with | .int i=>hd m (P.getD i.toNat []) | d=>d)=(P.filter fun p=>a.take p.length==p).map (hd m):=by
   have:P.filter (fun p=>a.take p.length==p)=((List.range P.length).filter fun i=>a.take (P.getD i []).length==P.getD i []).map fun i=>P.getD i []:=by
    conv=>lhs;rw[← range_getD [] P]
    rw[List.filter_map]
    rfl
   rw[this,List.filter_map,List.map_map,List.map_map,hP7]
   rfl
  rw[el]
  rfl
 rw[exSs_nx (st1 _ rfl)]
 have hlenF:(P.filter fun p=>a.take p.length==p).length≤7:=by rw[← hP7];exact List.length_filter_le _ _
 have st2:exS G (match p_found with | _::a::_=>a | _=>.pas) [some (.ref 0),some (.lst (P.map .str)),some (.lst (P.map fun p=>chD (chM m p))),some (.str a),some (.lst ((P.filter fun p=>a.take p.length==p).map (hd m))),none,none,none] (Hp m [])=.nx (fdE P m a H none none none) (Hp m []):=by
  unfold p_found
  simp only
  have hs:evI G (.seq (.var 4)) [some (.ref 0),some (.lst (P.map .str)),some (.lst (P.map fun p=>chD (chM m p))),some (.str a),some (.lst ((P.filter fun p=>a.take p.length==p).map (hd m))),none,none,none] (Hp m [])=some ((P.filter fun p=>a.take p.length==p).map (hd m),Hp m []):=evI_seq (d:=.lst ((P.filter fun p=>a.take p.length==p).map (hd m))) (by simp) rfl
  have ec:=ev_compIf (G:=G) (keep:=[]) (ρ:=[some (.ref 0),some (.lst (P.map .str)),some (.lst (P.map fun p=>chD (chM m p))),some (.str a),some (.lst ((P.filter fun p=>a.take p.length==p).map (hd m))),none,none,none]) (h:=Hp m []) (elt:=.var 0) (c:=.val (.cmp .IsNot (.idx (.var 0) (.con (.int 1))) (.con .non)))
   (p:=fun d=>match d with | .tup [_,.non]=>false | _=>true) (g:=fun d=>d) hs (by rw[List.length_map];exact Nat.le_trans hlenF sz7) (by
    intro d hd'
    obtain⟨p,hp,rfl⟩:=List.mem_map.mp hd'
    unfold hd
    cases chM m p with
    | none=>simp[evB,ev,idxD,atI,ixN,chD,cmpD,isNon]
    | some c=>simp[evB,ev,idxD,atI,ixN,chD,Ch.d,cmpD,isNon]) (by
    intro d hd' _
    simp)
  rw[exS,evR_ev ec]
  show R.nx _ _=_
  congr 1
  have el:(((P.filter fun p=>a.take p.length==p).map (hd m)).filter fun d=>match d with | .tup [_,.non]=>false | _=>true).map (fun d=>d)=H.map (hd m):=by
   rw[List.map_id',List.filter_map]
   congr 1
   refine List.filter_congr fun p _=>?_
   simp only[Function.comp,hd]
   cases chM m p with
   | none=>rfl
   | some c=>rfl
  rw[el]
  rfl
 rw[exSs_nx st2]
 have ef:∀ ρ:Ev,getV ρ 0=some (.ref 0)→getV ρ 3=some (.str a)→ev G (.mcall 21 "Router" "find" (.var 0) [.var 3]) ρ (Hp m [])=some (chD (fndG (chM m) a a.length),Hp m []):=fun ρ g0 g3=>by
  rw[← fl]
  exact ev_m (n:=m.num) (ds:=[.str a]) (h':=Hp m []) (by intro n;rfl) g0 rfl (by simp[evs,g3]) h21 (s21 m a ha)
 rw[exSs_nx (ρ':=fdE P m a H none (some (chD (fndG (chM m) a a.length))) none) (h':=Hp m []) (by rw[exS,evR_ev (ef _ rfl rfl)];rfl)]
 have okH:∀ p∈H,okS p:=fun p hp=>(hPok p ((memH p).mp hp).1).1
 have hpure:(H.map (hd m)).all (pureN 15)=true:=by
  rw[List.all_map,List.all_eq_true]
  intro p hp
  simp only[Function.comp,hd,pure_tup,List.all_cons,List.all_nil,pure_int,Bool.true_and,Bool.and_true]
  exact pure_ch (fun x hx=>chM_ok W (okH p hp) hx) 11
 have te:evB G (.val (.cmp .Eq (.var 4) (.lst []))) (fdE P m a H none (some (chD (fndG (chM m) a a.length))) none) (Hp m [])=some (H.isEmpty,Hp m []):=by
  have sz0:(0:Nat)≤SZ:=by decide
  rw[evB,ev,ev_var]
  simp only[getV_succ,getV_zero,Option.bind_some]
  simp only[ev,evs,Option.bind_some,List.length_nil,sz0,if_true,vw_lst,cmp_eq,pureD,pure_lst,hpure,List.all_nil,Bool.and_self]
  cases H with
  | nil=>simp[eqD,eqDs]
  | cons a l=>simp[eqD,eqDs]
 cases hH:H with
 | nil =>
  rw[hH] at te
  have hn:fndG (chM m) a a.length=none:=by
   cases hq:fndG (chM m) a a.length with
   | none=>rfl
   | some c =>
    obtain⟨i,h1,h2,h3⟩:=fs.1 c hq
    have hl:(a.take i).length=i:=by rw[List.length_take];omega
    have:a.take i∈H:=(memH _).mpr ⟨chM_dom I h2,by rw[hl],by rw[h2];rfl⟩
    rw[hH] at this
    cases this
  refine exSs_rt ?_
  rw[exS,te,hn]
  simp[exSs,exS,evR,ev,chD,cmpD,isNon]
 | cons p0 t =>
  have ne:H.isEmpty=false:=by rw[hH];rfl
  rw[← hH]
  rw[ne] at te
  rw[exSs_nx (ρ':=fdE P m a H none (some (chD (fndG (chM m) a a.length))) none) (h':=Hp m []) (by rw[exS,te];simp[exSs])]
  rw[exSs_nx (ρ':=fdE P m a H none (some (chD (fndG (chM m) a a.length))) (some (hd m p0))) (h':=Hp m []) (by
   have:ev G (.idx (.var 4) (.con (.int 0))) (fdE P m a H none (some (chD (fndG (chM m) a a.length))) none) (Hp m [])=some (hd m p0,Hp m []):=by
    rw[hH]
    simp[ev,idxD,atI,ixN]
   rw[exS,evR_ev this]
   rfl)]
  obtain⟨r,hr,_,hmax,y5,lp⟩:=fd_loop (G:=G) (P:=P) (m:=m) (a:=a) (some (chD (fndG (chM m) a a.length))) H p0 none (fun q hq=>hq) (by rw[hH];exact List.mem_cons_self)
  rw[exSs_nx (ρ':=fdE P m a H y5 (some (chD (fndG (chM m) a a.length))) (some (hd m r))) (h':=Hp m []) (by
   rw[exS_for (ds:=H.map (hd m)) (h':=Hp m []) (evI_seq (d:=.lst (H.map (hd m))) (by simp) rfl),lp])]
  have hr':=(memH r).mp hr
  obtain⟨cr,hcr⟩:∃ c,chM m r=some c:=by
   cases hq:chM m r with
   | none=>rw[hq] at hr';cases hr'.2.2
   | some c=>exact⟨c,rfl⟩
  have hfr:fndG (chM m) a a.length=some cr:=by
   cases hq:fndG (chM m) a a.length with
   | none =>
    have:=fs.2 hq r.length (hle r hr)
    rw[hr'.2.1,hcr] at this
    cases this
   | some c =>
    obtain⟨i,h1,h2,h3⟩:=fs.1 c hq
    have hl:(a.take i).length=i:=by rw[List.length_take];omega
    have hi:a.take i∈H:=(memH _).mpr ⟨chM_dom I h2,by rw[hl],by rw[h2];rfl⟩
    have:=hmax _ hi
    rw[hl] at this
    have e2:r.length=i:=by
     by_cases hlt:i<r.length
     ·have:=h3 r.length hlt (hle r hr)
      rw[hr'.2.1,hcr] at this
      cases this
     ·omega
    rw[← e2,hr'.2.1,hcr] at h2
    exact h2.symm
  refine exSs_rt ?_
  unfold p_found
  simp only
  have okr:okS cr.2.pre:=chM_ok W (okH r hr) hcr
  have pr:pureN 16 (Ch.d cr)=true:=pure_ch (c:=some cr) (fun x hx=>by cases hx;exact okr) 13
  have er:eqD (Ch.d cr) (Ch.d cr)=true:=eqD_ch (some cr)
  rw[hfr]
  have ef2:=ef (fdE P m a H y5 (some (chD (some cr))) (some (hd m r))) rfl rfl
  rw[hfr] at ef2
  have e1:ev G (.cmp .Eq (.var 6) (.idx (.var 7) (.con (.int 1)))) (fdE P m a H y5 (some (chD (some cr))) (some (hd m r))) (Hp m [])=some (.bl true,Hp m []):=by
   have:ev G (.idx (.var 7) (.con (.int 1))) (fdE P m a H y5 (some (chD (some cr))) (some (hd m r))) (Hp m [])=some (Ch.d cr,Hp m []):=by
    simp[ev,hd,idxD,atI,ixN,hcr,chD]
   rw[ev_cmpEq (x:=Ch.d cr) (y:=Ch.d cr) (by simp[chD]) this rfl rfl pr pr,er]
  have e2:ev G (.isi (.var 6) Ty.tuple) (fdE P m a H y5 (some (chD (some cr))) (some (hd m r))) (Hp m [])=some (.bl true,Hp m []):=by
   simp[ev,chD,Ch.d,isiD]
  have e3:ev G (.cmp .Eq (.mcall 21 "Router" "find" (.var 0) [.var 3]) (.var 6)) (fdE P m a H y5 (some (chD (some cr))) (some (hd m r))) (Hp m [])=some (.bl true,Hp m []):=by
   rw[ev_cmpEq (x:=Ch.d cr) (y:=Ch.d cr) ef2 (by simp[chD]) rfl rfl pr pr,er]
  have ea:ev G (.and (.cmp .Eq (.var 6) (.idx (.var 7) (.con (.int 1)))) (.and (.isi (.var 6) Ty.tuple) (.cmp .Eq (.mcall 21 "Router" "find" (.var 0) [.var 3]) (.var 6)))) (fdE P m a H y5 (some (chD (some cr))) (some (hd m r))) (Hp m [])=some (.bl true,Hp m []):=by
   rw[ev,e1]
   simp only[Option.bind_some,if_true]
   rw[ev,e2]
   simp only[Option.bind_some,if_true]
   exact e3
  rw[exS,evR_ev ea]
end
end K13
namespace K13
open MP PySem
open K10 (Rt okS goodP goodR goodTags risT goodPath goodW BitStr PCell PDrawn PBits)
theorem cut_take {α:Type}{s:List α}{n:Nat}:cut s none (some (n:Int))=s.take n:=by
 have e1:sIx s.length s.length (some (n:Int))=min n s.length:=by
  show (if (n:Int)<0 then ((n:Int)+(s.length:Int)).toNat else min (n:Int).toNat s.length)=_
  rw[if_neg (by omega)]
  rfl
 unfold cut
 rw[e1]
 show (s.drop 0).take (min n s.length - 0)=_
 rw[List.drop_zero,Nat.sub_zero]
 exact List.take_eq_take_min.symm
theorem ints_map:∀ l:List Int,ints? (l.map .int)=some l
 | []=>rfl
 | a::l=>by
  show (ints? (l.map .int)).map (a::·)=_
  rw[ints_map l]
  rfl
section
variable {G:List Den}
theorem ev_call1 {i:Nat}{φ:Den}{es:List PX}{ρ:Ev}{h:AH}{ds:List D}{d:D} (hx:evs G es ρ h=some (ds,h)) (hG:G[i]?=some φ) (e:φ ds h=.ok d h):ev G (.call i es) ρ h=some (d,h):=by
 rw[ev,hx]
 simp only[Option.bind_some]
 rw[hG]
 simp only[Option.bind_some]
 rw[e]
noncomputable abbrev lE (sc:List Int) (mo:Int) (P:List (List Nat)) (ns:List Int) (num:Int) (x8 x9 x10 x11 x12 x13:Option D):Ev :=
 [some (.lst (sc.map .int)),some (.int mo),some (.lst (P.map .str)),some (.lst (ns.map .int)),some (.int num),some (.ref 0),some (.ref 4),some (.ref 5),x8,x9,x10,x11,x12,x13]
noncomputable def b1:List PSt:=match p_law with
 | [_,_,_,_,_,_,_,.forS _ _ b,_,_,_,_,_,_,_]=>b
 | _=>[]
theorem l1_step {φa φu:Den} (h13:G[13]?=some φa) (s13:PAdd φa) (h14:G[14]?=some φu) (s14:PUp φu) {sc:List Int}{mo:Int}{P:List (List Nat)}{ns:List Int}{m:M} (x8:Option D) (k:Int) (f1:m.f1=false) (f4:m.f4=false) (hne:k≠m.num) (h1:1≤k) (h2:k≤999) (hk:k ∉ m.nb.map (·.k)) (hl:m.nb.length≤1000) :
  forB G (.nm 8) b1 (.int k) (lE sc mo P ns m.num x8 none none none none none) (Hp m [])=.nx (lE sc mo P ns m.num (some (.int k)) none none none none none) (Hp { m with nb:=m.nb++[⟨k,[],[]⟩] } []):=by
 rw[forB_nm]
 unfold b1 p_law
 simp only[List.set_cons_succ,List.set_cons_zero]
 rw[exSs_nx (ρ':=lE sc mo P ns m.num (some (.int k)) none none none none none) (h':=HA m false k) (by
  rw[exS,evR_m (ds:=[.int k]) (h':=Hp m []) (n:=m.num) (by intro n;rfl) rfl rfl (by simp[evs]) h13,s13 m k f1 hne h1 h2 hk hl])]
 rw[exSs_nx (ρ':=lE sc mo P ns m.num (some (.int k)) none none none none none) (h':=HA m true k) (by
  rw[exS,evR_m (ds:=[.int k]) (h':=HA m false k) (n:=m.num) (by intro n;rfl) rfl rfl (by simp[evs]) h14,s14 m k hk])]
 rw[exSs_nx (ρ':=lE sc mo P ns m.num (some (.int k)) none none none none none) (h':=Hp { m with nb:=m.nb++[⟨k,[],[]⟩] } []) (by
  have e0:ev G .dnew (lE sc mo P ns m.num (some (.int k)) none none none none none) (HA m true k)=some (.ref (HA m true k).length,HA m true k++[.dct false []]):=by rw[ev]
  rw[exS,evR_ev e0]
  simp only[ev_var,getV_succ,getV_zero,Option.bind_some]
  rw[dctW_of (d:=lsD 6 m.nb) (by show some (O.dct m.f4 (lsD 6 m.nb))=_;rw[f4])]
  simp only
  rw[if_pos ⟨rfl,by rw[(nbD_len 6 m.nb).2];show _<16777216;omega⟩]
  rw[HA_new m k f4 hk])]
 rw[exSs]
noncomputable def m0 (num:Int) (ks:List Int):M:=⟨num,false,false,ks.map fun k=>⟨k,[],[]⟩,[],[],[]⟩
theorem l1_loop {φa φu:Den} (h13:G[13]?=some φa) (s13:PAdd φa) (h14:G[14]?=some φu) (s14:PUp φu) {sc:List Int}{mo:Int}{P:List (List Nat)}{ns:List Int}{num:Int}:∀ (l2 l1:List Int) (x8:Option D),(l1++l2).Nodup→(∀ k∈l2,k≠num∧1≤k∧k≤999)→(l1++l2).length≤1000 →
  ∃ y8,forL (forB G (.nm 8) b1) (l2.map .int) (lE sc mo P ns num x8 none none none none none) (Hp (m0 num l1) [])=.nx (lE sc mo P ns num y8 none none none none none) (Hp (m0 num (l1++l2)) [])
 | [],l1,x8,_,_,_=>⟨x8,by simp[forL]⟩
 | k::l2,l1,x8,nd,hk,hl=>by
  have hk1:=hk k List.mem_cons_self
  have nd':(l1++[k]++l2).Nodup:=by simpa using nd
  have hnk:k ∉ l1:=by
   have:=(List.nodup_append.mp nd).2.2
   intro z
   exact this k z k List.mem_cons_self rfl
  have ek:(m0 num l1).nb.map (·.k)=l1:=by
   show (l1.map fun k=>(⟨k,[],[]⟩:Nb)).map (·.k)=l1
   rw[List.map_map]
   exact List.map_id l1
  have st:=l1_step (G:=G) h13 s13 h14 s14 (sc:=sc) (mo:=mo) (P:=P) (ns:=ns) (m:=m0 num l1) x8 k rfl rfl hk1.1 hk1.2.1 hk1.2.2 (by rw[ek];exact hnk) (by show (l1.map _).length≤1000;rw[List.length_map];simp at hl;omega)
  have em:({ m0 num l1 with nb:=(m0 num l1).nb++[⟨k,[],[]⟩] }:M)=m0 num (l1++[k]):=by
   unfold m0
   simp
  rw[em] at st
  obtain⟨y8,e⟩:=l1_loop h13 s13 h14 s14 (sc:=sc) (mo:=mo) (P:=P) (ns:=ns) l2 (l1++[k]) (some (.int k)) nd' (fun x hx=>hk x (List.mem_cons_of_mem _ hx)) (by simpa using hl)
  refine⟨y8,?_⟩
  have e':l1++k::l2=l1++[k]++l2:=by simp
  rw[List.map_cons,forL,e']
  have st':forB G (.nm 8) b1 (.int k) (lE sc mo P ns num x8 none none none none none) (Hp (m0 num l1) [])=.nx (lE sc mo P ns num (some (.int k)) none none none none none) (Hp (m0 num (l1++[k])) []):=st
  rw[st']
  exact e
theorem m0_inv (num:Int) (ks:List Int) (P:List (List Nat)) (nd:ks.Nodup) (hl:ks.length≤7) (hr:∀ k∈ks,1≤k∧k≤999):Inv (m0 num ks) P 0:=by
 have mem:∀ b∈(m0 num ks).nb,∃ k∈ks,b=⟨k,[],[]⟩:=fun b hb=>by
  obtain⟨k,hk,e⟩:=List.mem_map.mp hb
  exact⟨k,hk,e.symm⟩
 exact {
  f1:=rfl
  f4:=rfl
  nd:=by show ((ks.map fun k=>(⟨k,[],[]⟩:Nb)).map (·.k)).Nodup;rw[List.map_map,show ((fun x:Nb=>x.k) ∘ fun k:Int=>(⟨k,[],[]⟩:Nb))=id from rfl,List.map_id];exact nd
  len:=by show (ks.map _).length≤7;rw[List.length_map];exact hl
  same:=fun b hb=>by obtain⟨k,_,rfl⟩:=mem b hb;rfl
  lo:=rfl
  ok:=fun b hb q hq=>by obtain⟨k,_,rfl⟩:=mem b hb;cases hq
  rng:=fun b hb=>by obtain⟨k,hk,rfl⟩:=mem b hb;exact hr k hk
  sl:=fun b hb=>by obtain⟨k,_,rfl⟩:=mem b hb;exact Nat.le_refl _
  ol:=Nat.le_refl _
  cl:=Nat.le_refl _
  keys:=fun b hb p hp=>by obtain⟨k,_,rfl⟩:=mem b hb;cases hp
  okeys:=fun p hp=>by cases hp
  chnd:=.nil
  chl:=fun p=>by
   have:(m0 num ks).nb.filterMap (cnt num p)=[]:=by
    rw[List.filterMap_eq_nil_iff]
    intro b hb
    obtain⟨k,_,rfl⟩:=mem b hb
    rfl
   unfold chM
   show none=if (lkS [] p).isSome=true then _ else minC ((m0 num ks).nb.filterMap (cnt num p))
   rw[this]
   rfl }
noncomputable def b2:List PSt:=match p_law with
 | [_,_,_,_,_,_,_,_,_,.forS _ _ b,_,_,_,_,_]=>b
 | _=>[]
structure TurnG (G:List Den):Prop where
 cell:∃ φ,G[23]?=some φ∧PCell φ
 drawn:∃ φ,G[24]?=some φ∧PDrawn φ
 route:∃ φ,G[29]?=some φ∧PRoute φ
 hear:∃ φ,G[18]?=some φ∧PHear φ
 own:∃ φ,G[19]?=some φ∧POwn φ
theorem setS_get:∀ (l:List Nb) (n:Nat) (b:Nb) (s:List (List Nat×Rt)),l[n]?=some b→(setS l n s)[n]?=some { b with s:=s }
 | [],n,b,s,h=>by cases h
 | c::l,0,b,s,h=>by cases h;rfl
 | c::l,n+1,b,s,h=>setS_get l n b s h
theorem bit_ok {s:List Nat} (h:BitStr s) (hl:s.length≤1000):okS s:=by
 refine⟨by show _≤16777216;omega,?_⟩
 rw[List.all_eq_true]
 intro c hc
 rcases h c hc with rfl | rfl<;>decide
theorem bit_good {s:List Nat} (h:BitStr s) (hl:s.length≤16):goodP s=true:=by
 unfold goodP
 have:s.all (fun c=>c==48||c==49)=true:=by
  rw[List.all_eq_true]
  intro c hc
  rcases h c hc with rfl | rfl<;>decide
 rw[this]
 have:(s.length:Int)≤16:=by omega
 simp[this]
theorem l2_step (T:TurnG G) {sc:List Int} (hsc:sc.length≤63) {mo:Int}{P:List (List Nat)} (hP7:P.length=7) (hPb:∀ p∈P,BitStr p∧p.length≤16) {ns:List Int}{so:List Int} (hso:so≠[]) (hs1:∀ i∈so,1≤i∧i≤999) {m:M}{j:Nat} (hj:j≤100) (I:Inv m P j) (hnb:m.nb≠[]) (k:Nat) (hk:k<100) (x8 x10 x11 x12:Option D) :
  ∃ mo' y8 y11 y12 m',Inv m' P (j+2)∧m'.num=m.num∧m'.nb≠[]∧forB G (.nm 10) b2 (.int k) (lE sc mo P ns m.num x8 (some (.lst (so.map .int))) x10 x11 x12 none) (Hp m [])=.nx (lE sc mo' P ns m.num y8 (some (.lst (so.map .int))) (some (.int k)) y11 y12 none) (Hp m' []):=by
 obtain⟨φc,h23,s23⟩:=T.cell
 obtain⟨φd,h24,s24⟩:=T.drawn
 obtain⟨φr,h29,s29⟩:=T.route
 obtain⟨φh,h18,s18⟩:=T.hear
 obtain⟨φo,h19,s19⟩:=T.own
 obtain⟨c,hc⟩:=s23 sc k (Hp m []) hsc (by omega) (by omega)
 obtain⟨mo',_,hm⟩:=s24 c (k+40) (Hp m []) (by omega) (by omega)
 rw[forB_nm]
 unfold b2 p_law
 simp only[List.set_cons_succ,List.set_cons_zero]
 have e1:ev G (.call 24 [.call 23 [.var 0,.var 10],.bin .Add (.var 10) (.con (.int 40))]) (lE sc mo P ns m.num x8 (some (.lst (so.map .int))) (some (.int k)) x11 x12 none) (Hp m [])=some (.int mo',Hp m []):=by
  refine ev_call1 (ds:=[.int c,.int (k+40)]) ?_ h24 hm
  have:ev G (.call 23 [.var 0,.var 10]) (lE sc mo P ns m.num x8 (some (.lst (so.map .int))) (some (.int k)) x11 x12 none) (Hp m [])=some (.int c,Hp m []):=ev_call1 (ds:=[.lst (sc.map .int),.int k]) (by simp[evs]) h23 hc
  simp only[evs,this,Option.bind_some]
  simp[ev,bi_add]
 have hlen:0<m.nb.length:=List.length_pos_iff.mpr hnb
 obtain⟨b,n,hb,e2⟩:∃ (b:Nb) (n:Nat),m.nb[n]?=some b∧ev G (.idx (.dsrt (.var 6)) (.bin .Mod (.var 1) (.dlen (.var 6)))) (lE sc mo' P ns m.num x8 (some (.lst (so.map .int))) (some (.int k)) x11 x12 none) (Hp m [])=some (.int b.k,Hp m []):=by
  have hd4:dctAt (Hp m []) (.ref 4)=some (4,lsD 6 m.nb):=dctAt_of (f:=m.f4) rfl
  have h7:=I.len
  have es:ev G (.dsrt (.var 6)) (lE sc mo' P ns m.num x8 (some (.lst (so.map .int))) (some (.int k)) x11 x12 none) (Hp m [])=some (.lst (((m.nb.map (·.k)).mergeSort fun a b=>decide (a≤b)).map .int),Hp m []):=by
   rw[ev,ev_var]
   simp only[getV_succ,getV_zero,Option.bind_some,hd4]
   rw[(nb_keys 6 m.nb).2]
   have:srtK ((m.nb.map (·.k)).map D.int)=some (.lst (((m.nb.map (·.k)).mergeSort fun a b=>decide (a≤b)).map .int)):=by
    unfold srtK
    rw[ints_map]
    simp only
    rw[if_pos (by rw[List.length_map];omega)]
   rw[this]
   rfl
  have el:ev G (.dlen (.var 6)) (lE sc mo' P ns m.num x8 (some (.lst (so.map .int))) (some (.int k)) x11 x12 none) (Hp m [])=some (.int m.nb.length,Hp m []):=by
   rw[ev,ev_var]
   simp only[getV_succ,getV_zero,Option.bind_some,hd4]
   rw[(nbD_len 6 m.nb).2]
  obtain⟨d,⟨x,hx,rfl⟩,ex⟩:=ep_idx (G:=G) (a:=.dsrt (.var 6)) (b:=.bin .Mod (.var 1) (.dlen (.var 6))) (ρ:=lE sc mo' P ns m.num x8 (some (.lst (so.map .int))) (some (.int k)) x11 x12 none) (h:=Hp m []) (n:=m.nb.length) (PD:=fun d=>∃ x∈m.nb.map (·.k),d=.int x)
   ⟨_,⟨_,rfl,by simp,by
    intro x hx
    obtain⟨i,hi,rfl⟩:=List.mem_map.mp hx
    exact⟨i,(List.mergeSort_perm _ _).mem_iff.mp hi,rfl⟩⟩,es⟩
   (ei_mod (P:=fun _=>True) (Q:=fun y=>y=m.nb.length) (ei_var (i:=mo') (by simp) trivial) ⟨_,rfl,el⟩ (fun y e=>by subst e;omega) fun x y _ e=>by
    subst e
    exact⟨Int.emod_nonneg _ (by omega),Int.emod_lt_of_pos _ (by omega)⟩)
  obtain⟨b,hb,rfl⟩:=List.mem_map.mp hx
  obtain⟨n,hn⟩:=List.getElem?_of_mem hb
  exact⟨b,n,hn,ex⟩
 have hbm:b∈m.nb:=List.mem_of_getElem? hb
 have hbr:=I.rng b hbm
 have hn:n<m.nb.length:=(List.getElem?_eq_some_iff.mp hb).1
 obtain⟨P',hP'0,hP's,e3a⟩:∃ P':List (List Nat),P'≠[]∧(∀ p∈P',p∈P)∧ev G (.sl (.var 2) none (some (.bin .Add (.con (.int 1)) (.bin .Mod (.bin .FloorDiv (.var 1) (.con (.int 8))) (.con (.int 7)))))) (lE sc mo' P ns m.num (some (.int b.k)) (some (.lst (so.map .int))) (some (.int k)) x11 x12 none) (Hp m [])=some (.lst (P'.map .str),Hp m []):=by
  have hi:EvI G (.bin .Add (.con (.int 1)) (.bin .Mod (.bin .FloorDiv (.var 1) (.con (.int 8))) (.con (.int 7)))) (lE sc mo' P ns m.num (some (.int b.k)) (some (.lst (so.map .int))) (some (.int k)) x11 x12 none) (Hp m []) (fun i=>1≤i∧i≤7) :=
   ei_add (P:=fun i=>i=1) (Q:=fun i=>0≤i∧i<7) (ei_con rfl) (ei_modC (P:=fun _=>True) (ei_fdivC (P:=fun _=>True) (ei_var (i:=mo') (by simp) trivial) fun _ _=>trivial) fun x _=>by omega) fun x y e p=>by omega
  obtain⟨i,hi,ei⟩:=hi
  obtain⟨w,rfl⟩:∃ w:Nat,i=w:=⟨i.toNat,by omega⟩
  refine⟨P.take w,?_,fun p hp=>List.mem_of_mem_take hp,?_⟩
  ·intro z
   have:=congrArg List.length z
   rw[List.length_take,hP7] at this
   simp at this
   omega
  ·rw[ev,ev_var]
   simp only[getV_succ,getV_zero,Option.bind_some,evo,ei,vw_lst,slD,cut_take]
   rw[List.map_take]
 obtain⟨wd,hw⟩:∃ wd:Int,ev G (.bin .FloorDiv (.var 1) (.con (.int 64))) (lE sc mo' P ns m.num (some (.int b.k)) (some (.lst (so.map .int))) (some (.int k)) x11 x12 none) (Hp m [])=some (.int wd,Hp m []):=by
  obtain⟨i,_,e⟩:=ei_fdivC (G:=G) (n:=64) (P:=fun _=>True) (R:=fun _=>True) (ei_var (ρ:=lE sc mo' P ns m.num (some (.int b.k)) (some (.lst (so.map .int))) (some (.int k)) x11 x12 none) (h:=Hp m []) (j:=1) (i:=mo') (by simp) trivial) fun _ _=>trivial
  exact⟨i,e⟩
 obtain⟨r,hrp,⟨q,hrq⟩,g1,g2,g3,hr⟩:=s29 wd b.k P' so (Hp m []) hP'0 hso hs1 hbr.1 hbr.2
 have e3:ev G (.call 29 [.bin .FloorDiv (.var 1) (.con (.int 64)),.sl (.var 2) none (some (.bin .Add (.con (.int 1)) (.bin .Mod (.bin .FloorDiv (.var 1) (.con (.int 8))) (.con (.int 7))))),.var 8,.var 9]) (lE sc mo' P ns m.num (some (.int b.k)) (some (.lst (so.map .int))) (some (.int k)) x11 x12 none) (Hp m [])=some (r.d,Hp m []):=by
  refine ev_call1 (ds:=[.int wd,.lst (P'.map .str),.int b.k,.lst (so.map .int)]) ?_ h29 hr
  simp only[evs,hw,e3a,ev_var,getV_succ,getV_zero,Option.bind_some]
 have hpP:=hP's _ hrp
 have hpb:=hPb _ hpP
 have okp:okS r.pre:=bit_ok hpb.1 (by omega)
 have hpl:r.path.length≤12:=by
  unfold goodPath at g1
  simp only[Bool.and_eq_true,decide_eq_true_eq] at g1
  omega
 have htl:r.tags.length≤4:=by
  unfold goodTags at g3
  simp only[Bool.and_eq_true,Bool.not_eq_true',decide_eq_false_iff_not] at g3
  omega
 have ok:r.Ok:=⟨okp,by omega,by omega⟩
 have good:goodR r=true:=by
  unfold goodR
  rw[bit_good hpb.1 hpb.2,g1,g2,g3]
  rfl
 have hcl:=I.cl
 have hol:=I.ol
 have hsl:=I.sl b hbm
 have hln:=I.len
 have hh:=s18 m n b r I.f1 I.nd (by omega) (by omega) hb (by omega) ok good ⟨q,hrq⟩
 rw[exSs_nx (ρ':=lE sc mo' P ns m.num x8 (some (.lst (so.map .int))) (some (.int k)) x11 x12 none) (h':=Hp m []) (by rw[exS,evR_ev e1];rfl)]
 rw[exSs_nx (ρ':=lE sc mo' P ns m.num (some (.int b.k)) (some (.lst (so.map .int))) (some (.int k)) x11 x12 none) (h':=Hp m []) (by rw[exS,evR_ev e2];rfl)]
 rw[exSs_nx (ρ':=lE sc mo' P ns m.num (some (.int b.k)) (some (.lst (so.map .int))) (some (.int k)) (some r.d) x12 none) (h':=Hp m []) (by rw[exS,evR_ev e3];rfl)]
 rw[exSs_nx (ρ':=lE sc mo' P ns m.num (some (.int b.k)) (some (.lst (so.map .int))) (some (.int k)) (some r.d) x12 none) (h':=Hp (hearM m n b r) []) (by
  rw[exS,evR_m (ds:=[.int b.k,r.d]) (h':=Hp m []) (n:=m.num) (by intro n;rfl) rfl rfl (by simp[evs]) h18,hh])]
 have hb':(hearM m n b r).nb[n]?=some { b with s:=putS b.s r.pre r }:=setS_get m.nb n b _ hb
 have gt:=Hp_get (hearM m n b r) [] hb'
 have nd':((hearM m n b r).nb.map (·.k)).Nodup:=by show ((setS m.nb n _).map (·.k)).Nodup;rw[setS_keys];exact I.nd
 have lk:=(nb_lk 6 (hearM m n b r).nb n _ nd' hb').2
 have eg:ev G (.dget (.var 6) (.var 8)) (lE sc mo' P ns m.num (some (.int b.k)) (some (.lst (so.map .int))) (some (.int k)) (some r.d) x12 none) (Hp (hearM m n b r) [])=some (.ref (6+4 * n+3),Hp (hearM m n b r) []) :=
  ev_dget (a:=4) (d:=.int b.k) (by simp) (by simp) (f:=m.f4) (kvs:=lsD 6 (hearM m n b r).nb) rfl rfl lk
 have ei:ev G (.idx (.var 11) (.con (.int 0))) (lE sc mo' P ns m.num (some (.int b.k)) (some (.lst (so.map .int))) (some (.int k)) (some r.d) x12 none) (Hp (hearM m n b r) [])=some (.str r.pre,Hp (hearM m n b r) []):=by simp[ev,Rt.d,idxD,atI,ixN]
 have ll:b.l.length≤j:=by rw[I.same b hbm];exact hsl
 have ep:=exS_dput (G:=G) (v:=.var 11) (x:=r.d) (by simp) eg ei gt.2.2 rfl (by rw[len_dS];show b.l.length<16777216;omega)
 rw[put_dS,Hp_setL (by show n<(setS m.nb n _).length;rw[setS_len];exact hn)] at ep
 have I1:=turn_inv I hb hpP ok okp
 rw[exSs_nx (ρ':=lE sc mo' P ns m.num (some (.int b.k)) (some (.lst (so.map .int))) (some (.int k)) (some r.d) x12 none) (h':=Hp (turnM m n b r) []) ep]
 have hnb1:(turnM m n b r).nb≠[]:=by
  intro z
  have e:(turnM m n b r).nb.length=m.nb.length:=by
   show (setL (setS m.nb n _) n _).length=_
   have:=congrArg List.length (setL_keys (setS m.nb n (putS b.s r.pre r)) n (putS b.l r.pre r))
   simp only[List.length_map] at this
   rw[this,setS_len]
  rw[z] at e
  simp at e
  omega
 have hnum:(turnM m n b r).num=m.num:=rfl
 generalize turnM m n b r=m1 at I1 hnb1 hnum
 obtain⟨t,_,et⟩:=et_cmpI (G:=G) (ρ:=lE sc mo' P ns m.num (some (.int b.k)) (some (.lst (so.map .int))) (some (.int k)) (some r.d) x12 none) (h:=Hp m1 []) (op:=.Eq) (PB':=fun _=>True) (ei_modC (n:=6) (P:=fun _=>True) (R:=fun _=>True) (ei_fdivP (n:=60) (P:=fun _=>True) (R:=fun _=>True) (ei_var (j:=1) (i:=mo') (by simp) trivial) fun _ _=>trivial) fun x _=>trivial) (ei_con (i:=0) (P:=fun _=>True) trivial) fun x y _ _=>⟨_,trivial,rfl⟩
 cases t with
 | false =>
  refine⟨mo',some (.int b.k),some r.d,x12,m1,I1.mono (by omega),hnum,hnb1,?_⟩
  rw[exSs_nx (ρ':=lE sc mo' P ns m.num (some (.int b.k)) (some (.lst (so.map .int))) (some (.int k)) (some r.d) x12 none) (h':=Hp m1 []) (by rw[exS,et];simp[exSs])]
  rw[exSs]
 | true =>
  obtain⟨_,⟨p,hp,rfl⟩,epx⟩:=ep_idx (G:=G) (a:=.var 2) (b:=.bin .Mod (.bin .FloorDiv (.var 1) (.bin .Pow (.con (.int 2)) (.con (.int 63)))) (.con (.int 7))) (ρ:=lE sc mo' P ns m.num (some (.int b.k)) (some (.lst (so.map .int))) (some (.int k)) (some r.d) x12 none) (h:=Hp m1 []) (n:=7) (PD:=fun d=>∃ x∈P,d=.str x)
   (ep_var (d:=.lst (P.map .str)) (by simp) ⟨_,rfl,by simp[hP7],by
    intro x hx
    obtain⟨i,hi,rfl⟩:=List.mem_map.mp hx
    exact⟨i,hi,rfl⟩⟩)
   (ei_modC (n:=7) (P:=fun _=>True) (ei_fdivP (n:=63) (P:=fun _=>True) (R:=fun _=>True) (ei_var (j:=1) (i:=mo') (by simp) trivial) fun _ _=>trivial) fun x _=>by
    have h1:=Int.emod_nonneg x (show (7:Int)≠0 by decide)
    have h2:=Int.emod_lt_of_pos x (show (0:Int)<7 by decide)
    exact⟨h1,h2⟩)
  have hpb':=hPb p hp
  have hcl1:=I1.cl
  have hol1:=I1.ol
  have hln1:=I1.len
  have ho:=s19 m1 p I1.f1 I1.nd (by omega) (by omega) (by omega) (bit_ok hpb'.1 (by omega)) (bit_good hpb'.1 hpb'.2)
  have edp:=exS_dput (G:=G) (h:=Hp (ownM m1 p) []) (ρ:=lE sc mo' P ns m.num (some (.int b.k)) (some (.lst (so.map .int))) (some (.int k)) (some r.d) (some (.str p)) none) (o:=.var 7) (a:=5) (v:=.con (.bl true)) (x:=tt ()) (k:=.var 12) (d:=.str p) (by simp[tt]) (by simp) (by simp) (kvs:=dS tt m1.lo) rfl rfl (by rw[len_dS,I1.lo];show m1.own.length<16777216;omega)
  rw[put_dS] at edp
  refine⟨mo',some (.int b.k),some r.d,some (.str p),ownT m1 p,own_inv I1 hp,hnum,hnb1,?_⟩
  rw[exSs_nx (ρ':=lE sc mo' P ns m.num (some (.int b.k)) (some (.lst (so.map .int))) (some (.int k)) (some r.d) (some (.str p)) none) (h':=Hp (ownT m1 p) []) (by
   rw[exS,et]
   simp only[if_true]
   rw[exSs_nx (ρ':=lE sc mo' P ns m.num (some (.int b.k)) (some (.lst (so.map .int))) (some (.int k)) (some r.d) (some (.str p)) none) (h':=Hp m1 []) (by rw[exS,evR_ev epx];rfl)]
   rw[exSs_nx (ρ':=lE sc mo' P ns m.num (some (.int b.k)) (some (.lst (so.map .int))) (some (.int k)) (some r.d) (some (.str p)) none) (h':=Hp (ownM m1 p) []) (by
    rw[exS,evR_m (ds:=[.str p,.bl true]) (h':=Hp m1 []) (n:=m1.num) (by intro n;rfl) rfl rfl (by simp[evs]) h19,ho])]
   rw[exSs_nx edp]
   rw[exSs]
   rfl)]
  rw[exSs]
theorem l2_loop (T:TurnG G) {sc:List Int} (hsc:sc.length≤63) {P:List (List Nat)} (hP7:P.length=7) (hPb:∀ p∈P,BitStr p∧p.length≤16) {ns:List Int}{so:List Int} (hso:so≠[]) (hs1:∀ i∈so,1≤i∧i≤999) {num:Int}:∀ (ds:List Nat) (j:Nat) (m:M) (mo:Int) (x8 x10 x11 x12:Option D),(∀ k∈ds,k<100)→j+2 * ds.length≤100→Inv m P j→m.nb≠[]→m.num=num →
  ∃ mo' y8 y10 y11 y12 m',Inv m' P 100∧m'.num=num∧forL (forB G (.nm 10) b2) (ds.map fun i:Nat=>D.int (i:Int)) (lE sc mo P ns num x8 (some (.lst (so.map .int))) x10 x11 x12 none) (Hp m [])=.nx (lE sc mo' P ns num y8 (some (.lst (so.map .int))) y10 y11 y12 none) (Hp m' [])
 | [],j,m,mo,x8,x10,x11,x12,_,hj,I,_,e=>⟨mo,x8,x10,x11,x12,m,I.mono (by simp at hj;omega),e,by simp[forL]⟩
 | k::ds,j,m,mo,x8,x10,x11,x12,hd,hj,I,hnb,e=>by
  simp only[List.length_cons] at hj
  subst e
  obtain⟨mo',y8,y11,y12,m',I',en,hnb',st⟩:=l2_step (G:=G) T hsc (mo:=mo) hP7 hPb (ns:=ns) hso hs1 (show j≤100 by omega) I hnb k (hd k List.mem_cons_self) x8 x10 x11 x12
  obtain⟨mo2,z8,z10,z11,z12,m2,I2,en2,e2⟩:=l2_loop T hsc hP7 hPb (ns:=ns) hso hs1 ds (j+2) m' mo' y8 (some (.int k)) y11 y12 (fun x hx=>hd x (List.mem_cons_of_mem _ hx)) (by omega) I' hnb' en
  refine⟨mo2,z8,z10,z11,z12,m2,I2,en2,?_⟩
  rw[List.map_cons,forL,st]
  exact e2
end
end K13
namespace K13
open MP PySem
open K10 (Rt okS goodP goodR goodTags risT goodPath goodW BitStr PCell PDrawn PBits)
theorem srtS_same {a b:List (List Nat)} (h:a.Perm b):srtS a=srtS b:=by
 have pw:∀ l:List (List Nat),(srtS l).Pairwise (·≤·):=fun l=>by
  have:=List.pairwise_mergeSort (le:=fun a b:List Nat=>decide (a≤b)) (fun a b c h1 h2=>by simp only[decide_eq_true_eq] at *;exact List.le_trans h1 h2) (fun a b=>by simp only[Bool.or_eq_true,decide_eq_true_eq];exact List.le_total a b) l
  exact this.imp fun h=>by simpa using h
 have p:(srtS a).Perm (srtS b):=(List.mergeSort_perm _ _).trans (h.trans (List.mergeSort_perm _ _).symm)
 exact p.eq_of_pairwise (fun x y _ _ h1 h2=>List.le_antisymm h1 h2) (pw a) (pw b)
theorem strs_some:∀ l:List (List Nat),strs? (l.map .str)=some l
 | []=>rfl
 | a::l=>by
  show (strs? (l.map .str)).map (a::·)=_
  rw[strs_some l]
  rfl
theorem srtK_strs (l:List (List Nat)) (h:l.length<64):srtK (l.map .str)=some (.lst ((srtS l).map .str)):=by
 unfold srtK
 cases l with
 | nil=>simp[ints?,srtS]
 | cons a l =>
  have e:ints? ((a::l).map D.str)=none:=rfl
  rw[e,strs_some]
  simp only
  rw[if_pos h]
theorem sIx_nat (n d v:Nat):sIx n d (some (v:Int))=min v n:=by
 show (if (v:Int)<0 then ((v:Int)+(n:Int)).toNat else min (v:Int).toNat n)=_
 rw[if_neg (by omega)]
 rfl
theorem eqDs_refl:∀ l:List D,(∀ d∈l,eqD d d=true)→eqDs l l=true
 | [],_=>by simp[eqDs]
 | a::l,h=>by
  rw[eqDs,h a List.mem_cons_self,eqDs_refl l fun d hd=>h d (List.mem_cons_of_mem _ hd)]
  rfl
section
variable {G:List Den}
structure LawG (G:List Den):Prop extends TurnG G where
 num:∃ φ,G[25]?=some φ∧PNum φ
 bits:∃ φ,G[26]?=some φ∧PBits φ
 pre:∃ φ,G[27]?=some φ∧PPre φ
 init:∃ φ,G[8]?=some φ∧PInitR φ
 add:∃ φ,G[13]?=some φ∧PAdd φ
 up:∃ φ,G[14]?=some φ∧PUp φ
 best:∃ φ,G[20]?=some φ∧PBest φ
 chosen:∃ φ,G[22]?=some φ∧PChosen φ
 bestL:∃ φ,G[30]?=some φ∧PBestL φ
 found:∃ φ,G[31]?=some φ∧PFound φ
theorem fdiv_any {n:Int} (ok:0<n∧n<2 ^ 100) {ρ:Ev}{h:AH}{mo:Int} (g:getV ρ 1=some (.int mo)):∃ i:Int,ev G (.bin .FloorDiv (.var 1) (.con (.int n))) ρ h=some (.int i,h):=by
 obtain⟨i,_,e⟩:=ei_fdivC (G:=G) (n:=n) (P:=fun _=>True) (R:=fun _=>True) (ei_var (ρ:=ρ) (h:=h) (j:=1) (i:=mo) g trivial) (fun _ _=>trivial) ok
 exact⟨i,e⟩
noncomputable def tailP:List PSt:=p_law.drop 10
theorem tail_ok (L:LawG G) {sc:List Int}{mo:Int}{P:List (List Nat)} (hP7:P.length=7) (hPn:P.Nodup) (hPb:∀ p∈P,BitStr p∧p.length≤16) {ns:List Int}{m:M} (I:Inv m P 100) (x8 x9 x10 x11 x12:Option D) :
  exSs G tailP (lE sc mo P ns m.num x8 x9 x10 x11 x12 none) (Hp m [])=.rt (.bl true) (Hp m []):=by
 obtain⟨φb,h20,s20⟩:=L.best
 obtain⟨φc,h22,s22⟩:=L.chosen
 obtain⟨φl,h30,s30⟩:=L.bestL
 obtain⟨φf,h31,s31⟩:=L.found
 obtain⟨φt,h26,s26⟩:=L.bits
 have W:Well m:=I.toWell
 have sz7:(7:Nat)≤SZ:=by decide
 have okP:∀ p∈P,okS p:=fun p hp=>bit_ok (hPb p hp).1 (by have:=(hPb p hp).2;omega)
 unfold tailP p_law
 simp only[List.drop_succ_cons,List.drop_zero]
 have hsP:∀ (z:Option D),evI G (.seq (.var 2)) (lE sc mo P ns m.num x8 x9 x10 x11 x12 z) (Hp m [])=some (P.map .str,Hp m []):=fun z=>evI_seq (d:=.lst (P.map .str)) (by simp) rfl
 have ed:ev G (.comp (.call 30 [.var 3,.var 2,.var 1,.var 0]) none (.seq (.var 2)) [4,7,6]) (lE sc mo P ns m.num x8 x9 x10 x11 x12 none) (Hp m [])=some (.lst (P.map fun p=>chD (chM m p)),Hp m []):=by
  rw[ev_comp (g:=fun d=>match d with | .str p=>chD (chM m p) | d=>d) (hsP none) (by rw[List.length_map,hP7];exact sz7) (by
   intro d hd
   obtain⟨p,hp,rfl⟩:=List.mem_map.mp hd
   exact ev_call1 (ds:=[.ref 4,.ref 5,.int m.num,.str p]) (by simp[evs]) h30 (s30 m p W))]
  rw[List.map_map]
  rfl
 have cb:∀ p,((lkD (dS Ch.d m.ch) (.str p)).getD .non)=chD (chM m p):=fun p=>by
  rw[lk_dS,I.chl]
  cases chM m p<;>rfl
 have eb:ev G (.comp (.mcall 20 "Router" "best" (.var 1) [.var 0]) none (.seq (.var 2)) [5]) (lE sc mo P ns m.num x8 x9 x10 x11 x12 (some (.lst (P.map fun p=>chD (chM m p))))) (Hp m [])=some (.lst (P.map fun p=>chD (chM m p)),Hp m []):=by
  rw[ev_comp (g:=fun d=>match d with | .str p=>chD (chM m p) | d=>d) (hsP _) (by rw[List.length_map,hP7];exact sz7) (by
   intro d hd
   obtain⟨p,hp,rfl⟩:=List.mem_map.mp hd
   have:=s20 (Hp m []) m.num false (dS Ch.d m.ch) p rfl rfl
   rw[cb] at this
   exact ev_m (n:=m.num) (ds:=[.str p]) (h':=Hp m []) (by intro n;rfl) (by simp) rfl (by simp[evs]) h20 this)]
  rw[List.map_map]
  rfl
 have pureL:pureN 16 (.lst (P.map fun p=>chD (chM m p)))=true:=by
  rw[pure_lst,List.all_map,List.all_eq_true]
  intro p hp
  exact pure_ch (fun x hx=>chM_ok W (okP p hp) hx) 12
 have eqL:eqD (.lst (P.map fun p=>chD (chM m p))) (.lst (P.map fun p=>chD (chM m p)))=true:=by
  rw[eqD]
  refine eqDs_refl _ fun d hd=>?_
  obtain⟨p,_,rfl⟩:=List.mem_map.mp hd
  exact eqD_ch _
 rw[exSs_nx (ρ':=lE sc mo P ns m.num x8 x9 x10 x11 x12 (some (.lst (P.map fun p=>chD (chM m p))))) (h':=Hp m []) (by rw[exS,evR_ev ed];rfl)]
 rw[exSs_nx (ρ':=lE sc mo P ns m.num x8 x9 x10 x11 x12 (some (.lst (P.map fun p=>chD (chM m p))))) (h':=Hp m []) (by
  have:=ev_cmpNe (G:=G) (b:=.var 13) (y:=.lst (P.map fun p=>chD (chM m p))) eb (by simp) rfl rfl pureL pureL
  rw[eqL] at this
  rw[exS,evB,this]
  simp[exSs])]
 have hb1:BitStr (rep 15 [49]):=fun c hc=>by
  have:c∈List.replicate 15 49:=hc
  exact .inr (List.eq_of_mem_replicate this)
 have ok1:okS (rep 15 [49]):=bit_ok hb1 (by decide)
 have e1s:∀ ρ:Ev,ev G (.bin .Mult (.con (.str [49])) (.con (.int 15))) ρ (Hp m [])=some (.str (rep 15 [49]),Hp m []):=fun ρ=>by
  have sz15:(15:Nat)≤SZ:=by decide
  rw[ev,ev_con]
  simp only[Option.bind_some,ev_con,vw_str,vw_int]
  have:binD .Mult (.str [49]) (.int 15)=some (.str (rep 15 [49])):=by
   unfold binD
   exact if_pos ⟨by decide,rfl,sz15⟩
  rw[this]
  rfl
 have pure1:pureN 16 (chD (chM m (rep 15 [49])))=true:=pure_ch (fun x hx=>chM_ok W ok1 hx) 13
 have vw1:vw (Hp m []) (chD (chM m (rep 15 [49])))=chD (chM m (rep 15 [49])):=by cases chM m (rep 15 [49])<;>rfl
 rw[exSs_nx (ρ':=lE sc mo P ns m.num x8 x9 x10 x11 x12 (some (.lst (P.map fun p=>chD (chM m p))))) (h':=Hp m []) (by
  have b1:ev G (.mcall 20 "Router" "best" (.var 5) [.bin .Mult (.con (.str [49])) (.con (.int 15))]) (lE sc mo P ns m.num x8 x9 x10 x11 x12 (some (.lst (P.map fun p=>chD (chM m p))))) (Hp m [])=some (chD (chM m (rep 15 [49])),Hp m []):=by
   have:=s20 (Hp m []) m.num false (dS Ch.d m.ch) (rep 15 [49]) rfl rfl
   rw[cb] at this
   exact ev_m (n:=m.num) (ds:=[.str (rep 15 [49])]) (h':=Hp m []) (by intro n;rfl) (by simp) rfl (by rw[evs,e1s];simp[evs]) h20 this
  have b2:ev G (.call 30 [.var 6,.var 7,.var 4,.bin .Mult (.con (.str [49])) (.con (.int 15))]) (lE sc mo P ns m.num x8 x9 x10 x11 x12 (some (.lst (P.map fun p=>chD (chM m p))))) (Hp m [])=some (chD (chM m (rep 15 [49])),Hp m []) :=
   ev_call1 (ds:=[.ref 4,.ref 5,.int m.num,.str (rep 15 [49])]) (by simp only[evs,ev_var,getV_succ,getV_zero,Option.bind_some,e1s]) h30 (s30 m _ W)
  have:=ev_cmpNe (G:=G) b1 b2 vw1 vw1 pure1 pure1
  rw[eqD_ch] at this
  rw[exS,evB,this]
  simp[exSs])]
 let H:=P.filter fun p=>(chM m p).isSome
 have perm:(m.ch.map (·.1)).Perm H:=by
  refine (List.perm_ext_iff_of_nodup I.chnd (hPn.filter _)).mpr fun p=>?_
  simp only[H,List.mem_filter]
  constructor
  ·intro h
   have:lkS m.ch p≠none:=fun z=>(lkS_none.mp z) h
   rw[I.chl p] at this
   cases hq:chM m p with
   | none=>exact absurd hq this
   | some c=>exact⟨chM_dom I hq,rfl⟩
  ·intro ⟨_,h⟩
   cases hq:lkS m.ch p with
   | none=>rw[← I.chl p,hq] at h;cases h
   | some c=>exact lk_mem hq
 have hHl:H.length≤7:=by rw[← hP7];exact List.length_filter_le _ _
 have hcl:(m.ch.map (·.1)).length<64:=by rw[perm.length_eq];omega
 have hso:=srtS_same perm
 have ech:ev G (.mcall 22 "Router" "chosen" (.var 5) []) (lE sc mo P ns m.num x8 x9 x10 x11 x12 (some (.lst (P.map fun p=>chD (chM m p))))) (Hp m [])=some (.lst ((srtS H).map .str),Hp m []):=by
  have hk:srtK ((dS Ch.d m.ch).map (·.1))=some (.lst ((srtS H).map .str)):=by
   rw[keys_dS,srtK_strs _ hcl,hso]
  exact ev_m (n:=m.num) (ds:=[]) (h':=Hp m []) (by intro n;rfl) (by simp) rfl (by simp[evs]) h22 (s22 (Hp m []) m.num false (dS Ch.d m.ch) _ rfl rfl hk)
 have hat:∀ k:Nat,k<7→∃ p,P[k]?=some p∧p∈P∧P.getD k []=p:=fun k hk=>by
  have hk':k<P.length:=by omega
  exact⟨P[k],by simp[hk'],List.getElem_mem hk',by simp[hk']⟩
 have ecm:ev G (.comp (.idx (.var 2) (.var 0)) (some (.val (.cmp .IsNot (.idx (.var 1) (.var 0)) (.con .non)))) (.rng (.con (.int 7))) [13,2]) (lE sc mo P ns m.num x8 x9 x10 x11 x12 (some (.lst (P.map fun p=>chD (chM m p))))) (Hp m [])=some (.lst (H.map .str),Hp m []):=by
  have hs:evI G (.rng (.con (.int 7))) (lE sc mo P ns m.num x8 x9 x10 x11 x12 (some (.lst (P.map fun p=>chD (chM m p))))) (Hp m [])=some ((List.range (7:Int).toNat).map fun i:Nat=>D.int (i:Int),Hp m []):=evI_rng (n:=7) (by simp) ⟨by decide,by decide⟩
  have keep:List.map (getV (lE sc mo P ns m.num x8 x9 x10 x11 x12 (some (.lst (P.map fun p=>chD (chM m p)))))) [13,2]=[some (.lst (P.map fun p=>chD (chM m p))),some (.lst (P.map .str))]:=by simp
  rw[ev_compIf (p:=fun d=>match d with | .int i=>(chM m (P.getD i.toNat [])).isSome | _=>false) (g:=fun d=>match d with | .int i=>.str (P.getD i.toNat []) | d=>d) hs (by rw[List.length_map,List.length_range];decide) (by
    intro d hd'
    obtain⟨k,hk,rfl⟩:=List.mem_map.mp hd'
    have hk:k<7:=by simpa using hk
    obtain⟨p,h1,h2,h3⟩:=hat k hk
    rw[keep]
    have ei:ev G (.idx (.var 1) (.var 0)) [some (.int k),some (.lst (P.map fun p=>chD (chM m p))),some (.lst (P.map .str))] (Hp m [])=some (chD (chM m p),Hp m []):=by
     have:atI (P.map fun p=>chD (chM m p)) (k:Int)=some (chD (chM m p)):=by rw[atI_get _ _ (by rw[List.length_map];omega),List.getElem?_map,h1];rfl
     simp[ev,idxD,this]
    rw[evB,ev,ei]
    simp only[Option.bind_some,ev_con]
    show _=some ((chM m (P.getD k [])).isSome,_)
    rw[h3]
    cases chM m p with
    | none=>simp[chD,cmpD,isNon]
    | some c=>simp[chD,Ch.d,cmpD,isNon]) (by
    intro d hd' _
    obtain⟨k,hk,rfl⟩:=List.mem_map.mp hd'
    have hk:k<7:=by simpa using hk
    obtain⟨p,h1,h2,h3⟩:=hat k hk
    rw[keep]
    have:atI (P.map D.str) (k:Int)=some (.str p):=by rw[atI_get _ _ (by rw[List.length_map];omega),List.getElem?_map,h1];rfl
    show _=some (D.str (P.getD k []),_)
    rw[h3]
    simp[ev,idxD,this])]
  have el:(((List.range (7:Int).toNat).map fun i:Nat=>D.int (i:Int)).filter fun d=>match d with | .int i=>(chM m (P.getD i.toNat [])).isSome | _=>false).map (fun d=>match d with | .int i=>D.str (P.getD i.toNat []) | d=>d)=H.map D.str:=by
   have:H=((List.range P.length).filter fun i=>(chM m (P.getD i [])).isSome).map fun i=>P.getD i []:=by
    show P.filter _=_
    conv=>lhs;rw[← range_getD [] P]
    rw[List.filter_map]
    rfl
   rw[this,List.filter_map,List.map_map,List.map_map,hP7]
   rfl
  rw[el]
 have esr:ev G (.srtT (.comp (.idx (.var 2) (.var 0)) (some (.val (.cmp .IsNot (.idx (.var 1) (.var 0)) (.con .non)))) (.rng (.con (.int 7))) [13,2])) (lE sc mo P ns m.num x8 x9 x10 x11 x12 (some (.lst (P.map fun p=>chD (chM m p))))) (Hp m [])=some (.lst ((srtS H).map .str),Hp m []):=by
  rw[ev,ecm]
  simp only[Option.bind_some,vw_lst]
  rw[strs_some]
  simp only[Option.bind_some]
  rw[if_pos (by omega)]
 have pureS:pureN 16 (.lst ((srtS H).map .str))=true:=by
  rw[pure_lst,List.all_map,List.all_eq_true]
  intro p hp
  have:p∈H:=(List.mergeSort_perm _ _).mem_iff.mp hp
  have:p∈P:=(List.mem_filter.mp this).1
  simp only[Function.comp,pure_str]
  exact (okP p this).2
 rw[exSs_nx (ρ':=lE sc mo P ns m.num x8 x9 x10 x11 x12 (some (.lst (P.map fun p=>chD (chM m p))))) (h':=Hp m []) (by
  have:=ev_cmpNe (G:=G) ech esr rfl rfl pureS pureS
  have e:eqD (.lst ((srtS H).map .str)) (.lst ((srtS H).map .str))=true:=by
   rw[eqD]
   refine eqDs_refl _ fun d hd=>?_
   obtain⟨p,_,rfl⟩:=List.mem_map.mp hd
   simp
  rw[e] at this
  rw[exS,evB,this]
  simp[exSs])]
 obtain⟨_,⟨p,hp,rfl⟩,epx⟩:=ep_idx (G:=G) (a:=.var 2) (b:=.bin .Mod (.var 1) (.con (.int 7))) (ρ:=lE sc mo P ns m.num x8 x9 x10 x11 x12 (some (.lst (P.map fun p=>chD (chM m p))))) (h:=Hp m []) (n:=7) (PD:=fun d=>∃ x∈P,d=.str x)
  (ep_var (d:=.lst (P.map .str)) (by simp) ⟨_,rfl,by simp[hP7],by
   intro x hx
   obtain⟨i,hi,rfl⟩:=List.mem_map.mp hx
   exact⟨i,hi,rfl⟩⟩)
  (ei_modC (n:=7) (P:=fun _=>True) (ei_var (j:=1) (i:=mo) (by simp) trivial) fun x _=>by
   have h1:=Int.emod_nonneg x (show (7:Int)≠0 by decide)
   have h2:=Int.emod_lt_of_pos x (show (0:Int)<7 by decide)
   exact⟨h1,h2⟩)
 obtain⟨w8,ew8⟩:=fdiv_any (G:=G) (n:=8) (by decide) (ρ:=lE sc mo P ns m.num x8 x9 x10 x11 x12 (some (.lst (P.map fun p=>chD (chM m p))))) (h:=Hp m []) (mo:=mo) (by simp)
 obtain⟨u,hu,hul,eu⟩:=s26 w8 16 (Hp m []) (by decide) (by decide)
 have hul:u.length=16:=by simpa using hul
 have hpb:=hPb p hp
 have ec:ev G (.call 26 [.bin .FloorDiv (.var 1) (.con (.int 8)),.con (.int 16)]) (lE sc mo P ns m.num x8 x9 x10 x11 x12 (some (.lst (P.map fun p=>chD (chM m p))))) (Hp m [])=some (.str u,Hp m []):=ev_call1 (ds:=[.int w8,.int 16]) (by simp only[evs,ew8,Option.bind_some,ev_con]) h26 eu
 have z1:p.length+u.length≤SZ:=by show _≤16777216;omega
 have z2:(p++u).length≤SZ:=by rw[List.length_append];exact z1
 have ea:ev G (.sl (.bin .Add (.idx (.var 2) (.bin .Mod (.var 1) (.con (.int 7)))) (.call 26 [.bin .FloorDiv (.var 1) (.con (.int 8)),.con (.int 16)])) none (some (.con (.int 16)))) (lE sc mo P ns m.num x8 x9 x10 x11 x12 (some (.lst (P.map fun p=>chD (chM m p))))) (Hp m [])=some (.str ((p++u).take 16),Hp m []):=by
  have hc16:cut (p++u) none (some (16:Int))=(p++u).take 16:=cut_take (n:=16)
  have:ev G (.bin .Add (.idx (.var 2) (.bin .Mod (.var 1) (.con (.int 7)))) (.call 26 [.bin .FloorDiv (.var 1) (.con (.int 8)),.con (.int 16)])) (lE sc mo P ns m.num x8 x9 x10 x11 x12 (some (.lst (P.map fun p=>chD (chM m p))))) (Hp m [])=some (.str (p++u),Hp m []):=by
   rw[ev,epx]
   simp only[Option.bind_some]
   rw[ec]
   simp only[Option.bind_some,vw_str,binD,z1,if_true]
  rw[ev,this]
  simp only[Option.bind_some,evo,ev_con,vw_str,slD,z2,if_true,hc16]
 have hab:BitStr ((p++u).take 16):=fun c hc=>bits_app hpb.1 hu c (List.mem_of_mem_take hc)
 have hal:((p++u).take 16).length≤16:=by rw[List.length_take];omega
 have fin:=s31 m P 100 ((p++u).take 16) I hP7 (fun p hp=>⟨okP p hp,by have:=(hPb p hp).2;omega⟩) (bit_ok hab (by omega)) (by omega)
 refine exSs_rt ?_
 rw[exS,evR_call (ds:=[.ref 0,.lst (P.map .str),.lst (P.map fun p=>chD (chM m p)),.str ((p++u).take 16)]) (h':=Hp m []) (by
  simp only[evs,ev_var,getV_succ,getV_zero,Option.bind_some,ea]) h31,fin]
theorem law_ok (L:LawG G) {sc:List Int} (hsc:sc.length≤63):cutDen (runF G 1 14 p_law) [.lst (sc.map .int)] []=.ok (.bl true) []:=by
 obtain⟨φc,h23,s23⟩:=L.cell
 obtain⟨φd,h24,s24⟩:=L.drawn
 obtain⟨φn,h25,s25⟩:=L.num
 obtain⟨φp,h27,s27⟩:=L.pre
 obtain⟨φi,h8,s8⟩:=L.init
 obtain⟨φa,h13,s13⟩:=L.add
 obtain⟨φu,h14,s14⟩:=L.up
 obtain⟨c,hc⟩:=s23 sc 0 [] hsc (by decide) (by decide)
 obtain⟨mo,_,hm⟩:=s24 c 3 [] (by decide) (by decide)
 let ρ0:Ev:=[some (.lst (sc.map .int)),none,none,none,none,none,none,none,none,none,none,none,none,none]
 let ρ1:Ev:=[some (.lst (sc.map .int)),some (.int mo),none,none,none,none,none,none,none,none,none,none,none,none]
 have e1:ev G (.call 24 [.call 23 [.var 0,.con (.int 0)],.con (.int 3)]) ρ0 []=some (.int mo,[]):=by
  refine ev_call1 (ds:=[.int c,.int 3]) ?_ h24 hm
  have:ev G (.call 23 [.var 0,.con (.int 0)]) ρ0 []=some (.int c,[]):=ev_call1 (ds:=[.lst (sc.map .int),.int 0]) (by simp[evs,ρ0]) h23 hc
  simp only[evs,this,Option.bind_some,ev_con]
 obtain⟨w2,ew2⟩:=fdiv_any (G:=G) (n:=64) (by decide) (ρ:=ρ1) (h:=[]) (mo:=mo) rfl
 obtain⟨P,hP7,hPn,hPb,eP⟩:=s27 w2 []
 let ρ2:Ev:=[some (.lst (sc.map .int)),some (.int mo),some (.lst (P.map .str)),none,none,none,none,none,none,none,none,none,none,none]
 obtain⟨w3,_,ew3⟩:=ei_fdivP (G:=G) (n:=30) (P:=fun _=>True) (R:=fun _=>True) (ei_var (ρ:=ρ2) (h:=[]) (j:=1) (i:=mo) rfl trivial) (fun _ _=>trivial)
 obtain⟨ns,hn8,hnn,hnr,eN⟩:=s25 w3 []
 obtain⟨num,nt,rfl⟩:∃ num nt,ns=num::nt:=by
  cases ns with
  | nil=>cases hn8
  | cons a l=>exact⟨a,l,rfl⟩
 have hnt:nt.length=7:=by simpa using hn8
 have hnd:=List.nodup_cons.mp hnn
 have hi:EvI G (.bin .Add (.con (.int 2)) (.bin .Mod (.var 1) (.con (.int 6)))) (lE sc mo P (num::nt) num none none none none none none) (Hp (m0 num []) []) (fun i=>2≤i∧i≤7) :=
  ei_add (P:=fun i=>i=2) (Q:=fun i=>0≤i∧i<6) (ei_con rfl) (ei_modC (P:=fun _=>True) (ei_var (i:=mo) (by simp) trivial) fun x _=>by omega) fun x y e p=>by omega
 obtain⟨w',hw',ew'⟩:=hi
 obtain⟨w,rfl⟩:∃ w:Nat,w'=((1+w:Nat):Int):=⟨w'.toNat - 1,by omega⟩
 have hw1:1≤w∧w≤6:=by omega
 have cutw:cut ((num::nt).map D.int) (some (1:Int)) (some ((1+w:Nat):Int))=(nt.take w).map .int:=by
  have l8:((num::nt).map D.int).length=8:=by simp[hnt]
  have a1:sIx ((num::nt).map D.int).length 0 (some (1:Int))=1:=by rw[l8];exact sIx_nat 8 0 1
  have a2:sIx ((num::nt).map D.int).length ((num::nt).map D.int).length (some ((1+w:Nat):Int))=1+w:=by
   rw[sIx_nat,l8]
   omega
  unfold cut
  rw[a1,a2,List.map_cons,List.drop_succ_cons,List.drop_zero,Nat.add_sub_cancel_left,List.map_take]
 have hs1:evI G (.seq (.sl (.var 3) (some (.con (.int 1))) (some (.bin .Add (.con (.int 2)) (.bin .Mod (.var 1) (.con (.int 6))))))) (lE sc mo P (num::nt) num none none none none none none) (Hp (m0 num []) [])=some ((nt.take w).map .int,Hp (m0 num []) []):=by
  refine evI_seq (d:=.lst ((nt.take w).map .int)) ?_ rfl
  rw[ev,ev_var]
  simp only[getV_succ,getV_zero,Option.bind_some,evo,ev_con,ew',vw_lst,slD,cutw]
 have ntk:(nt.take w).Nodup:=hnd.2.sublist (List.take_sublist _ _)
 have mtk:∀ k∈nt.take w,k∈nt:=fun k hk=>List.mem_of_mem_take hk
 have ltk:(nt.take w).length=w:=by rw[List.length_take];omega
 obtain⟨y8,lp1⟩:=l1_loop (G:=G) h13 s13 h14 s14 (sc:=sc) (mo:=mo) (P:=P) (ns:=num::nt) (num:=num) (nt.take w) [] none (by simpa using ntk) (fun k hk=>⟨fun z=>hnd.1 (z▸mtk k hk),hnr k (List.mem_cons_of_mem _ (mtk k hk))⟩) (by rw[List.nil_append];omega)
 rw[List.nil_append] at lp1
 let m1:=m0 num (nt.take w)
 obtain⟨so,hso,hs9,eso⟩:∃ so:List Int,so≠[]∧(∀ i∈so,1≤i∧i≤999)∧ev G (.bin .Add (.lrep (.sl (.var 3) none (some (.con (.int 1)))) (.blt .int [.bin .Mod (.bin .FloorDiv (.var 1) (.con (.int 8))) (.con (.int 2))])) (.sl (.var 3) (some (.con (.int 1))) none)) (lE sc mo P (num::nt) num y8 none none none none none) (Hp m1 [])=some (.lst (so.map .int),Hp m1 []):=by
  obtain⟨z,hz,ez⟩:EvI G (.bin .Mod (.bin .FloorDiv (.var 1) (.con (.int 8))) (.con (.int 2))) (lE sc mo P (num::nt) num y8 none none none none none) (Hp m1 []) (fun i=>i=0∨i=1) :=
   ei_modC (P:=fun _=>True) (ei_fdivC (P:=fun _=>True) (ei_var (i:=mo) (by simp) trivial) fun _ _=>trivial) fun x _=>by omega
  have c1:cut ((num::nt).map D.int) none (some (1:Int))=[.int num]:=cut_take (n:=1)
  have c2:cut ((num::nt).map D.int) (some (1:Int)) none=nt.map .int:=by
   have l8:((num::nt).map D.int).length=8:=by simp[hnt]
   have a1:sIx ((num::nt).map D.int).length 0 (some (1:Int))=1:=by rw[l8];exact sIx_nat 8 0 1
   have a2:sIx ((num::nt).map D.int).length ((num::nt).map D.int).length none=8:=l8
   unfold cut
   rw[a1,a2,List.map_cons,List.drop_succ_cons,List.drop_zero]
   exact List.take_of_length_le (by simp[hnt])
  have ei:ev G (.blt .int [.bin .Mod (.bin .FloorDiv (.var 1) (.con (.int 8))) (.con (.int 2))]) (lE sc mo P (num::nt) num y8 none none none none none) (Hp m1 [])=some (.int z,Hp m1 []):=by
   rw[ev]
   simp only[evs,ez,Option.bind_some]
   rfl
  have es1:ev G (.sl (.var 3) none (some (.con (.int 1)))) (lE sc mo P (num::nt) num y8 none none none none none) (Hp m1 [])=some (.lst [.int num],Hp m1 []):=by
   rw[ev,ev_var]
   simp only[getV_succ,getV_zero,Option.bind_some,evo,ev_con,vw_lst,slD,c1]
  have es2:ev G (.sl (.var 3) (some (.con (.int 1))) none) (lE sc mo P (num::nt) num y8 none none none none none) (Hp m1 [])=some (.lst (nt.map .int),Hp m1 []):=by
   rw[ev,ev_var]
   simp only[getV_succ,getV_zero,Option.bind_some,evo,ev_con,vw_lst,slD,c2]
  have szl:∀ l:List Int,l.length≤8→(l.map D.int).length≤SZ:=fun l hl=>by rw[List.length_map];show _≤16777216;omega
  rcases hz with rfl | rfl
  ·refine⟨nt,(fun z=>by rw[z] at hnt;cases hnt),fun i hi=>hnr i (List.mem_cons_of_mem _ hi),?_⟩
   have el:ev G (.lrep (.sl (.var 3) none (some (.con (.int 1)))) (.blt .int [.bin .Mod (.bin .FloorDiv (.var 1) (.con (.int 8))) (.con (.int 2))])) (lE sc mo P (num::nt) num y8 none none none none none) (Hp m1 [])=some (.lst [],Hp m1 []):=by
    rw[ev,es1]
    simp only[Option.bind_some,ei,vw_lst]
    rfl
   rw[ev,el]
   simp only[Option.bind_some,es2,vw_lst,binD,List.nil_append]
   first | rfl | (rw[if_pos (by first | exact szl nt (by omega) | (show _≤16777216;simp;omega))];rfl)
  ·refine⟨num::nt,by simp,hnr,?_⟩
   have el:ev G (.lrep (.sl (.var 3) none (some (.con (.int 1)))) (.blt .int [.bin .Mod (.bin .FloorDiv (.var 1) (.con (.int 8))) (.con (.int 2))])) (lE sc mo P (num::nt) num y8 none none none none none) (Hp m1 [])=some (.lst [.int num],Hp m1 []):=by
    rw[ev,es1]
    simp only[Option.bind_some,ei,vw_lst]
    rfl
   rw[ev,el]
   simp only[Option.bind_some,es2,vw_lst,binD]
   first | rfl | (rw[if_pos (by first | exact szl (num::nt) (by simp;omega) | (show _≤16777216;simp;omega))];rfl)
 obtain⟨tn',htn,etn⟩:EvI G (.blt .max2 [.con (.int 1),.blt .min2 [.con (.int 12),.blt .len [.var 0]]]) (lE sc mo P (num::nt) num y8 (some (.lst (so.map .int))) none none none none) (Hp m1 []) (fun i=>1≤i∧i≤12) :=
  ei_max2 (P:=fun i=>i=1) (Q:=fun i=>i≤12) (ei_con rfl) (ei_min2 (P:=fun i=>i=12) (Q:=fun _=>True) (ei_con rfl) (ei_lenL (PL:=fun _=>True) (ep_var (d:=.lst (sc.map .int)) (by simp) ⟨_,rfl,trivial⟩) fun _ _=>trivial) fun x y e _=>by subst e;split<;>omega) fun x y e h=>by subst e;split<;>omega
 obtain⟨tn,rfl⟩:∃ tn:Nat,tn'=tn:=⟨tn'.toNat,by omega⟩
 have I0:Inv m1 P 0:=m0_inv num (nt.take w) P ntk (by omega) fun k hk=>hnr k (List.mem_cons_of_mem _ (mtk k hk))
 have hnb0:m1.nb≠[]:=by
  intro z
  have:((nt.take w).map fun k=>(⟨k,[],[]⟩:Nb)).length=0:=by
   have z':(nt.take w).map (fun k=>(⟨k,[],[]⟩:Nb))=[]:=z
   rw[z']
   rfl
  rw[List.length_map] at this
  omega
 obtain⟨mo',z8,z10,z11,z12,m,I,en,lp2⟩:=l2_loop (G:=G) L.toTurnG hsc hP7 hPb (ns:=num::nt) hso hs9 (num:=num) (List.range tn) 0 m1 mo y8 none none none (fun k hk=>by have:=List.mem_range.mp hk;omega) (by rw[List.length_range];omega) I0 hnb0 rfl
 have tl:=tail_ok (G:=G) L (sc:=sc) (mo:=mo') hP7 hPn hPb (ns:=num::nt) I z8 (some (.lst (so.map .int))) z10 z11 z12
 rw[en] at tl
 refine run_rtN (h':=Hp m []) rfl ?_ rfl rfl
 have ep:p_law=p_law.take 7++(PSt.forS (.nm 8) (.seq (.sl (.var 3) (some (.con (.int 1))) (some (.bin .Add (.con (.int 2)) (.bin .Mod (.var 1) (.con (.int 6))))))) b1::PSt.asg (.nm 9) (.bin .Add (.lrep (.sl (.var 3) none (some (.con (.int 1)))) (.blt .int [.bin .Mod (.bin .FloorDiv (.var 1) (.con (.int 8))) (.con (.int 2))])) (.sl (.var 3) (some (.con (.int 1))) none))::PSt.forS (.nm 10) (.rng (.blt .max2 [.con (.int 1),.blt .min2 [.con (.int 12),.blt .len [.var 0]]])) b2::tailP):=rfl
 have first:exSs G (p_law.take 7) ρ0 []=.nx (lE sc mo P (num::nt) num none none none none none none) (Hp (m0 num []) []):=by
  unfold p_law
  simp only[List.take_succ_cons,List.take_zero]
  rw[exSs_nx (ρ':=ρ1) (h':=[]) (by rw[exS,evR_ev e1];rfl)]
  rw[exSs_nx (ρ':=ρ2) (h':=[]) (by
   have:ev G (.call 27 [.bin .FloorDiv (.var 1) (.con (.int 64))]) ρ1 []=some (.lst (P.map .str),[]):=ev_call1 (ds:=[.int w2]) (by simp only[evs,ew2,Option.bind_some]) h27 eP
   rw[exS,evR_ev this];rfl)]
  let ρ3:Ev:=[some (.lst (sc.map .int)),some (.int mo),some (.lst (P.map .str)),some (.lst ((num::nt).map .int)),none,none,none,none,none,none,none,none,none,none]
  rw[exSs_nx (ρ':=ρ3) (h':=[]) (by
   have:ev G (.call 25 [.bin .FloorDiv (.var 1) (.bin .Pow (.con (.int 2)) (.con (.int 30))),.con (.int 8)]) ρ2 []=some (.lst ((num::nt).map .int),[]):=ev_call1 (ds:=[.int w3,.int 8]) (by simp only[evs,ew3,Option.bind_some,ev_con]) h25 eN
   rw[exS,evR_ev this];rfl)]
  let ρ4:Ev:=[some (.lst (sc.map .int)),some (.int mo),some (.lst (P.map .str)),some (.lst ((num::nt).map .int)),some (.int num),none,none,none,none,none,none,none,none,none]
  rw[exSs_nx (ρ':=ρ4) (h':=[]) (by
   have:ev G (.idx (.var 3) (.con (.int 0))) ρ3 []=some (.int num,[]):=by simp[ev,ρ3,idxD,atI,ixN]
   rw[exS,evR_ev this];rfl)]
  let ρ5:Ev:=[some (.lst (sc.map .int)),some (.int mo),some (.lst (P.map .str)),some (.lst ((num::nt).map .int)),some (.int num),some (.ref 0),none,none,none,none,none,none,none,none]
  rw[exSs_nx (ρ':=ρ5) (h':=[insR num,.dct false [],.dct false [],.dct false []]) (by
   have:ev G (.make 8 "Router" [.var 4]) ρ4 []=some (.ref 0,[insR num,.dct false [],.dct false [],.dct false []]):=by
    have hx:evs G [.var 4] ρ4 []=some ([.int num],[]):=by simp[evs,ρ4]
    rw[ev,hx]
    simp only[Option.bind_some]
    rw[h8]
    simp only[Option.bind_some]
    have:=s8 num
    simp only[List.length_nil,List.nil_append]
    rw[this]
   rw[exS,evR_ev this];rfl)]
  let ρ6:Ev:=[some (.lst (sc.map .int)),some (.int mo),some (.lst (P.map .str)),some (.lst ((num::nt).map .int)),some (.int num),some (.ref 0),some (.ref 4),none,none,none,none,none,none,none]
  rw[exSs_nx (ρ':=ρ6) (h':=[insR num,.dct false [],.dct false [],.dct false [],.dct false []]) (by
   have:ev G .dnew ρ5 [insR num,.dct false [],.dct false [],.dct false []]=some (.ref 4,[insR num,.dct false [],.dct false [],.dct false [],.dct false []]):=by rw[ev];rfl
   rw[exS,evR_ev this];rfl)]
  rw[exSs_nx (ρ':=lE sc mo P (num::nt) num none none none none none none) (h':=Hp (m0 num []) []) (by
   have:ev G .dnew ρ6 [insR num,.dct false [],.dct false [],.dct false [],.dct false []]=some (.ref 5,Hp (m0 num []) []):=by rw[ev];rfl
   rw[exS,evR_ev this];rfl)]
  rw[exSs]
 have e0:startE 14 [D.lst (sc.map .int)]=ρ0:=rfl
 rw[ep,exSs_app,e0,first]
 simp only
 rw[exSs_nx (ρ':=lE sc mo P (num::nt) num y8 none none none none none) (h':=Hp m1 []) (by rw[exS_for hs1,lp1])]
 rw[exSs_nx (ρ':=lE sc mo P (num::nt) num y8 (some (.lst (so.map .int))) none none none none) (h':=Hp m1 []) (by rw[exS,evR_ev eso];rfl)]
 rw[exSs_nx (ρ':=lE sc mo' P (num::nt) num z8 (some (.lst (so.map .int))) z10 z11 z12 none) (h':=Hp m []) (by rw[exS_for (evI_rng etn ⟨by omega,by omega⟩),Int.toNat_natCast,lp2])]
 exact tl
end
end K13
set_option maxHeartbeats 0
namespace K13
open PySem PySem.Spec PyProof.Rows MP L2
noncomputable def top (i:Nat):Stmt:=PySem.Challenge.pw_plainpath_k13_chosen_of_what_was_heard.main.body.getD i (.Pass ⟨0,0,0,0⟩)
noncomputable def cts:List (Str×D):=[("MOST_SIGNS",.int 16),("MOST_STEPS",.int 12),("MOST_TAGS",.int 4),("GREATEST_NUMBER",.int 999),("GREATEST_WEIGHT",.int 1000),("GREATEST_TAG",.int 99),("GREATEST_PREFERENCE",.int 1000),("FIRST_PREFERENCE",.int 100)]
noncomputable def fns:List Str:=["is_prefix","is_path","are_tags","need_prefix","need_route","judged","rank","__name__","__name__","__name__","__name__","__name__","__name__","__name__","__name__","__name__","__name__","__name__","__name__","__name__","__name__","__name__","__name__","_law_cell","_law_drawn","_law_numbers","_law_bits","_law_prefixes","_law_tags","_law_route","_law_best","_law_found"]
noncomputable def blt:List Str:=["len","sorted","tuple","range","min","max","list","int","all","isinstance"]
noncomputable def flds:List (Str×Str):=[("Router","number"),("Router","neighbours"),("Router","owned"),("Router","choices"),("Neighbour","is_up"),("Neighbour","rules_in"),("Neighbour","rules_out"),("Neighbour","said"),("Neighbour","told")]
noncomputable def mths:List (Nat×Str×Str):=[(9,"Router","need_stranger"),(10,"Router","need_neighbour"),(11,"Router","need_up"),(12,"Router","has_neighbour"),(13,"Router","add"),(14,"Router","up"),(15,"Router","counting"),(16,"Router","choice"),(17,"Router","choose_again"),(18,"Router","hear"),(19,"Router","own"),(20,"Router","best"),(21,"Router","find"),(22,"Router","chosen")]
noncomputable def mks:List (Nat×Str):=[(7,"Neighbour"),(8,"Router")]
noncomputable def cc (st:Stmt) (N:List Str):CC:={ N:=N,nm:=(defScope st).names,ct:=cts,fs:=fns,bl:=blt,mu:=[200,289,308],er:=[0,2],fd:=flds,ms:=mths,mn:=mks }
def Dv (st:Stmt) (N:List Str) (p:List PSt):Prop:=∀ X EX G k,CtxS X (cc st N) G k EX→PSs X (defBody st) (rdSs X.K G EX p)
noncomputable def scb (N P:List Str) (sc:Scope):Bool:=decide (N.Nodup)&&decide (∀ x∈P,sc.names.lookup x=some .local∨sc.names.lookup x=some .cell)&&decide (∀ y∈sc.names,y.2≠.free)
theorem scm {N P:List Str}{sc:Scope} (h:scb N P sc=true) (h1:sc.kind=.function) (h2:sc.isCoroutine=false) (h3:sc.isGenerator=false) (h4:N.take P.length=P):FnScope N P sc:=by
 unfold scb at h
 simp only[Bool.and_eq_true,decide_eq_true_eq] at h
 exact⟨h1,h2,h3,h.1.1,h4,h.1.2,h.2⟩
theorem dv :
 Dv (top 17) ["text"] p_is_prefix ∧
 Dv (top 18) ["path"] p_is_path ∧
 Dv (top 19) ["tags","last","tag"] p_are_tags ∧
 Dv (top 20) ["prefix"] p_need_prefix ∧
 Dv (top 21) ["route"] p_need_route ∧
 Dv (top 26) ["rules","route","preference","ahead","current","rule","deed"] p_judged ∧
 Dv (top 29) ["choice","route"] p_rank ∧
 Dv (inClass (top 31) 0) ["self"] p_Neighbour___init__ ∧
 Dv (inClass (top 32) 0) ["self","number"] p_Router___init__ ∧
 Dv (inClass (top 32) 1) ["self","other"] p_Router_need_stranger ∧
 Dv (inClass (top 32) 2) ["self","other"] p_Router_need_neighbour ∧
 Dv (inClass (top 32) 3) ["self","other","neighbour"] p_Router_need_up ∧
 Dv (inClass (top 32) 4) ["self","other"] p_Router_has_neighbour ∧
 Dv (inClass (top 32) 6) ["self","other"] p_Router_add ∧
 Dv (inClass (top 32) 7) ["self","other","neighbour"] p_Router_up ∧
 Dv (inClass (top 32) 13) ["self","prefix","found","other","neighbour","route","verdict"] p_Router_counting ∧
 Dv (inClass (top 32) 14) ["self","prefix"] p_Router_choice ∧
 Dv (inClass (top 32) 15) ["self","prefixes","prefix","choice"] p_Router_choose_again ∧
 Dv (inClass (top 32) 10) ["self","other","route","neighbour"] p_Router_hear ∧
 Dv (inClass (top 32) 12) ["self","prefix","is_own"] p_Router_own ∧
 Dv (inClass (top 32) 16) ["self","prefix"] p_Router_best ∧
 Dv (inClass (top 32) 17) ["self","address","size","choice"] p_Router_find ∧
 Dv (inClass (top 32) 18) ["self"] p_Router_chosen ∧
 Dv (top 34) ["_law_script","_law_k"] p_cell ∧
 Dv (top 35) ["_law_cell_here","_law_k","_law_more"] p_drawn ∧
 Dv (top 36) ["_law_more","_law_many","_law_step"] p_numbers ∧
 Dv (top 37) ["_law_more","_law_many"] p_bits ∧
 Dv (top 38) ["_law_more","_law_stem","_law_found_here"] p_prefixes ∧
 Dv (top 39) ["_law_more","_law_some"] p_tags ∧
 Dv (top 40) ["_law_more","_law_prefixes_here","_law_first","_law_some","_law_path","_law_k","_law_weight"] p_route ∧
 Dv (top 42) ["_law_said","_law_owned","_law_number","_law_prefix","_law_rows","_law_other","_law_route_here"] p_best ∧
 Dv (top 43) ["_law_router","_law_prefixes_here","_law_due","_law_address","_law_held","_law_one","_law_found_here","_law_best_here"] p_found ∧
 Dv (top 44) ["_law_script","_law_more","_law_prefixes_here","_law_numbers_here","_law_number","_law_router","_law_said","_law_owned","_law_other","_law_some","_law_k","_law_route_here","_law_prefix","_law_due"] p_law:=by
 refine⟨fun X EX G k S=>?_,fun X EX G k S=>?_,fun X EX G k S=>?_,fun X EX G k S=>?_,fun X EX G k S=>?_,fun X EX G k S=>?_,fun X EX G k S=>?_,fun X EX G k S=>?_,fun X EX G k S=>?_,fun X EX G k S=>?_,fun X EX G k S=>?_,fun X EX G k S=>?_,fun X EX G k S=>?_,fun X EX G k S=>?_,fun X EX G k S=>?_,fun X EX G k S=>?_,fun X EX G k S=>?_,fun X EX G k S=>?_,fun X EX G k S=>?_,fun X EX G k S=>?_,fun X EX G k S=>?_,fun X EX G k S=>?_,fun X EX G k S=>?_,fun X EX G k S=>?_,fun X EX G k S=>?_,fun X EX G k S=>?_,fun X EX G k S=>?_,fun X EX G k S=>?_,fun X EX G k S=>?_,fun X EX G k S=>?_,fun X EX G k S=>?_,fun X EX G k S=>?_,fun X EX G k S=>?_⟩ <;>
  (have O:=S.ok;have xc:=S.xc;refine ss_cons ?_ ?_<;>repeat' (first
   | with_reducible first | refine ss_nil | refine ss_cons ?_ ?_ | refine d_minK O ?_ ?_ ?_ ?_ ?_ | refine d_minK O' ?_ ?_ ?_ ?_ ?_ | refine d_srtR O ?_ ?_ ?_ | refine d_srtR O' ?_ ?_ ?_ | refine d_dsrt O ?_ ?_ ?_ | refine d_dsrt O' ?_ ?_ ?_ | refine d_srtT O ?_ ?_ ?_ | refine d_srtT O' ?_ ?_ ?_ | refine d_dlen O ?_ ?_ ?_ | refine d_dlen O' ?_ ?_ ?_ | refine d_lrep ?_ ?_ | refine d_forN S ?_ ?_ ?_ ?_ ?_ ?_ ?_ ?_ ?_ ?_ | refine d_forE S ?_ ?_ | refine d_forD S ?_ ?_ ?_ ?_ | refine d_fld O ?_ ?_ ?_ | refine d_fld O' ?_ ?_ ?_ | refine d_dget O ?_ ?_ ?_ | refine d_dget O' ?_ ?_ ?_ | refine d_dgetN O ?_ ?_ ?_ ?_ ?_ ?_ | refine d_dgetN O' ?_ ?_ ?_ ?_ ?_ ?_ | refine d_dpopN ?_ ?_ ?_ ?_ ?_ ?_ | refine d_dpop ?_ ?_ ?_ ?_ ?_ ?_ | refine d_din O ?_ ?_ ?_ | refine d_din O' ?_ ?_ ?_ | refine d_dnotin O ?_ ?_ ?_ | refine d_dnotin O' ?_ ?_ ?_ | refine e_isi O ?_ ?_ ?_ ?_ ?_ | refine e_isi O' ?_ ?_ ?_ ?_ ?_ | refine t_din O ?_ ?_ ?_ | refine t_din O' ?_ ?_ ?_ | refine t_dnotin O ?_ ?_ ?_ | refine t_dnotin O' ?_ ?_ ?_ | refine d_fset O ?_ ?_ ?_ ?_ | refine d_fset O' ?_ ?_ ?_ ?_ | refine d_dput O ?_ ?_ ?_ ?_ | refine d_dput O' ?_ ?_ ?_ ?_ | refine d_rmcall O xc ?_ ?_ ?_ ?_ ?_ ?_ | refine d_mcall O ?_ ?_ ?_ ?_ ?_ ?_ | refine d_mcall O' ?_ ?_ ?_ ?_ ?_ ?_ | refine d_rmcall0 O xc ?_ ?_ ?_ | refine d_mcall0 O ?_ ?_ ?_ | refine d_mcall0 O' ?_ ?_ ?_ | refine d_make O ?_ ?_ ?_ ?_ ?_ | refine d_make O' ?_ ?_ ?_ ?_ ?_ | refine d_make0 O ?_ ?_ | refine d_make0 O' ?_ ?_ | refine e_dnew | refine x_con ?_ | refine x_name O ?_ | refine x_name O' ?_ | refine e_bin ?_ ?_ | refine a_nil | refine a_cons ?_ ?_ ?_ | refine e_idx ?_ ?_ ?_ | refine e_sl ?_ ?_ ?_ | refine o_none | refine o_some ?_ | refine e_tup ?_ | refine e_lst ?_ | refine e_new ?_ | refine e_neg ?_ | refine e_not ?_ | refine e_and ?_ ?_ | refine e_or ?_ ?_ | refine pe_one ?_ | refine m_join ?_ ?_ ?_ ?_ ?_ | refine m_append ?_ ?_ ?_ ?_ ?_ | refine t_not ?_ | refine t_and ?_ ?_ | refine t_or ?_ ?_ | refine w_and ?_ ?_ | refine w_or ?_ ?_ | refine pw_and1 ?_ | refine pw_or1 ?_ | refine i_seq ?_ | refine s_ret ?_ | refine s_retN | refine s_brk | refine s_cnt | refine s_if ?_ ?_ ?_ | refine s_ex ?_ ?_ | refine e_cmp O ?_ ?_ ?_ | refine e_cmp O' ?_ ?_ ?_ | refine e_cmp2 O ?_ ?_ ?_ ?_ | refine e_cmp2 O' ?_ ?_ ?_ ?_ | refine d_sset O ?_ ?_ ?_ ?_ | refine d_sset O' ?_ ?_ ?_ ?_ | refine e_call O ?_ ?_ ?_ ?_ ?_ | refine e_call O' ?_ ?_ ?_ ?_ ?_ | refine d_blt O ?_ ?_ ?_ ?_ ?_ ?_ | refine d_blt O' ?_ ?_ ?_ ?_ ?_ ?_ | refine d_comp0 O ?_ ?_ ?_ ?_ ?_ | refine d_comp0 O' ?_ ?_ ?_ ?_ ?_ | refine d_comp1 O ?_ ?_ ?_ ?_ ?_ ?_ | refine d_comp1 O' ?_ ?_ ?_ ?_ ?_ ?_ | refine t_cmp O ?_ ?_ ?_ | refine t_cmp O' ?_ ?_ ?_ | refine t_cmp2 O ?_ ?_ ?_ ?_ | refine t_cmp2 O' ?_ ?_ ?_ ?_ | refine d_rng O ?_ ?_ ?_ ?_ | refine d_rng O' ?_ ?_ ?_ ?_ | refine r_call O xc ?_ ?_ ?_ ?_ ?_ | refine g_name S ?_ ?_ | refine g_tup S ?_ | refine d_asgC S ?_ ?_ ?_ ?_ ?_ ?_ ?_ | refine d_asgC1 S ?_ ?_ ?_ ?_ ?_ ?_ ?_ ?_ | refine d_for S ?_ ?_ ?_ ?_ | refine d_rai S ?_ ?_ ?_ ?_ ?_ ?_ ?_ | refine uc_mk fun X' O'=>?_ | refine t_val ?_ ?_ | refine s_asg ?_ ?_ ?_ ?_ ?_ | refine d_r ?_ ?_
   | exact rfl
   | exact fun _=>rfl
   | exact fun _ _=>rfl
   | exact⟨_,rfl⟩))
theorem sc_is_prefix:FnScope ["text"] ["text"] (defScope (top 17)):=scm (by decide +kernel) rfl rfl rfl rfl
theorem sc_is_path:FnScope ["path"] ["path"] (defScope (top 18)):=scm (by decide +kernel) rfl rfl rfl rfl
theorem sc_are_tags:FnScope ["tags","last","tag"] ["tags"] (defScope (top 19)):=scm (by decide +kernel) rfl rfl rfl rfl
theorem sc_need_prefix:FnScope ["prefix"] ["prefix"] (defScope (top 20)):=scm (by decide +kernel) rfl rfl rfl rfl
theorem sc_need_route:FnScope ["route"] ["route"] (defScope (top 21)):=scm (by decide +kernel) rfl rfl rfl rfl
theorem sc_judged:FnScope ["rules","route","preference","ahead","current","rule","deed"] ["rules","route"] (defScope (top 26)):=scm (by decide +kernel) rfl rfl rfl rfl
theorem sc_rank:FnScope ["choice","route"] ["choice"] (defScope (top 29)):=scm (by decide +kernel) rfl rfl rfl rfl
theorem sc_Neighbour___init__:FnScope ["self"] ["self"] (defScope (inClass (top 31) 0)):=scm (by decide +kernel) rfl rfl rfl rfl
theorem sc_Router___init__:FnScope ["self","number"] ["self","number"] (defScope (inClass (top 32) 0)):=scm (by decide +kernel) rfl rfl rfl rfl
theorem sc_Router_need_stranger:FnScope ["self","other"] ["self","other"] (defScope (inClass (top 32) 1)):=scm (by decide +kernel) rfl rfl rfl rfl
theorem sc_Router_need_neighbour:FnScope ["self","other"] ["self","other"] (defScope (inClass (top 32) 2)):=scm (by decide +kernel) rfl rfl rfl rfl
theorem sc_Router_need_up:FnScope ["self","other","neighbour"] ["self","other"] (defScope (inClass (top 32) 3)):=scm (by decide +kernel) rfl rfl rfl rfl
theorem sc_Router_has_neighbour:FnScope ["self","other"] ["self","other"] (defScope (inClass (top 32) 4)):=scm (by decide +kernel) rfl rfl rfl rfl
theorem sc_Router_add:FnScope ["self","other"] ["self","other"] (defScope (inClass (top 32) 6)):=scm (by decide +kernel) rfl rfl rfl rfl
theorem sc_Router_up:FnScope ["self","other","neighbour"] ["self","other"] (defScope (inClass (top 32) 7)):=scm (by decide +kernel) rfl rfl rfl rfl
theorem sc_Router_counting:FnScope ["self","prefix","found","other","neighbour","route","verdict"] ["self","prefix"] (defScope (inClass (top 32) 13)):=scm (by decide +kernel) rfl rfl rfl rfl
theorem sc_Router_choice:FnScope ["self","prefix"] ["self","prefix"] (defScope (inClass (top 32) 14)):=scm (by decide +kernel) rfl rfl rfl rfl
theorem sc_Router_choose_again:FnScope ["self","prefixes","prefix","choice"] ["self","prefixes"] (defScope (inClass (top 32) 15)):=scm (by decide +kernel) rfl rfl rfl rfl
theorem sc_Router_hear:FnScope ["self","other","route","neighbour"] ["self","other","route"] (defScope (inClass (top 32) 10)):=scm (by decide +kernel) rfl rfl rfl rfl
theorem sc_Router_own:FnScope ["self","prefix","is_own"] ["self","prefix","is_own"] (defScope (inClass (top 32) 12)):=scm (by decide +kernel) rfl rfl rfl rfl
theorem sc_Router_best:FnScope ["self","prefix"] ["self","prefix"] (defScope (inClass (top 32) 16)):=scm (by decide +kernel) rfl rfl rfl rfl
theorem sc_Router_find:FnScope ["self","address","size","choice"] ["self","address"] (defScope (inClass (top 32) 17)):=scm (by decide +kernel) rfl rfl rfl rfl
theorem sc_Router_chosen:FnScope ["self"] ["self"] (defScope (inClass (top 32) 18)):=scm (by decide +kernel) rfl rfl rfl rfl
theorem sc_l_cell:FnScope ["_law_script","_law_k"] ["_law_script","_law_k"] (defScope (top 34)):=scm (by decide +kernel) rfl rfl rfl rfl
theorem sc_l_drawn:FnScope ["_law_cell_here","_law_k","_law_more"] ["_law_cell_here","_law_k"] (defScope (top 35)):=scm (by decide +kernel) rfl rfl rfl rfl
theorem sc_l_numbers:FnScope ["_law_more","_law_many","_law_step"] ["_law_more","_law_many"] (defScope (top 36)):=scm (by decide +kernel) rfl rfl rfl rfl
theorem sc_l_bits:FnScope ["_law_more","_law_many"] ["_law_more","_law_many"] (defScope (top 37)):=scm (by decide +kernel) rfl rfl rfl rfl
theorem sc_l_prefixes:FnScope ["_law_more","_law_stem","_law_found_here"] ["_law_more"] (defScope (top 38)):=scm (by decide +kernel) rfl rfl rfl rfl
theorem sc_l_tags:FnScope ["_law_more","_law_some"] ["_law_more"] (defScope (top 39)):=scm (by decide +kernel) rfl rfl rfl rfl
theorem sc_l_route:FnScope ["_law_more","_law_prefixes_here","_law_first","_law_some","_law_path","_law_k","_law_weight"] ["_law_more","_law_prefixes_here","_law_first","_law_some"] (defScope (top 40)):=scm (by decide +kernel) rfl rfl rfl rfl
theorem sc_l_best:FnScope ["_law_said","_law_owned","_law_number","_law_prefix","_law_rows","_law_other","_law_route_here"] ["_law_said","_law_owned","_law_number","_law_prefix"] (defScope (top 42)):=scm (by decide +kernel) rfl rfl rfl rfl
theorem sc_l_found:FnScope ["_law_router","_law_prefixes_here","_law_due","_law_address","_law_held","_law_one","_law_found_here","_law_best_here"] ["_law_router","_law_prefixes_here","_law_due","_law_address"] (defScope (top 43)):=scm (by decide +kernel) rfl rfl rfl rfl
theorem sc_law:FnScope ["_law_script","_law_more","_law_prefixes_here","_law_numbers_here","_law_number","_law_router","_law_said","_law_owned","_law_other","_law_some","_law_k","_law_route_here","_law_prefix","_law_due"] ["_law_script"] (defScope (top 44)):=scm (by decide +kernel) rfl rfl rfl rfl
noncomputable def g0:List Den:=[]
noncomputable def d_is_prefix:Den:=cutDen (runF g0 1 1 p_is_prefix)
noncomputable def g1:List Den:=g0++[d_is_prefix]
noncomputable def d_is_path:Den:=cutDen (runF g1 1 1 p_is_path)
noncomputable def g2:List Den:=g1++[d_is_path]
noncomputable def d_are_tags:Den:=cutDen (runF g2 1 3 p_are_tags)
noncomputable def g3:List Den:=g2++[d_are_tags]
noncomputable def d_need_prefix:Den:=cutDen (runF g3 1 1 p_need_prefix)
noncomputable def g4:List Den:=g3++[d_need_prefix]
noncomputable def d_need_route:Den:=cutDen (runF g4 1 1 p_need_route)
noncomputable def g5:List Den:=g4++[d_need_route]
noncomputable def d_judged:Den:=cutDen (runF g5 2 7 p_judged)
noncomputable def g6:List Den:=g5++[d_judged]
noncomputable def d_rank:Den:=cutDen (runF g6 1 2 p_rank)
noncomputable def g7:List Den:=g6++[d_rank]
noncomputable def d_Neighbour___init__:Den:=cutDen (runF g7 1 1 p_Neighbour___init__)
noncomputable def g8:List Den:=g7++[d_Neighbour___init__]
noncomputable def d_Router___init__:Den:=cutDen (runF g8 2 2 p_Router___init__)
noncomputable def g9:List Den:=g8++[d_Router___init__]
noncomputable def d_Router_need_stranger:Den:=cutDen (runF g9 2 2 p_Router_need_stranger)
noncomputable def g10:List Den:=g9++[d_Router_need_stranger]
noncomputable def d_Router_need_neighbour:Den:=cutDen (runF g10 2 2 p_Router_need_neighbour)
noncomputable def g11:List Den:=g10++[d_Router_need_neighbour]
noncomputable def d_Router_need_up:Den:=cutDen (runF g11 2 3 p_Router_need_up)
noncomputable def g12:List Den:=g11++[d_Router_need_up]
noncomputable def d_Router_has_neighbour:Den:=cutDen (runF g12 2 2 p_Router_has_neighbour)
noncomputable def g13:List Den:=g12++[d_Router_has_neighbour]
noncomputable def d_Router_add:Den:=cutDen (runF g13 2 2 p_Router_add)
noncomputable def g14:List Den:=g13++[d_Router_add]
noncomputable def d_Router_up:Den:=cutDen (runF g14 2 3 p_Router_up)
noncomputable def g15:List Den:=g14++[d_Router_up]
noncomputable def d_Router_counting:Den:=cutDen (runF g15 2 7 p_Router_counting)
noncomputable def g16:List Den:=g15++[d_Router_counting]
noncomputable def d_Router_choice:Den:=cutDen (runF g16 2 2 p_Router_choice)
noncomputable def g17:List Den:=g16++[d_Router_choice]
noncomputable def d_Router_choose_again:Den:=cutDen (runF g17 2 4 p_Router_choose_again)
noncomputable def g18:List Den:=g17++[d_Router_choose_again]
noncomputable def d_Router_hear:Den:=cutDen (runF g18 3 4 p_Router_hear)
noncomputable def g19:List Den:=g18++[d_Router_hear]
noncomputable def d_Router_own:Den:=cutDen (runF g19 3 3 p_Router_own)
noncomputable def g20:List Den:=g19++[d_Router_own]
noncomputable def d_Router_best:Den:=cutDen (runF g20 2 2 p_Router_best)
noncomputable def g21:List Den:=g20++[d_Router_best]
noncomputable def d_Router_find:Den:=cutDen (runF g21 2 4 p_Router_find)
noncomputable def g22:List Den:=g21++[d_Router_find]
noncomputable def d_Router_chosen:Den:=cutDen (runF g22 1 1 p_Router_chosen)
noncomputable def g23:List Den:=g22++[d_Router_chosen]
noncomputable def d_l_cell:Den:=cutDen (runF g23 2 2 p_cell)
noncomputable def g24:List Den:=g23++[d_l_cell]
noncomputable def d_l_drawn:Den:=cutDen (runF g24 2 3 p_drawn)
noncomputable def g25:List Den:=g24++[d_l_drawn]
noncomputable def d_l_numbers:Den:=cutDen (runF g25 2 3 p_numbers)
noncomputable def g26:List Den:=g25++[d_l_numbers]
noncomputable def d_l_bits:Den:=cutDen (runF g26 2 2 p_bits)
noncomputable def g27:List Den:=g26++[d_l_bits]
noncomputable def d_l_prefixes:Den:=cutDen (runF g27 1 3 p_prefixes)
noncomputable def g28:List Den:=g27++[d_l_prefixes]
noncomputable def d_l_tags:Den:=cutDen (runF g28 1 2 p_tags)
noncomputable def g29:List Den:=g28++[d_l_tags]
noncomputable def d_l_route:Den:=cutDen (runF g29 4 7 p_route)
noncomputable def g30:List Den:=g29++[d_l_route]
noncomputable def d_l_best:Den:=cutDen (runF g30 4 7 p_best)
noncomputable def g31:List Den:=g30++[d_l_best]
noncomputable def d_l_found:Den:=cutDen (runF g31 4 8 p_found)
noncomputable def g32:List Den:=g31++[d_l_found]
noncomputable def d_law:Den:=cutDen (runF g32 1 14 p_law)
end K13
set_option maxHeartbeats 4000000
namespace MP
open PySem PySem.Spec PyProof.Rows L2
section
variable {P:Program}{w:World}{K:PySem.W.Frag}{mg:Str→Option Value}{base:Heap}{j k:Nat}{c m x qual:Str}{f:Den}{st:Stmt}{fa Ca:Addr}{fd:FuncData}{N ps:List Str}{C:CC}{G:List Den}{b:List PSt}
theorem MethX.mono (h:MethX P w K mg base j c m f) (hj:j≤k):MethX P w K mg base k c m f:=by
 obtain⟨Ca,fa,fd,ps,a,b,d,e,g⟩:=h
 exact⟨Ca,fa,fd,ps,a,b,d,e.mono hj,g⟩
structure Al (P:Program) (w:World) (K:PySem.W.Frag) (mg:Str→Option Value) (base:Heap) (fns:List Str) (mths:List (Nat×Str×Str)) (mks:List (Nat×Str)) (n:Nat) (G:List Den):Prop where
 fs:∀ (i:Nat) y g,fns[i]?=some y→plainName y=true→G[i]?=some g→∃ j,j+1≤n∧FnX P w K mg base j y g
 ms:∀ i c m φ,mths.contains (i,c,m)=true→G[i]?=some φ→MethX P w K mg base n c m φ
 mn:∀ i c φ,mks.contains (i,c)=true→G[i]?=some φ→∃ j,j+1≤n∧MakeX P w K mg base j c φ
variable {fns:List Str}{mths:List (Nat×Str×Str)}{mks:List (Nat×Str)}{n:Nat}{g:Den}
theorem Al.nil:Al P w K mg base fns mths mks 1 []:=⟨fun i y g _ _ h=>by simp at h,fun i c m φ _ h=>by simp at h,fun i c φ _ h=>by simp at h⟩
theorem snoc_at {i:Nat}{g':Den} (h:(G++[g])[i]?=some g'):G[i]?=some g'∨(i=G.length∧g'=g):=by
 by_cases q:i<G.length
 ·rw[List.getElem?_append_left q] at h
  exact .inl h
 ·rw[List.getElem?_append_right (by omega)] at h
  have e:i=G.length:=by
   by_cases z:i - G.length=0
   ·omega
   ·rw[List.getElem?_eq_none (by simp;omega)] at h
    cases h
  subst e
  simp at h
  exact .inr ⟨rfl,h.symm⟩
theorem Al.fn {y:Str} (A:Al P w K mg base fns mths mks n G) (l:Nat) (hl:G.length=l) (hy:fns[l]?=some y) (h1:mths.all (fun t=>t.1 != l)=true) (h2:mks.all (fun t=>t.1 != l)=true) (X:FnX P w K mg base (n+1) y g):Al P w K mg base fns mths mks (n+2) (G++[g]) where
 fs:=fun i y' g' e1 hp e2=>by
  rcases snoc_at e2 with q | ⟨q,rfl⟩
  ·obtain⟨j,hj,M⟩:=A.fs i y' g' e1 hp q
   exact⟨j,by omega,M⟩
  ·rw[q,hl,hy] at e1
   cases e1
   exact⟨n+1,by omega,X⟩
 ms:=fun i c m φ e1 e2=>by
  rcases snoc_at e2 with q | ⟨q,rfl⟩
  ·exact (A.ms i c m φ e1 q).mono (by omega)
  ·have:=List.all_eq_true.mp h1 (i,c,m) (by simpa using e1)
   simp[q,hl] at this
 mn:=fun i c φ e1 e2=>by
  rcases snoc_at e2 with q | ⟨q,rfl⟩
  ·obtain⟨j,hj,M⟩:=A.mn i c φ e1 q
   exact⟨j,by omega,M⟩
  ·have:=List.all_eq_true.mp h2 (i,c) (by simpa using e1)
   simp[q,hl] at this
theorem Al.meth {c m y:Str} (A:Al P w K mg base fns mths mks n G) (l:Nat) (hl:G.length=l) (hy:fns[l]?=some y) (hp:plainName y=false) (h1:mths.all (fun t=>t.1 != l||(t.2.1==c&&t.2.2==m))=true) (h2:mks.all (fun t=>t.1 != l)=true) (X:MethX P w K mg base (n+1) c m g):Al P w K mg base fns mths mks (n+2) (G++[g]) where
 fs:=fun i y' g' e1 hp' e2=>by
  rcases snoc_at e2 with q | ⟨q,rfl⟩
  ·obtain⟨j,hj,M⟩:=A.fs i y' g' e1 hp' q
   exact⟨j,by omega,M⟩
  ·rw[q,hl,hy] at e1
   cases e1
   rw[hp] at hp'
   cases hp'
 ms:=fun i c' m' φ e1 e2=>by
  rcases snoc_at e2 with q | ⟨q,rfl⟩
  ·exact (A.ms i c' m' φ e1 q).mono (by omega)
  ·have:=List.all_eq_true.mp h1 (i,c',m') (by simpa using e1)
   simp[q,hl] at this
   obtain⟨rfl,rfl⟩:=this
   exact X.mono (by omega)
 mn:=fun i c φ e1 e2=>by
  rcases snoc_at e2 with q | ⟨q,rfl⟩
  ·obtain⟨j,hj,M⟩:=A.mn i c φ e1 q
   exact⟨j,by omega,M⟩
  ·have:=List.all_eq_true.mp h2 (i,c) (by simpa using e1)
   simp[q,hl] at this
theorem Al.make {c y:Str} (A:Al P w K mg base fns mths mks n G) (l:Nat) (hl:G.length=l) (hy:fns[l]?=some y) (hp:plainName y=false) (h1:mths.all (fun t=>t.1 != l)=true) (h2:mks.all (fun t=>t.1 != l||t.2==c)=true) (X:MakeX P w K mg base (n+1) c g):Al P w K mg base fns mths mks (n+2) (G++[g]) where
 fs:=fun i y' g' e1 hp' e2=>by
  rcases snoc_at e2 with q | ⟨q,rfl⟩
  ·obtain⟨j,hj,M⟩:=A.fs i y' g' e1 hp' q
   exact⟨j,by omega,M⟩
  ·rw[q,hl,hy] at e1
   cases e1
   rw[hp] at hp'
   cases hp'
 ms:=fun i c m φ e1 e2=>by
  rcases snoc_at e2 with q | ⟨q,rfl⟩
  ·exact (A.ms i c m φ e1 q).mono (by omega)
  ·have:=List.all_eq_true.mp h1 (i,c,m) (by simpa using e1)
   simp[q,hl] at this
 mn:=fun i c' φ e1 e2=>by
  rcases snoc_at e2 with q | ⟨q,rfl⟩
  ·obtain⟨j,hj,M⟩:=A.mn i c' φ e1 q
   exact⟨j,by omega,M⟩
  ·have:=List.all_eq_true.mp h2 (i,c') (by simpa using e1)
   simp[q,hl] at this
   subst this
   exact⟨n+1,by omega,X⟩
theorem Al.xf (A:Al P w K mg base fns mths mks k G) (hm:mg x=some (.ref fa)) (F:Fun K x qual st fa fd) (S:FnScope N ps (defScope st)) (hbd:Binds K fd ps []) (T:Txt mg K base C) (htw:C.tw=none) (hN:C.N=N) (hnm:C.nm=(defScope st).names) (hf:C.fs=fns) (hs:C.ms=mths) (hk:C.mn=mks)
  (hb:∀ X EX G k,CtxS X C G k EX→PSs X (defBody st) (rdSs X.K G EX b)):FnX P w K mg base (k+1) x (cutDen (runF G ps.length N.length b)):=by
 subst hf hs hk
 exact fn_x hm F S hbd T (fun P' W ws h=>by rw[htw] at h;cases h) hN hnm (fun X EX S _=>hb X EX _ _ S) A.fs A.ms A.mn
theorem Al.xo (A:Al P w K mg base fns mths mks k G) (F:Fun K x qual st fa fd) (S:FnScope N ps (defScope st)) (T:Txt mg K base C) (htw:C.tw=none) (hN:C.N=N) (hnm:C.nm=(defScope st).names) (hf:C.fs=fns) (hs:C.ms=mths) (hk:C.mn=mks)
  (hb:∀ X EX G k,CtxS X C G k EX→PSs X (defBody st) (rdSs X.K G EX b)):FnOk P w K mg base (CXM P w) (k+1) fa fd ps (spOf K mg ps.length (cutDen (runF G ps.length N.length b))):=by
 subst hf hs hk
 exact fn_ok F S T (fun P' W ws h=>by rw[htw] at h;cases h) hN hnm (fun X EX S _=>hb X EX _ _ S) A.fs A.ms A.mn
theorem Al.xm (A:Al P w K mg base fns mths mks k G) (hc:PySem.W.nsIn K mainGlobals c=some (some (.ref Ca))) (Cl:Cls K Ca) (Me:Meth K Ca m fa) (F:Fun K x qual st fa fd) (S:FnScope N ps (defScope st)) (hbd:Binds K fd ps []) (T:Txt mg K base C) (htw:C.tw=none) (hN:C.N=N) (hnm:C.nm=(defScope st).names) (hf:C.fs=fns) (hs:C.ms=mths) (hk:C.mn=mks)
  (hb:∀ X EX G k,CtxS X C G k EX→PSs X (defBody st) (rdSs X.K G EX b)):MethX P w K mg base (k+1) c m (cutDen (runF G ps.length N.length b)) :=
 ⟨Ca,fa,fd,ps,hc,Cl,Me,A.xo F S T htw hN hnm hf hs hk hb,hbd,fun ds h e=>runF_len e⟩
theorem Al.xk (A:Al P w K mg base fns mths mks k G) (hc:PySem.W.nsIn K mainGlobals c=some (some (.ref Ca))) (hg:mg c=some (.ref Ca)) (M:Mk K Ca fa) (F:Fun K x qual st fa fd) (S:FnScope N ps (defScope st)) (hbd:Binds K fd ps []) (T:Txt mg K base C) (htw:C.tw=none) (hN:C.N=N) (hnm:C.nm=(defScope st).names) (hf:C.fs=fns) (hs:C.ms=mths) (hk:C.mn=mks)
  (hb:∀ X EX G k,CtxS X C G k EX→PSs X (defBody st) (rdSs X.K G EX b)):MakeX P w K mg base (k+1) c (cutDen (runF G ps.length N.length b)) :=
 ⟨Ca,fa,fd,ps,hc,hg,M,A.xo F S T htw hN hnm hf hs hk hb,hbd,fun ds h e=>runF_len e⟩
end
noncomputable def strKey (e:DictEntry):Bool:=match e.key with
 | .str _ _=>true
 | _=>false
theorem ns_ok {K:W.Frag}{N:Addr}{c:Value}{od:Option Addr}{es:Array DictEntry}{ep:Nat}{sl:Array (Option Value)} (h:K.lookup N=some ⟨c,od,.dict es ep,sl⟩) (hs:es.toList.all strKey=true):W.nsOkIn K N=true:=by
 unfold W.nsOkIn
 rw[h]
 rw[Array.all_toList] at hs
 exact hs
theorem own_cls {K:W.Frag}{h₀:Heap}{mg:Str→Option Value}{x:Str}{a p:Addr}{od po:Option Addr}{nm qn:Str}{bs sub bm:List Value}{ns:Addr}{hd ab:Bool}{sn:List Str}{col:Option Bool}{k0 k1 k2 k3 k5:Option Value}{pc:Value}{pcd:ClassData}{psl:Array (Option Value)}{nid:String}
  (X:K.In h₀) (G:h₀.Ns mainGlobals mg) (e:W.nsIn K mainGlobals x=some (some (Value.ref a)))
  (h0:K.lookup a=some ⟨.type "type",od,.cls ⟨nm,bs,.ref a::.ref p::bm,ns,qn,hd,sn,sub,ab,col,false⟩,#[k0,k1,k2,k3,some (.builtin nid),k5]⟩) (hp:K.lookup p=some ⟨pc,po,.cls pcd,psl⟩)
  (o0:W.nsOkIn K ns=true) (i0:W.nsIn K ns "__init__"=some none) (o1:W.nsOkIn K pcd.ns=true) (i1:W.nsIn K pcd.ns "__init__"=some none) (hb:W.tailIn K bm bm=true):OwnCls x a bm nid mg h₀:=by
 have ht:W.tailIn K bm (.ref p::bm)=true:=by
  rw[W.tailIn.eq_2,hp]
  dsimp only
  rw[o1,i1,hb]
  simp
 exact⟨W.mg_of X G e,.ref p::bm,ns,nm,qn,bs,hd,sn,sub,ab,col,od,k0,k1,k2,k3,k5,_,X _ _ h0,Heap.Ns.of_isNs (W.isNs_of_in X o0),W.nsMap_none_of_in X o0 i0,W.tail_of_in X ht⟩
end MP
namespace K13
open PySem PySem.Spec PyProof.Rows MP L2
open K10 (PIsPrefix PIsPath PAreTags PNeedPrefix PNeedRoute PCell PDrawn PBits isPrefix_ok isPath_ok areTags_ok needPrefix_ok needRoute_ok cell_ok drawn_ok bits_ok)
theorem len1 {us:List Value} (h:us.length=1):∃ a,us=[a]:=List.length_eq_one_iff.mp h
theorem len2 {us:List Value} (h:us.length=2):∃ a b,us=[a,b]:=match us,h with | [a,b],_=>⟨a,b,rfl⟩
theorem len3 {us:List Value} (h:us.length=3):∃ a b c,us=[a,b,c]:=match us,h with | [a,b,c],_=>⟨a,b,c,rfl⟩
theorem len4 {us:List Value} (h:us.length=4):∃ a b c d,us=[a,b,c,d]:=match us,h with | [a,b,c,d],_=>⟨a,b,c,d,rfl⟩
theorem ct_cons {P:Str→D→Prop}{x y:Str}{d v:D}{l:List (Str×D)} (h:List.lookup y ((x,v)::l)=some d) (h0:P x v) (h1:List.lookup y l=some d→P y d):P y d:=by
 rw[List.lookup_cons] at h
 split at h
 ·rename_i hq
  cases h
  cases (eq_of_beq hq)
  exact h0
 ·exact h1 h
theorem x_is_prefix:PIsPrefix d_is_prefix:=isPrefix_ok
theorem x_is_path:PIsPath d_is_path:=isPath_ok
theorem x_are_tags:PAreTags d_are_tags:=areTags_ok
theorem x_need_prefix:PNeedPrefix d_need_prefix:=needPrefix_ok rfl x_is_prefix
theorem x_need_route:PNeedRoute d_need_route:=needRoute_ok rfl x_is_path rfl x_are_tags rfl x_need_prefix
theorem x_judged:PJudged d_judged:=judged_ok
theorem x_rank:PRank d_rank:=rank_ok
theorem x_initN:PInitN d_Neighbour___init__:=initN_ok
theorem x_initR:PInitR d_Router___init__:=initR_ok
theorem x_needS:PNeedS d_Router_need_stranger:=needS_ok
theorem x_needN:PNeedN d_Router_need_neighbour:=needN_ok
theorem x_needU:PNeedU d_Router_need_up:=needU_ok rfl x_needN
theorem x_has:PHas d_Router_has_neighbour:=has_ok
theorem x_add:PAdd d_Router_add:=add_ok rfl x_needS rfl x_has rfl x_initN
theorem x_up:PUp d_Router_up:=up_ok rfl x_needN
theorem x_count:PCount d_Router_counting:=count_ok rfl x_judged
theorem x_choice:PChoice d_Router_choice:=choice_ok rfl x_count rfl x_rank
theorem x_again:PAgain d_Router_choose_again:=again_ok rfl x_choice
theorem x_hear:PHear d_Router_hear:=hear_ok rfl x_needU rfl x_need_route rfl x_again
theorem x_own:POwn d_Router_own:=own_ok rfl x_need_prefix rfl x_again
theorem x_best:PBest d_Router_best:=best_ok
theorem x_find:PFind d_Router_find:=find_ok rfl x_best
theorem x_chosen:PChosen d_Router_chosen:=chosen_ok
theorem x_cell:PCell d_l_cell:=cell_ok
theorem x_drawn:PDrawn d_l_drawn:=drawn_ok
theorem x_num:PNum d_l_numbers:=num_ok
theorem x_bits:PBits d_l_bits:=bits_ok
theorem x_pre:PPre d_l_prefixes:=pre_ok rfl x_bits
theorem x_tags:PTagsG d_l_tags:=tagsG_ok
theorem x_route:PRoute d_l_route:=route_ok rfl x_tags
theorem x_bestL:PBestL d_l_best:=bestL_ok
theorem x_found:PFound d_l_found:=found_ok rfl x_find
theorem x_law {sc:List Int} (hsc:sc.length≤63):d_law [.lst (sc.map .int)] []=.ok (.bl true) [] :=
 law_ok { cell:=⟨_,rfl,x_cell⟩,drawn:=⟨_,rfl,x_drawn⟩,route:=⟨_,rfl,x_route⟩,hear:=⟨_,rfl,x_hear⟩,own:=⟨_,rfl,x_own⟩,num:=⟨_,rfl,x_num⟩,bits:=⟨_,rfl,x_bits⟩,pre:=⟨_,rfl,x_pre⟩,init:=⟨_,rfl,x_initR⟩,add:=⟨_,rfl,x_add⟩,up:=⟨_,rfl,x_up⟩,best:=⟨_,rfl,x_best⟩,chosen:=⟨_,rfl,x_chosen⟩,bestL:=⟨_,rfl,x_bestL⟩,found:=⟨_,rfl,x_found⟩ } hsc
def Fact (K:PySem.W.Frag) (x q:Str) (st:Stmt) (f:Addr):Prop:=∃ fd,Fun K x q st f fd
theorem fact_mk {K:PySem.W.Frag}{x qual:Str}{st:Stmt}{f:Addr}{oc:Value}{od an:Option Addr}{osl:Array (Option Value)}{kV doc pm cdv ct:Value} (l:K.lookup f=some ⟨oc,od,.func (PySem.W.fnOf x qual (defArgs st) (defBody st) (defScope st) .none kV doc pm an cdv ct),osl⟩) (c:PySem.W.codeIn K cdv qual=true) (k:PySem.W.keepIn K (.ref f)=true):Fact K x qual st f:=⟨_,fun_mk l c k⟩
noncomputable def spL (K:PySem.W.Frag):Sp:=fun vs H Q _=>vs.length=1∧∃ th h ds,Wd K th h H∧RepVs K H th ds vs∧∃ d h',d_law ds h=.ok d h'∧∀ v H' th',RepV K H' th' d v→Wd K th' h' H'→Gr th th' H H'→Q v H'
theorem all_mk {l:PySem.W.OpenLaw}{w:World}{K:PySem.W.Frag}{h:Heap}{mg:Str→Option Value}{fa cN cR f0 f1 f2 f3 f4 f5 f6 f7 f8 f9 f10 f11 f12 f13 f14 f15 f16 f17 f18 f19 f20 f21 f22 f23 f24 f25 f26 f27 f28 f29 f30 f31 f32:Addr} (X:K.In h) (G:h.Ns mainGlobals mg) (hfa:mg "law"=some (.ref fa))
  {od32 an32:Option Addr}{sl32:Array (Option Value)}{oc32 kV32 dc32 pm32 cd32 ct32:Value}{tk0 tk1 tk2 tk3 tk4 tk5 tk6 tk7:Tok}
  {e0 e2 e4:Addr}
  {en0 eq0:Str}{eb0 eu0:List Value}{es0:Addr}{eh0 ev0:Bool}{et0:List Str}{ew0:Option Bool}{eo0:Option Addr}{ea0 ec0 ed0 ee0 ef0:Option Value}{en2 eq2:Str}{eb2 eu2:List Value}{es2:Addr}{eh2 ev2:Bool}{et2:List Str}{ew2:Option Bool}{eo2:Option Addr}{ea2 ec2 ed2 ee2 ef2:Option Value}{en4 eq4:Str}{eb4 eu4:List Value}{es4:Addr}{eh4 ev4:Bool}{et4:List Str}{ew4:Option Bool}{eo4:Option Addr}{ea4 ec4 ed4 ee4 ef4:Option Value}
  {eg0:Value}{ej0:Option Addr}{ek0:Array DictEntry}{el0:Nat}{em0:Array (Option Value)}{eg2:Value}{ej2:Option Addr}{ek2:Array DictEntry}{el2:Nat}{em2:Array (Option Value)}{eg4:Value}{ej4:Option Addr}{ek4:Array DictEntry}{el4:Nat}{em4:Array (Option Value)}
  (g_cN:PySem.W.nsIn K mainGlobals "Neighbour"=some (some (.ref cN)))
  (g_cR:PySem.W.nsIn K mainGlobals "Router"=some (some (.ref cR)))
  (a0:PySem.W.nsIn K mainGlobals "is_prefix"=some (some (.ref f0)))
  (F0:Fact K "is_prefix" "is_prefix" (top 17) f0)
  (a1:PySem.W.nsIn K mainGlobals "is_path"=some (some (.ref f1)))
  (F1:Fact K "is_path" "is_path" (top 18) f1)
  (a2:PySem.W.nsIn K mainGlobals "are_tags"=some (some (.ref f2)))
  (F2:Fact K "are_tags" "are_tags" (top 19) f2)
  (a3:PySem.W.nsIn K mainGlobals "need_prefix"=some (some (.ref f3)))
  (F3:Fact K "need_prefix" "need_prefix" (top 20) f3)
  (a4:PySem.W.nsIn K mainGlobals "need_route"=some (some (.ref f4)))
  (F4:Fact K "need_route" "need_route" (top 21) f4)
  (a5:PySem.W.nsIn K mainGlobals "judged"=some (some (.ref f5)))
  (F5:Fact K "judged" "judged" (top 26) f5)
  (a6:PySem.W.nsIn K mainGlobals "rank"=some (some (.ref f6)))
  (F6:Fact K "rank" "rank" (top 29) f6)
  (a7:PySem.W.findIn K (.ref cN) "__init__"=some (some (.ref f7)))
  (i7:PySem.W.isFn K (.ref f7)=true)
  (F7:Fact K "__init__" "Neighbour.__init__" (inClass (top 31) 0) f7)
  (a8:PySem.W.findIn K (.ref cR) "__init__"=some (some (.ref f8)))
  (i8:PySem.W.isFn K (.ref f8)=true)
  (F8:Fact K "__init__" "Router.__init__" (inClass (top 32) 0) f8)
  (a9:PySem.W.findIn K (.ref cR) "need_stranger"=some (some (.ref f9)))
  (i9:PySem.W.isFn K (.ref f9)=true)
  (F9:Fact K "need_stranger" "Router.need_stranger" (inClass (top 32) 1) f9)
  (a10:PySem.W.findIn K (.ref cR) "need_neighbour"=some (some (.ref f10)))
  (i10:PySem.W.isFn K (.ref f10)=true)
  (F10:Fact K "need_neighbour" "Router.need_neighbour" (inClass (top 32) 2) f10)
  (a11:PySem.W.findIn K (.ref cR) "need_up"=some (some (.ref f11)))
  (i11:PySem.W.isFn K (.ref f11)=true)
  (F11:Fact K "need_up" "Router.need_up" (inClass (top 32) 3) f11)
  (a12:PySem.W.findIn K (.ref cR) "has_neighbour"=some (some (.ref f12)))
  (i12:PySem.W.isFn K (.ref f12)=true)
  (F12:Fact K "has_neighbour" "Router.has_neighbour" (inClass (top 32) 4) f12)
  (a13:PySem.W.findIn K (.ref cR) "add"=some (some (.ref f13)))
  (i13:PySem.W.isFn K (.ref f13)=true)
  (F13:Fact K "add" "Router.add" (inClass (top 32) 6) f13)
  (a14:PySem.W.findIn K (.ref cR) "up"=some (some (.ref f14)))
  (i14:PySem.W.isFn K (.ref f14)=true)
  (F14:Fact K "up" "Router.up" (inClass (top 32) 7) f14)
  (a15:PySem.W.findIn K (.ref cR) "counting"=some (some (.ref f15)))
  (i15:PySem.W.isFn K (.ref f15)=true)
  (F15:Fact K "counting" "Router.counting" (inClass (top 32) 13) f15)
  (a16:PySem.W.findIn K (.ref cR) "choice"=some (some (.ref f16)))
  (i16:PySem.W.isFn K (.ref f16)=true)
  (F16:Fact K "choice" "Router.choice" (inClass (top 32) 14) f16)
  (a17:PySem.W.findIn K (.ref cR) "choose_again"=some (some (.ref f17)))
  (i17:PySem.W.isFn K (.ref f17)=true)
  (F17:Fact K "choose_again" "Router.choose_again" (inClass (top 32) 15) f17)
  (a18:PySem.W.findIn K (.ref cR) "hear"=some (some (.ref f18)))
  (i18:PySem.W.isFn K (.ref f18)=true)
  (F18:Fact K "hear" "Router.hear" (inClass (top 32) 10) f18)
  (a19:PySem.W.findIn K (.ref cR) "own"=some (some (.ref f19)))
  (i19:PySem.W.isFn K (.ref f19)=true)
  (F19:Fact K "own" "Router.own" (inClass (top 32) 12) f19)
  (a20:PySem.W.findIn K (.ref cR) "best"=some (some (.ref f20)))
  (i20:PySem.W.isFn K (.ref f20)=true)
  (F20:Fact K "best" "Router.best" (inClass (top 32) 16) f20)
  (a21:PySem.W.findIn K (.ref cR) "find"=some (some (.ref f21)))
  (i21:PySem.W.isFn K (.ref f21)=true)
  (F21:Fact K "find" "Router.find" (inClass (top 32) 17) f21)
  (a22:PySem.W.findIn K (.ref cR) "chosen"=some (some (.ref f22)))
  (i22:PySem.W.isFn K (.ref f22)=true)
  (F22:Fact K "chosen" "Router.chosen" (inClass (top 32) 18) f22)
  (a23:PySem.W.nsIn K mainGlobals "_law_cell"=some (some (.ref f23)))
  (F23:Fact K "_law_cell" "_law_cell" (top 34) f23)
  (a24:PySem.W.nsIn K mainGlobals "_law_drawn"=some (some (.ref f24)))
  (F24:Fact K "_law_drawn" "_law_drawn" (top 35) f24)
  (a25:PySem.W.nsIn K mainGlobals "_law_numbers"=some (some (.ref f25)))
  (F25:Fact K "_law_numbers" "_law_numbers" (top 36) f25)
  (a26:PySem.W.nsIn K mainGlobals "_law_bits"=some (some (.ref f26)))
  (F26:Fact K "_law_bits" "_law_bits" (top 37) f26)
  (a27:PySem.W.nsIn K mainGlobals "_law_prefixes"=some (some (.ref f27)))
  (F27:Fact K "_law_prefixes" "_law_prefixes" (top 38) f27)
  (a28:PySem.W.nsIn K mainGlobals "_law_tags"=some (some (.ref f28)))
  (F28:Fact K "_law_tags" "_law_tags" (top 39) f28)
  (a29:PySem.W.nsIn K mainGlobals "_law_route"=some (some (.ref f29)))
  (F29:Fact K "_law_route" "_law_route" (top 40) f29)
  (a30:PySem.W.nsIn K mainGlobals "_law_best"=some (some (.ref f30)))
  (F30:Fact K "_law_best" "_law_best" (top 42) f30)
  (a31:PySem.W.nsIn K mainGlobals "_law_found"=some (some (.ref f31)))
  (F31:Fact K "_law_found" "_law_found" (top 43) f31)
  (a32:PySem.W.nsIn K mainGlobals "law"=some (some (.ref f32)))
  (l32:K.lookup f32=some ⟨oc32,od32,.func (PySem.W.fnOf "law" "law" (defArgs (top 44)) (defBody (top 44)) (defScope (top 44)) .none kV32 dc32 pm32 an32 cd32 ct32),sl32⟩)
  (c32:PySem.W.codeIn K cd32 "law"=true)
  (k32:PySem.W.keepIn K (.ref f32)=true)
  (pg_cN:PySem.W.plainGet K cN Str.empty=true)
  (hd_cN:PySem.W.hasDictIn K cN=true)
  (po_cN:PySem.W.plainOver K cN=true)
  (sa_cN:PySem.W.findIn K (.ref cN) "__setattr__"=some (some (.builtin "object.__setattr__")))
  (mk_cN:PySem.W.makesIn K cN=true)
  (kp_cN:PySem.W.keepIn K (.ref cN)=true)
  (pg_cR:PySem.W.plainGet K cR Str.empty=true)
  (hd_cR:PySem.W.hasDictIn K cR=true)
  (po_cR:PySem.W.plainOver K cR=true)
  (sa_cR:PySem.W.findIn K (.ref cR) "__setattr__"=some (some (.builtin "object.__setattr__")))
  (mk_cR:PySem.W.makesIn K cR=true)
  (kp_cR:PySem.W.keepIn K (.ref cR)=true)
  (na0:PySem.W.findIn K (.ref cR) "number"=some none)
  (na1:PySem.W.findIn K (.ref cR) "neighbours"=some none)
  (na2:PySem.W.findIn K (.ref cR) "owned"=some none)
  (na3:PySem.W.findIn K (.ref cR) "choices"=some none)
  (na4:PySem.W.findIn K (.ref cN) "is_up"=some none)
  (na5:PySem.W.findIn K (.ref cN) "rules_in"=some none)
  (na6:PySem.W.findIn K (.ref cN) "rules_out"=some none)
  (na7:PySem.W.findIn K (.ref cN) "said"=some none)
  (na8:PySem.W.findIn K (.ref cN) "told"=some none)
  (m0:PySem.W.nsIn K mainGlobals "MOST_SIGNS"=some (some (.int 16 tk0)))
  (m1:PySem.W.nsIn K mainGlobals "MOST_STEPS"=some (some (.int 12 tk1)))
  (m2:PySem.W.nsIn K mainGlobals "MOST_TAGS"=some (some (.int 4 tk2)))
  (m3:PySem.W.nsIn K mainGlobals "GREATEST_NUMBER"=some (some (.int 999 tk3)))
  (m4:PySem.W.nsIn K mainGlobals "GREATEST_WEIGHT"=some (some (.int 1000 tk4)))
  (m5:PySem.W.nsIn K mainGlobals "GREATEST_TAG"=some (some (.int 99 tk5)))
  (m6:PySem.W.nsIn K mainGlobals "GREATEST_PREFERENCE"=some (some (.int 1000 tk6)))
  (m7:PySem.W.nsIn K mainGlobals "FIRST_PREFERENCE"=some (some (.int 100 tk7)))
  (z_0:PySem.W.nsIn K mainGlobals "len"=some none)
  (z_1:PySem.W.nsIn K mainGlobals "sorted"=some none)
  (z_2:PySem.W.nsIn K mainGlobals "tuple"=some none)
  (z_3:PySem.W.nsIn K mainGlobals "range"=some none)
  (z_4:PySem.W.nsIn K mainGlobals "min"=some none)
  (z_5:PySem.W.nsIn K mainGlobals "max"=some none)
  (z_6:PySem.W.nsIn K mainGlobals "list"=some none)
  (z_7:PySem.W.nsIn K mainGlobals "int"=some none)
  (z_8:PySem.W.nsIn K mainGlobals "all"=some none)
  (z_9:PySem.W.nsIn K mainGlobals "isinstance"=some none)
  (gg0:PySem.W.nsIn K mainGlobals "BadRoute"=some (some (.ref e0)))
  (gg2:PySem.W.nsIn K mainGlobals "NoNeighbour"=some (some (.ref e2)))
  (gg4:PySem.W.nsIn K mainGlobals "PathError"=some (some (.ref e4)))
  (h0l:K.lookup e0=some ⟨.type "type",eo0,.cls ⟨en0,eb0,.ref e0::.ref e4::[.type "ValueError",.type "Exception",.type "BaseException",.type "object"],es0,eq0,eh0,et0,eu0,ev0,ew0,false⟩,#[ea0,ec0,ed0,ee0,some (.builtin "ValueError.__new__"),ef0]⟩)
  (h2l:K.lookup e2=some ⟨.type "type",eo2,.cls ⟨en2,eb2,.ref e2::.ref e4::[.type "ValueError",.type "Exception",.type "BaseException",.type "object"],es2,eq2,eh2,et2,eu2,ev2,ew2,false⟩,#[ea2,ec2,ed2,ee2,some (.builtin "ValueError.__new__"),ef2]⟩)
  (h4l:K.lookup e4=some ⟨.type "type",eo4,.cls ⟨en4,eb4,.ref e4::[.type "ValueError",.type "Exception",.type "BaseException",.type "object"],es4,eq4,eh4,et4,eu4,ev4,ew4,false⟩,#[ea4,ec4,ed4,ee4,some (.builtin "ValueError.__new__"),ef4]⟩)
  (h0ld:K.lookup es0=some ⟨eg0,ej0,.dict ek0 el0,em0⟩)
  (h0ok:ek0.toList.all strKey=true)
  (h0in:PySem.W.nsIn K es0 "__init__"=some none)
  (h2ld:K.lookup es2=some ⟨eg2,ej2,.dict ek2 el2,em2⟩)
  (h2ok:ek2.toList.all strKey=true)
  (h2in:PySem.W.nsIn K es2 "__init__"=some none)
  (h4ld:K.lookup es4=some ⟨eg4,ej4,.dict ek4 el4,em4⟩)
  (h4ok:ek4.toList.all strKey=true)
  (h4in:PySem.W.nsIn K es4 "__init__"=some none)
  : ∃ fd:FuncData,(∀ (s:Shared) (v:Value),BindsTo s fd ⟨[v],[]⟩ [("_law_script",v)])∧∀ base:Heap,K.In base→base.Ns mainGlobals mg→FnOk l.prog w K mg base (CXM l.prog w) 66 fa fd ["_law_script"] (spL K):=by
 have e:=hfa.symm.trans (PySem.W.mg_of X G a32)
 cases e
 obtain⟨_,F0⟩:=F0
 have b0:=F0.binds (ps:=["text"]) fun _ _ _ _ _ _ us hl=>by obtain⟨_,rfl⟩:=len1 hl;rfl
 obtain⟨_,F1⟩:=F1
 have b1:=F1.binds (ps:=["path"]) fun _ _ _ _ _ _ us hl=>by obtain⟨_,rfl⟩:=len1 hl;rfl
 obtain⟨_,F2⟩:=F2
 have b2:=F2.binds (ps:=["tags"]) fun _ _ _ _ _ _ us hl=>by obtain⟨_,rfl⟩:=len1 hl;rfl
 obtain⟨_,F3⟩:=F3
 have b3:=F3.binds (ps:=["prefix"]) fun _ _ _ _ _ _ us hl=>by obtain⟨_,rfl⟩:=len1 hl;rfl
 obtain⟨_,F4⟩:=F4
 have b4:=F4.binds (ps:=["route"]) fun _ _ _ _ _ _ us hl=>by obtain⟨_,rfl⟩:=len1 hl;rfl
 obtain⟨_,F5⟩:=F5
 have b5:=F5.binds (ps:=["rules","route"]) fun _ _ _ _ _ _ us hl=>by obtain⟨_,_,rfl⟩:=len2 hl;rfl
 obtain⟨_,F6⟩:=F6
 have b6:=F6.binds (ps:=["choice"]) fun _ _ _ _ _ _ us hl=>by obtain⟨_,rfl⟩:=len1 hl;rfl
 obtain⟨_,F7⟩:=F7
 have b7:=F7.binds (ps:=["self"]) fun _ _ _ _ _ _ us hl=>by obtain⟨_,rfl⟩:=len1 hl;rfl
 obtain⟨_,F8⟩:=F8
 have b8:=F8.binds (ps:=["self","number"]) fun _ _ _ _ _ _ us hl=>by obtain⟨_,_,rfl⟩:=len2 hl;rfl
 obtain⟨_,F9⟩:=F9
 have b9:=F9.binds (ps:=["self","other"]) fun _ _ _ _ _ _ us hl=>by obtain⟨_,_,rfl⟩:=len2 hl;rfl
 obtain⟨_,F10⟩:=F10
 have b10:=F10.binds (ps:=["self","other"]) fun _ _ _ _ _ _ us hl=>by obtain⟨_,_,rfl⟩:=len2 hl;rfl
 obtain⟨_,F11⟩:=F11
 have b11:=F11.binds (ps:=["self","other"]) fun _ _ _ _ _ _ us hl=>by obtain⟨_,_,rfl⟩:=len2 hl;rfl
 obtain⟨_,F12⟩:=F12
 have b12:=F12.binds (ps:=["self","other"]) fun _ _ _ _ _ _ us hl=>by obtain⟨_,_,rfl⟩:=len2 hl;rfl
 obtain⟨_,F13⟩:=F13
 have b13:=F13.binds (ps:=["self","other"]) fun _ _ _ _ _ _ us hl=>by obtain⟨_,_,rfl⟩:=len2 hl;rfl
 obtain⟨_,F14⟩:=F14
 have b14:=F14.binds (ps:=["self","other"]) fun _ _ _ _ _ _ us hl=>by obtain⟨_,_,rfl⟩:=len2 hl;rfl
 obtain⟨_,F15⟩:=F15
 have b15:=F15.binds (ps:=["self","prefix"]) fun _ _ _ _ _ _ us hl=>by obtain⟨_,_,rfl⟩:=len2 hl;rfl
 obtain⟨_,F16⟩:=F16
 have b16:=F16.binds (ps:=["self","prefix"]) fun _ _ _ _ _ _ us hl=>by obtain⟨_,_,rfl⟩:=len2 hl;rfl
 obtain⟨_,F17⟩:=F17
 have b17:=F17.binds (ps:=["self","prefixes"]) fun _ _ _ _ _ _ us hl=>by obtain⟨_,_,rfl⟩:=len2 hl;rfl
 obtain⟨_,F18⟩:=F18
 have b18:=F18.binds (ps:=["self","other","route"]) fun _ _ _ _ _ _ us hl=>by obtain⟨_,_,_,rfl⟩:=len3 hl;rfl
 obtain⟨_,F19⟩:=F19
 have b19:=F19.binds (ps:=["self","prefix","is_own"]) fun _ _ _ _ _ _ us hl=>by obtain⟨_,_,_,rfl⟩:=len3 hl;rfl
 obtain⟨_,F20⟩:=F20
 have b20:=F20.binds (ps:=["self","prefix"]) fun _ _ _ _ _ _ us hl=>by obtain⟨_,_,rfl⟩:=len2 hl;rfl
 obtain⟨_,F21⟩:=F21
 have b21:=F21.binds (ps:=["self","address"]) fun _ _ _ _ _ _ us hl=>by obtain⟨_,_,rfl⟩:=len2 hl;rfl
 obtain⟨_,F22⟩:=F22
 have b22:=F22.binds (ps:=["self"]) fun _ _ _ _ _ _ us hl=>by obtain⟨_,rfl⟩:=len1 hl;rfl
 obtain⟨_,F23⟩:=F23
 have b23:=F23.binds (ps:=["_law_script","_law_k"]) fun _ _ _ _ _ _ us hl=>by obtain⟨_,_,rfl⟩:=len2 hl;rfl
 obtain⟨_,F24⟩:=F24
 have b24:=F24.binds (ps:=["_law_cell_here","_law_k"]) fun _ _ _ _ _ _ us hl=>by obtain⟨_,_,rfl⟩:=len2 hl;rfl
 obtain⟨_,F25⟩:=F25
 have b25:=F25.binds (ps:=["_law_more","_law_many"]) fun _ _ _ _ _ _ us hl=>by obtain⟨_,_,rfl⟩:=len2 hl;rfl
 obtain⟨_,F26⟩:=F26
 have b26:=F26.binds (ps:=["_law_more","_law_many"]) fun _ _ _ _ _ _ us hl=>by obtain⟨_,_,rfl⟩:=len2 hl;rfl
 obtain⟨_,F27⟩:=F27
 have b27:=F27.binds (ps:=["_law_more"]) fun _ _ _ _ _ _ us hl=>by obtain⟨_,rfl⟩:=len1 hl;rfl
 obtain⟨_,F28⟩:=F28
 have b28:=F28.binds (ps:=["_law_more"]) fun _ _ _ _ _ _ us hl=>by obtain⟨_,rfl⟩:=len1 hl;rfl
 obtain⟨_,F29⟩:=F29
 have b29:=F29.binds (ps:=["_law_more","_law_prefixes_here","_law_first","_law_some"]) fun _ _ _ _ _ _ us hl=>by obtain⟨_,_,_,_,rfl⟩:=len4 hl;rfl
 obtain⟨_,F30⟩:=F30
 have b30:=F30.binds (ps:=["_law_said","_law_owned","_law_number","_law_prefix"]) fun _ _ _ _ _ _ us hl=>by obtain⟨_,_,_,_,rfl⟩:=len4 hl;rfl
 obtain⟨_,F31⟩:=F31
 have b31:=F31.binds (ps:=["_law_router","_law_prefixes_here","_law_due","_law_address"]) fun _ _ _ _ _ _ us hl=>by obtain⟨_,_,_,_,rfl⟩:=len4 hl;rfl
 have F32:=fun_mk (st:=(top 44)) l32 c32 k32
 have b32:=F32.binds (ps:=["_law_script"]) fun _ _ _ _ _ _ us hl=>by obtain⟨_,rfl⟩:=len1 hl;rfl
 have gl:∀ x a,PySem.W.nsIn K mainGlobals x=some (some (.ref a))→mg x=some (.ref a):=fun x a e=>PySem.W.mg_of X G e
 have CN:Cls K cN:=⟨pg_cN,hd_cN,po_cN,sa_cN⟩
 have CR:Cls K cR:=⟨pg_cR,hd_cR,po_cR,sa_cR⟩
 refine⟨PySem.W.fnOf "law" "law" (defArgs (top 44)) (defBody (top 44)) (defScope (top 44)) .none kV32 dc32 pm32 an32 cd32 ct32,fun s v=>.of_eq rfl,fun base KB GB=>?_⟩
 have T:∀ st N,Txt mg K base (cc st N):=fun st N=>by
  refine⟨fun y d hy=>?_,fun y hy=>?_,gl,fun y hy hp=>?_,fun c hy=>?_,fun c f hy=>?_⟩
  ·refine ct_cons (P:=fun y d=>∃ u v,mg y=some u∧RelV v u∧∀ H th,RepV K H th d v) hy ⟨_,.int 16,PySem.W.mg_of X G m0,⟨_,rfl⟩,fun H th=>.int 16⟩ fun hy=>ct_cons (P:=fun y d=>∃ u v,mg y=some u∧RelV v u∧∀ H th,RepV K H th d v) hy ⟨_,.int 12,PySem.W.mg_of X G m1,⟨_,rfl⟩,fun H th=>.int 12⟩ fun hy=>ct_cons (P:=fun y d=>∃ u v,mg y=some u∧RelV v u∧∀ H th,RepV K H th d v) hy ⟨_,.int 4,PySem.W.mg_of X G m2,⟨_,rfl⟩,fun H th=>.int 4⟩ fun hy=>ct_cons (P:=fun y d=>∃ u v,mg y=some u∧RelV v u∧∀ H th,RepV K H th d v) hy ⟨_,.int 999,PySem.W.mg_of X G m3,⟨_,rfl⟩,fun H th=>.int 999⟩ fun hy=>ct_cons (P:=fun y d=>∃ u v,mg y=some u∧RelV v u∧∀ H th,RepV K H th d v) hy ⟨_,.int 1000,PySem.W.mg_of X G m4,⟨_,rfl⟩,fun H th=>.int 1000⟩ fun hy=>ct_cons (P:=fun y d=>∃ u v,mg y=some u∧RelV v u∧∀ H th,RepV K H th d v) hy ⟨_,.int 99,PySem.W.mg_of X G m5,⟨_,rfl⟩,fun H th=>.int 99⟩ fun hy=>ct_cons (P:=fun y d=>∃ u v,mg y=some u∧RelV v u∧∀ H th,RepV K H th d v) hy ⟨_,.int 1000,PySem.W.mg_of X G m6,⟨_,rfl⟩,fun H th=>.int 1000⟩ fun hy=>ct_cons (P:=fun y d=>∃ u v,mg y=some u∧RelV v u∧∀ H th,RepV K H th d v) hy ⟨_,.int 100,PySem.W.mg_of X G m7,⟨_,rfl⟩,fun H th=>.int 100⟩ fun hy=>by cases hy
  ·have hy:y∈blt:=by simpa [cc] using hy
   unfold blt at hy
   simp only[List.mem_cons,List.not_mem_nil,or_false] at hy
   rcases hy with rfl | rfl | rfl | rfl | rfl | rfl | rfl | rfl | rfl | rfl
   ·exact PySem.W.mg_none_of X G z_0
   ·exact PySem.W.mg_none_of X G z_1
   ·exact PySem.W.mg_none_of X G z_2
   ·exact PySem.W.mg_none_of X G z_3
   ·exact PySem.W.mg_none_of X G z_4
   ·exact PySem.W.mg_none_of X G z_5
   ·exact PySem.W.mg_none_of X G z_6
   ·exact PySem.W.mg_none_of X G z_7
   ·exact PySem.W.mg_none_of X G z_8
   ·exact PySem.W.mg_none_of X G z_9
  ·have hy:y∈fns:=by simpa [cc] using hy
   unfold fns at hy
   simp only[List.mem_cons,List.not_mem_nil,or_false] at hy
   rcases hy with rfl | rfl | rfl | rfl | rfl | rfl | rfl | rfl | rfl | rfl | rfl | rfl | rfl | rfl | rfl | rfl | rfl | rfl | rfl | rfl | rfl | rfl | rfl | rfl | rfl | rfl | rfl | rfl | rfl | rfl | rfl | rfl
   ·exact⟨_,a0⟩
   ·exact⟨_,a1⟩
   ·exact⟨_,a2⟩
   ·exact⟨_,a3⟩
   ·exact⟨_,a4⟩
   ·exact⟨_,a5⟩
   ·exact⟨_,a6⟩
   ·exact absurd hp (by decide)
   ·exact absurd hp (by decide)
   ·exact absurd hp (by decide)
   ·exact absurd hp (by decide)
   ·exact absurd hp (by decide)
   ·exact absurd hp (by decide)
   ·exact absurd hp (by decide)
   ·exact absurd hp (by decide)
   ·exact absurd hp (by decide)
   ·exact absurd hp (by decide)
   ·exact absurd hp (by decide)
   ·exact absurd hp (by decide)
   ·exact absurd hp (by decide)
   ·exact absurd hp (by decide)
   ·exact absurd hp (by decide)
   ·exact absurd hp (by decide)
   ·exact⟨_,a23⟩
   ·exact⟨_,a24⟩
   ·exact⟨_,a25⟩
   ·exact⟨_,a26⟩
   ·exact⟨_,a27⟩
   ·exact⟨_,a28⟩
   ·exact⟨_,a29⟩
   ·exact⟨_,a30⟩
   ·exact⟨_,a31⟩
  ·have hy:c∈[0,2]:=by simpa [cc] using hy
   simp only[List.mem_cons,List.not_mem_nil,or_false] at hy
   rcases hy with rfl | rfl
   ·exact⟨"BadRoute",_,_,_,_,_,rfl,own_cls KB GB gg0 h0l h4l (ns_ok h0ld h0ok) h0in (ns_ok h4ld h4ok) h4in rfl,PySem.F.excBase_ValueError⟩
   ·exact⟨"NoNeighbour",_,_,_,_,_,rfl,own_cls KB GB gg2 h2l h4l (ns_ok h2ld h2ok) h2in (ns_ok h4ld h4ok) h4in rfl,PySem.F.excBase_ValueError⟩
  ·have hy:(c,f)∈flds:=by simpa [cc] using hy
   unfold flds at hy
   simp only[List.mem_cons,List.not_mem_nil,or_false,Prod.mk.injEq] at hy
   rcases hy with ⟨rfl,rfl⟩ | ⟨rfl,rfl⟩ | ⟨rfl,rfl⟩ | ⟨rfl,rfl⟩ | ⟨rfl,rfl⟩ | ⟨rfl,rfl⟩ | ⟨rfl,rfl⟩ | ⟨rfl,rfl⟩ | ⟨rfl,rfl⟩
   ·exact⟨_,g_cR,CR,na0⟩
   ·exact⟨_,g_cR,CR,na1⟩
   ·exact⟨_,g_cR,CR,na2⟩
   ·exact⟨_,g_cR,CR,na3⟩
   ·exact⟨_,g_cN,CN,na4⟩
   ·exact⟨_,g_cN,CN,na5⟩
   ·exact⟨_,g_cN,CN,na6⟩
   ·exact⟨_,g_cN,CN,na7⟩
   ·exact⟨_,g_cN,CN,na8⟩
 have A0:Al l.prog w K mg base fns mths mks 1 []:=Al.nil
 have X0:FnX l.prog w K mg base 2 "is_prefix" d_is_prefix:=A0.xf (PySem.W.mg_of X G a0) F0 sc_is_prefix b0 (T (top 17) _) rfl rfl rfl rfl rfl rfl (dv.1)
 have A1:=A0.fn 0 rfl rfl rfl rfl X0
 have X1:FnX l.prog w K mg base 4 "is_path" d_is_path:=A1.xf (PySem.W.mg_of X G a1) F1 sc_is_path b1 (T (top 18) _) rfl rfl rfl rfl rfl rfl (dv.2.1)
 have A2:=A1.fn 1 rfl rfl rfl rfl X1
 have X2:FnX l.prog w K mg base 6 "are_tags" d_are_tags:=A2.xf (PySem.W.mg_of X G a2) F2 sc_are_tags b2 (T (top 19) _) rfl rfl rfl rfl rfl rfl (dv.2.2.1)
 have A3:=A2.fn 2 rfl rfl rfl rfl X2
 have X3:FnX l.prog w K mg base 8 "need_prefix" d_need_prefix:=A3.xf (PySem.W.mg_of X G a3) F3 sc_need_prefix b3 (T (top 20) _) rfl rfl rfl rfl rfl rfl (dv.2.2.2.1)
 have A4:=A3.fn 3 rfl rfl rfl rfl X3
 have X4:FnX l.prog w K mg base 10 "need_route" d_need_route:=A4.xf (PySem.W.mg_of X G a4) F4 sc_need_route b4 (T (top 21) _) rfl rfl rfl rfl rfl rfl (dv.2.2.2.2.1)
 have A5:=A4.fn 4 rfl rfl rfl rfl X4
 have X5:FnX l.prog w K mg base 12 "judged" d_judged:=A5.xf (PySem.W.mg_of X G a5) F5 sc_judged b5 (T (top 26) _) rfl rfl rfl rfl rfl rfl (dv.2.2.2.2.2.1)
 have A6:=A5.fn 5 rfl rfl rfl rfl X5
 have X6:FnX l.prog w K mg base 14 "rank" d_rank:=A6.xf (PySem.W.mg_of X G a6) F6 sc_rank b6 (T (top 29) _) rfl rfl rfl rfl rfl rfl (dv.2.2.2.2.2.2.1)
 have A7:=A6.fn 6 rfl rfl rfl rfl X6
 have X7:MakeX l.prog w K mg base 16 "Neighbour" d_Neighbour___init__:=A7.xk g_cN (PySem.W.mg_of X G g_cN) ⟨mk_cN,a7,i7,kp_cN⟩ F7 sc_Neighbour___init__ b7 (T (inClass (top 31) 0) _) rfl rfl rfl rfl rfl rfl (dv.2.2.2.2.2.2.2.1)
 have A8:=A7.make 7 rfl rfl rfl rfl rfl X7
 have X8:MakeX l.prog w K mg base 18 "Router" d_Router___init__:=A8.xk g_cR (PySem.W.mg_of X G g_cR) ⟨mk_cR,a8,i8,kp_cR⟩ F8 sc_Router___init__ b8 (T (inClass (top 32) 0) _) rfl rfl rfl rfl rfl rfl (dv.2.2.2.2.2.2.2.2.1)
 have A9:=A8.make 8 rfl rfl rfl rfl rfl X8
 have X9:MethX l.prog w K mg base 20 "Router" "need_stranger" d_Router_need_stranger:=A9.xm g_cR CR ⟨a9,i9,F9.kp⟩ F9 sc_Router_need_stranger b9 (T (inClass (top 32) 1) _) rfl rfl rfl rfl rfl rfl (dv.2.2.2.2.2.2.2.2.2.1)
 have A10:=A9.meth 9 rfl rfl rfl rfl rfl X9
 have X10:MethX l.prog w K mg base 22 "Router" "need_neighbour" d_Router_need_neighbour:=A10.xm g_cR CR ⟨a10,i10,F10.kp⟩ F10 sc_Router_need_neighbour b10 (T (inClass (top 32) 2) _) rfl rfl rfl rfl rfl rfl (dv.2.2.2.2.2.2.2.2.2.2.1)
 have A11:=A10.meth 10 rfl rfl rfl rfl rfl X10
 have X11:MethX l.prog w K mg base 24 "Router" "need_up" d_Router_need_up:=A11.xm g_cR CR ⟨a11,i11,F11.kp⟩ F11 sc_Router_need_up b11 (T (inClass (top 32) 3) _) rfl rfl rfl rfl rfl rfl (dv.2.2.2.2.2.2.2.2.2.2.2.1)
 have A12:=A11.meth 11 rfl rfl rfl rfl rfl X11
 have X12:MethX l.prog w K mg base 26 "Router" "has_neighbour" d_Router_has_neighbour:=A12.xm g_cR CR ⟨a12,i12,F12.kp⟩ F12 sc_Router_has_neighbour b12 (T (inClass (top 32) 4) _) rfl rfl rfl rfl rfl rfl (dv.2.2.2.2.2.2.2.2.2.2.2.2.1)
 have A13:=A12.meth 12 rfl rfl rfl rfl rfl X12
 have X13:MethX l.prog w K mg base 28 "Router" "add" d_Router_add:=A13.xm g_cR CR ⟨a13,i13,F13.kp⟩ F13 sc_Router_add b13 (T (inClass (top 32) 6) _) rfl rfl rfl rfl rfl rfl (dv.2.2.2.2.2.2.2.2.2.2.2.2.2.1)
 have A14:=A13.meth 13 rfl rfl rfl rfl rfl X13
 have X14:MethX l.prog w K mg base 30 "Router" "up" d_Router_up:=A14.xm g_cR CR ⟨a14,i14,F14.kp⟩ F14 sc_Router_up b14 (T (inClass (top 32) 7) _) rfl rfl rfl rfl rfl rfl (dv.2.2.2.2.2.2.2.2.2.2.2.2.2.2.1)
 have A15:=A14.meth 14 rfl rfl rfl rfl rfl X14
 have X15:MethX l.prog w K mg base 32 "Router" "counting" d_Router_counting:=A15.xm g_cR CR ⟨a15,i15,F15.kp⟩ F15 sc_Router_counting b15 (T (inClass (top 32) 13) _) rfl rfl rfl rfl rfl rfl (dv.2.2.2.2.2.2.2.2.2.2.2.2.2.2.2.1)
 have A16:=A15.meth 15 rfl rfl rfl rfl rfl X15
 have X16:MethX l.prog w K mg base 34 "Router" "choice" d_Router_choice:=A16.xm g_cR CR ⟨a16,i16,F16.kp⟩ F16 sc_Router_choice b16 (T (inClass (top 32) 14) _) rfl rfl rfl rfl rfl rfl (dv.2.2.2.2.2.2.2.2.2.2.2.2.2.2.2.2.1)
 have A17:=A16.meth 16 rfl rfl rfl rfl rfl X16
 have X17:MethX l.prog w K mg base 36 "Router" "choose_again" d_Router_choose_again:=A17.xm g_cR CR ⟨a17,i17,F17.kp⟩ F17 sc_Router_choose_again b17 (T (inClass (top 32) 15) _) rfl rfl rfl rfl rfl rfl (dv.2.2.2.2.2.2.2.2.2.2.2.2.2.2.2.2.2.1)
 have A18:=A17.meth 17 rfl rfl rfl rfl rfl X17
 have X18:MethX l.prog w K mg base 38 "Router" "hear" d_Router_hear:=A18.xm g_cR CR ⟨a18,i18,F18.kp⟩ F18 sc_Router_hear b18 (T (inClass (top 32) 10) _) rfl rfl rfl rfl rfl rfl (dv.2.2.2.2.2.2.2.2.2.2.2.2.2.2.2.2.2.2.1)
 have A19:=A18.meth 18 rfl rfl rfl rfl rfl X18
 have X19:MethX l.prog w K mg base 40 "Router" "own" d_Router_own:=A19.xm g_cR CR ⟨a19,i19,F19.kp⟩ F19 sc_Router_own b19 (T (inClass (top 32) 12) _) rfl rfl rfl rfl rfl rfl (dv.2.2.2.2.2.2.2.2.2.2.2.2.2.2.2.2.2.2.2.1)
 have A20:=A19.meth 19 rfl rfl rfl rfl rfl X19
 have X20:MethX l.prog w K mg base 42 "Router" "best" d_Router_best:=A20.xm g_cR CR ⟨a20,i20,F20.kp⟩ F20 sc_Router_best b20 (T (inClass (top 32) 16) _) rfl rfl rfl rfl rfl rfl (dv.2.2.2.2.2.2.2.2.2.2.2.2.2.2.2.2.2.2.2.2.1)
 have A21:=A20.meth 20 rfl rfl rfl rfl rfl X20
 have X21:MethX l.prog w K mg base 44 "Router" "find" d_Router_find:=A21.xm g_cR CR ⟨a21,i21,F21.kp⟩ F21 sc_Router_find b21 (T (inClass (top 32) 17) _) rfl rfl rfl rfl rfl rfl (dv.2.2.2.2.2.2.2.2.2.2.2.2.2.2.2.2.2.2.2.2.2.1)
 have A22:=A21.meth 21 rfl rfl rfl rfl rfl X21
 have X22:MethX l.prog w K mg base 46 "Router" "chosen" d_Router_chosen:=A22.xm g_cR CR ⟨a22,i22,F22.kp⟩ F22 sc_Router_chosen b22 (T (inClass (top 32) 18) _) rfl rfl rfl rfl rfl rfl (dv.2.2.2.2.2.2.2.2.2.2.2.2.2.2.2.2.2.2.2.2.2.2.1)
 have A23:=A22.meth 22 rfl rfl rfl rfl rfl X22
 have X23:FnX l.prog w K mg base 48 "_law_cell" d_l_cell:=A23.xf (PySem.W.mg_of X G a23) F23 sc_l_cell b23 (T (top 34) _) rfl rfl rfl rfl rfl rfl (dv.2.2.2.2.2.2.2.2.2.2.2.2.2.2.2.2.2.2.2.2.2.2.2.1)
 have A24:=A23.fn 23 rfl rfl rfl rfl X23
 have X24:FnX l.prog w K mg base 50 "_law_drawn" d_l_drawn:=A24.xf (PySem.W.mg_of X G a24) F24 sc_l_drawn b24 (T (top 35) _) rfl rfl rfl rfl rfl rfl (dv.2.2.2.2.2.2.2.2.2.2.2.2.2.2.2.2.2.2.2.2.2.2.2.2.1)
 have A25:=A24.fn 24 rfl rfl rfl rfl X24
 have X25:FnX l.prog w K mg base 52 "_law_numbers" d_l_numbers:=A25.xf (PySem.W.mg_of X G a25) F25 sc_l_numbers b25 (T (top 36) _) rfl rfl rfl rfl rfl rfl (dv.2.2.2.2.2.2.2.2.2.2.2.2.2.2.2.2.2.2.2.2.2.2.2.2.2.1)
 have A26:=A25.fn 25 rfl rfl rfl rfl X25
 have X26:FnX l.prog w K mg base 54 "_law_bits" d_l_bits:=A26.xf (PySem.W.mg_of X G a26) F26 sc_l_bits b26 (T (top 37) _) rfl rfl rfl rfl rfl rfl (dv.2.2.2.2.2.2.2.2.2.2.2.2.2.2.2.2.2.2.2.2.2.2.2.2.2.2.1)
 have A27:=A26.fn 26 rfl rfl rfl rfl X26
 have X27:FnX l.prog w K mg base 56 "_law_prefixes" d_l_prefixes:=A27.xf (PySem.W.mg_of X G a27) F27 sc_l_prefixes b27 (T (top 38) _) rfl rfl rfl rfl rfl rfl (dv.2.2.2.2.2.2.2.2.2.2.2.2.2.2.2.2.2.2.2.2.2.2.2.2.2.2.2.1)
 have A28:=A27.fn 27 rfl rfl rfl rfl X27
 have X28:FnX l.prog w K mg base 58 "_law_tags" d_l_tags:=A28.xf (PySem.W.mg_of X G a28) F28 sc_l_tags b28 (T (top 39) _) rfl rfl rfl rfl rfl rfl (dv.2.2.2.2.2.2.2.2.2.2.2.2.2.2.2.2.2.2.2.2.2.2.2.2.2.2.2.2.1)
 have A29:=A28.fn 28 rfl rfl rfl rfl X28
 have X29:FnX l.prog w K mg base 60 "_law_route" d_l_route:=A29.xf (PySem.W.mg_of X G a29) F29 sc_l_route b29 (T (top 40) _) rfl rfl rfl rfl rfl rfl (dv.2.2.2.2.2.2.2.2.2.2.2.2.2.2.2.2.2.2.2.2.2.2.2.2.2.2.2.2.2.1)
 have A30:=A29.fn 29 rfl rfl rfl rfl X29
 have X30:FnX l.prog w K mg base 62 "_law_best" d_l_best:=A30.xf (PySem.W.mg_of X G a30) F30 sc_l_best b30 (T (top 42) _) rfl rfl rfl rfl rfl rfl (dv.2.2.2.2.2.2.2.2.2.2.2.2.2.2.2.2.2.2.2.2.2.2.2.2.2.2.2.2.2.2.1)
 have A31:=A30.fn 30 rfl rfl rfl rfl X30
 have X31:FnX l.prog w K mg base 64 "_law_found" d_l_found:=A31.xf (PySem.W.mg_of X G a31) F31 sc_l_found b31 (T (top 43) _) rfl rfl rfl rfl rfl rfl (dv.2.2.2.2.2.2.2.2.2.2.2.2.2.2.2.2.2.2.2.2.2.2.2.2.2.2.2.2.2.2.2.1)
 have A32:=A31.fn 31 rfl rfl rfl rfl X31
 have Y:=A32.xo (G:=g32) F32 sc_law (T (top 44) _) rfl rfl rfl rfl rfl rfl (dv.2.2.2.2.2.2.2.2.2.2.2.2.2.2.2.2.2.2.2.2.2.2.2.2.2.2.2.2.2.2.2.2)
 refine Y.imp fun vs H Q E hq=>?_
 obtain⟨h1,th,h,ds,wd,rv,d,h',e,q⟩:=hq
 refine⟨h1,th,h,ds,wd,rv,?_⟩
 have e:cutDen (runF g32 1 14 p_law) ds h=.ok d h':=e
 show match cutDen (runF g32 1 14 p_law) ds h with
  | .ok d h'=>∀ v H' th',RepV K H' th' d v→Wd K th' h' H'→Gr th th' H H'→Q v H'
  | .exc c h'=>∀ H' th',Wd K th' h' H'→Gr th th' H H'→E (ecV mg c) none H'
  | .bad=>False
 rw[e]
 exact q
theorem walk {l:PySem.W.OpenLaw}{q:Program}{loose:List Str}{XP:(Str→Option Value)→Heap→Prop}{YP:World→Heap→Prop}{d:DefRec}{K:Params→PySem.W.Frag} (hn:l.most=some 63) (hdf:d.params.defaults=[])
  (hY:∀ (w:World) (h:Heap),YP w h→(K w.params).In h)
  (F:∀ (w:World) (mg:Str→Option Value) (fa:Addr) (h:Heap),(K w.params).In h→h.Ns mainGlobals mg→mg d.name=some (.ref fa) →
   ∃ fd:FuncData,(∀ (s:Shared) (u:Value),BindsTo s fd ⟨[u],[]⟩ [("_law_script",u)])∧∀ base:Heap,(K w.params).In base→base.Ns mainGlobals mg→FnOk l.prog w (K w.params) mg base (CXM l.prog w) 66 fa fd ["_law_script"] (spL (K w.params))) :
  PySem.W.WalkO q loose XP YP l.row.toRowW d [] (fun f vs=>PySem.call f vs) :=
 L2.walk_of (n:=63) (k:=66) (x:="_law_script") (CX:=fun w=>CXM l.prog w) (sp:=fun w=>spL (K w.params)) hn (by decide) hdf ⟨rfl,by decide,by decide⟩ hY F
  (fun w H a ns hl _ hS=>⟨rfl,[],[],[.lst (ns.map .int)],⟨List.nodup_nil,rfl,fun a m=>absurd m (by simp),fun n a o e=>absurd e (by simp)⟩,.cons (.lst hS (by simp) (RepVs.ints ns)) .nil,_,_,x_law hl,
   fun v H' th' r _ _=>by cases r;rfl⟩) fun w H s e s' z=>by
    obtain⟨_,_,_,_,_,_,_,_,_,_,_,_,z⟩:=z
    exact z
end K13

namespace PySem.W.Fast
def tw12046222712118746961:=0
def tw5042398173111888469:=0
def tw5433687301346886469:=0
def tw3634600765002214832:=0
def tw12822465409304595854:=0
def tw10489395028989849894:=0
def tw5045038374060014378:=0
def tw10203779410630641722:=0
def tw12200979392275006868:=0
def tw11487804301244947776:=0
def tw4357551405752093060:=0
def tw16025622005316523884:=0
def tw17037843934992535069:=0
def tw16429689252170630604:=0
def tw16245647315421434288:=0
def tw3460939003485688316:=0
def tw6158024931135002305:=0
def tw9055302759843195026:=0
def tw2107083190857743848:=0
def tw13247967339810302040:=0
def tw2358653955854486101:=0
def tw6712850288110216668:=0
def tw14561746045933722461:=0
def tw14141829109765076131:=0
def tw13854977664228643290:=0
def tw17205743167734302011:=0
def tw7207169888341387329:=0
def tw7591793563460259425:=0
def tw8377531674580798359:=0
def tw1405384674048141199:=0
def tw17048955714435860303:=0
def tw2664114181175835285:=0
def tw5992016515569765813:=0
def tw10758373464673921107:=0
def tw7347330588578088036:=0
def tw3405054504560032355:=0
def tw2348296922478302814:=0
def tw11649493362079759444:=0
def tw5054152475825257004:=0
def tw2095973676527708324:=0
def tw1001828018330942609:=0
def tw1349552640490206214:=0
def tw14484085485594840719:=0
def tw9015556297931534036:=0
def tw8094702669843239505:=0
def tw14397360002961781908:=0
def tw15077244703117054857:=0
def tw13932375834408629704:=0
def tw590239617096693194:=0
def tw11021785703565136951:=0
def tw17505846475041824857:=0
def tw12298335925669925208:=0
def tw7373854068336437972:=0
def tw6660114575246042199:=0
def tw16933550282930823623:=0
def tw3487555709487944462:=0
def tw12719931993606528072:=0
def tw9273813799791842791:=0
def tw14050646242775379397:=0
def tw6899617972311207826:=0
def tw3937178603784821985:=0
def tw1616983128688538870:=0
def tw11911590210209389113:=0
def tw4726414590345944361:=0
def tw10052467718177681086:=0
def tw16577426493575439214:=0
def tw16536687459709588617:=0
def tw7422825200276278919:=0
def tw3778315461457815707:=0
def tw1670875554174352048:=0
def tw10183859362150020671:=0
def tw7206527813937606598:=0
def tw9005612931725758144:=0
def tw16679665042717841787:=0
def tw15065454973660818127:=0
def tw9001771812286737168:=0
def tw1712726441161527017:=0
def tw14758504507312978263:=0
def tw92703623124221504:=0
def tw795514333307644063:=0
def tw406315221247003750:=0
def tw14056858574359849444:=0
def tw2675364195511702228:=0
def tw12611160315547714126:=0
def tw1945621969103865920:=0
def tw1491397933717883634:=0
def tw7345156629473007552:=0
def tw16499130611199546198:=0
def tw11398553671295197837:=0
def tw2423964489611561416:=0
def tw16418037522743713888:=0
def tw17431905483573334255:=0
def tw11461152803107539965:=0
def tw2543026227477705237:=0
def tw8129485114734682242:=0
def tw16726865852411378810:=0
def tw7594139994716850571:=0
def tw14734297689812389988:=0
def tw14385156955822743776:=0
def tw10523898092771231353:=0
def tw7016969903225175735:=0
def tw16080389691479897817:=0
def tw17586114225823734473:=0
def tw10934936394950273927:=0
def tw12405375458249440369:=0
def tw11579748232187724361:=0
def tw6302645596734766270:=0
def tw13265245400430187080:=0
def tw5013295720129690675:=0
def tw11054563348156254165:=0
def tw4722978168349787246:=0
def tw7326918918775425031:=0
def tw6011757703985526351:=0
def tw5843465587715684587:=0
def tw6039992013468340323:=0
def tw3733514751411603974:=0
def tw9350810162091932840:=0
def tw1166668306610157798:=0
def tw4807700107766768922:=0
def tw14862098384632273805:=0
def tw12083756377136483038:=0
def tw10514129336601994453:=0
def tw9152209316823204765:=0
def tw13410349292946819507:=0
def tw17282837406027410499:=0
def tw294959209925550548:=0
def tw8185781402206280419:=0
def tw6084005739172847690:=0
def tw15768693302429048518:=0
def tw11984158628244194233:=0
def tw915417796682378204:=0
def tw1236902875147752045:=0
def tw12107367367307048707:=0
def tw8336712228272132358:=0
def tw407381654603700556:=0
def tw18042265505846872565:=0
def tw6725786785557614712:=0
def tw16853764534451922678:=0
def tw97686456518896463:=0
def tw15953647381220244180:=0
def tw14705605834363188798:=0
def tw13603577966120526871:=0
def tw9966192944519346872:=0
def tw3089360184724066388:=0
def tw2422523242848906576:=0
def tw74349779454400020:=0
def tw2270059001308457488:=0
def tw16788753468232020005:=0
def tw2979240254451193342:=0
def tw6418213023688470884:=0
def tw17263222992395700504:=0
def tw1088288442586718252:=0
def tw3933380606166003601:=0
def tw9160767847523975477:=0
def tw9881089501189596553:=0
def tw10865809408348685598:=0
def tw8898147683461690644:=0
end PySem.W.Fast
open PySem PySem.W PyProof.Rows
local macro_rules | `(tactic| trivial) => `(tactic| (refine' K13.fact_mk ?l ?c ?k; (case l => k_is); (case c => k_is); (case k => k_is)))
set_option maxRecDepth 100000 in
set_option maxHeartbeats 0 in
theorem PySem.Challenge.cw_plainpath_k13_chosen_of_what_was_heard_holds : PySem.Challenge.rw_plainpath_k13_chosen_of_what_was_heard.Holds := by
  w_on; o_law; k_head; (case hw => w_witness2)
  k_fill
  refine K13.walk (l := PySem.Challenge.rw_plainpath_k13_chosen_of_what_was_heard) rfl rfl (fun w h Y => PySem.W.kIn_of Y) ?F
  case F =>
    intro w mg fa h KX G hmg
    refine' K13.all_mk KX G hmg ?g_cN ?g_cR ?a0 ?F0 ?a1 ?F1 ?a2 ?F2 ?a3 ?F3 ?a4 ?F4 ?a5 ?F5 ?a6 ?F6 ?a7 ?i7 ?F7 ?a8 ?i8 ?F8 ?a9 ?i9 ?F9 ?a10 ?i10 ?F10 ?a11 ?i11 ?F11 ?a12 ?i12 ?F12 ?a13 ?i13 ?F13 ?a14 ?i14 ?F14 ?a15 ?i15 ?F15 ?a16 ?i16 ?F16 ?a17 ?i17 ?F17 ?a18 ?i18 ?F18 ?a19 ?i19 ?F19 ?a20 ?i20 ?F20 ?a21 ?i21 ?F21 ?a22 ?i22 ?F22 ?a23 ?F23 ?a24 ?F24 ?a25 ?F25 ?a26 ?F26 ?a27 ?F27 ?a28 ?F28 ?a29 ?F29 ?a30 ?F30 ?a31 ?F31 ?a32 ?l32 ?c32 ?k32 ?pg_cN ?hd_cN ?po_cN ?sa_cN ?mk_cN ?kp_cN ?pg_cR ?hd_cR ?po_cR ?sa_cR ?mk_cR ?kp_cR ?na0 ?na1 ?na2 ?na3 ?na4 ?na5 ?na6 ?na7 ?na8 ?m0 ?m1 ?m2 ?m3 ?m4 ?m5 ?m6 ?m7 ?z_0 ?z_1 ?z_2 ?z_3 ?z_4 ?z_5 ?z_6 ?z_7 ?z_8 ?z_9 ?gg0 ?gg2 ?gg4 ?h0l ?h2l ?h4l ?h0ld ?h0ok ?h0in ?h2ld ?h2ok ?h2in ?h4ld ?h4ok ?h4in
    (case g_cN => k_is)
    (case g_cR => k_is)
    (case a0 => k_is)
    (case F0 => trivial)
    (case a1 => k_is)
    (case F1 => trivial)
    (case a2 => k_is)
    (case F2 => trivial)
    (case a3 => k_is)
    (case F3 => trivial)
    (case a4 => k_is)
    (case F4 => trivial)
    (case a5 => k_is)
    (case F5 => trivial)
    (case a6 => k_is)
    (case F6 => trivial)
    (case a7 => k_is)
    (case i7 => k_is)
    (case F7 => trivial)
    (case a8 => k_is)
    (case i8 => k_is)
    (case F8 => trivial)
    (case a9 => k_is)
    (case i9 => k_is)
    (case F9 => trivial)
    (case a10 => k_is)
    (case i10 => k_is)
    (case F10 => trivial)
    (case a11 => k_is)
    (case i11 => k_is)
    (case F11 => trivial)
    (case a12 => k_is)
    (case i12 => k_is)
    (case F12 => trivial)
    (case a13 => k_is)
    (case i13 => k_is)
    (case F13 => trivial)
    (case a14 => k_is)
    (case i14 => k_is)
    (case F14 => trivial)
    (case a15 => k_is)
    (case i15 => k_is)
    (case F15 => trivial)
    (case a16 => k_is)
    (case i16 => k_is)
    (case F16 => trivial)
    (case a17 => k_is)
    (case i17 => k_is)
    (case F17 => trivial)
    (case a18 => k_is)
    (case i18 => k_is)
    (case F18 => trivial)
    (case a19 => k_is)
    (case i19 => k_is)
    (case F19 => trivial)
    (case a20 => k_is)
    (case i20 => k_is)
    (case F20 => trivial)
    (case a21 => k_is)
    (case i21 => k_is)
    (case F21 => trivial)
    (case a22 => k_is)
    (case i22 => k_is)
    (case F22 => trivial)
    (case a23 => k_is)
    (case F23 => trivial)
    (case a24 => k_is)
    (case F24 => trivial)
    (case a25 => k_is)
    (case F25 => trivial)
    (case a26 => k_is)
    (case F26 => trivial)
    (case a27 => k_is)
    (case F27 => trivial)
    (case a28 => k_is)
    (case F28 => trivial)
    (case a29 => k_is)
    (case F29 => trivial)
    (case a30 => k_is)
    (case F30 => trivial)
    (case a31 => k_is)
    (case F31 => trivial)
    (case a32 => k_is)
    (case l32 => k_is)
    (case c32 => k_is)
    (case k32 => k_is)
    (case pg_cN => k_is)
    (case hd_cN => k_is)
    (case po_cN => k_is)
    (case sa_cN => k_is)
    (case mk_cN => k_is)
    (case kp_cN => k_is)
    (case pg_cR => k_is)
    (case hd_cR => k_is)
    (case po_cR => k_is)
    (case sa_cR => k_is)
    (case mk_cR => k_is)
    (case kp_cR => k_is)
    (case na0 => k_is)
    (case na1 => k_is)
    (case na2 => k_is)
    (case na3 => k_is)
    (case na4 => k_is)
    (case na5 => k_is)
    (case na6 => k_is)
    (case na7 => k_is)
    (case na8 => k_is)
    (case m0 => k_is)
    (case m1 => k_is)
    (case m2 => k_is)
    (case m3 => k_is)
    (case m4 => k_is)
    (case m5 => k_is)
    (case m6 => k_is)
    (case m7 => k_is)
    (case z_0 => k_is)
    (case z_1 => k_is)
    (case z_2 => k_is)
    (case z_3 => k_is)
    (case z_4 => k_is)
    (case z_5 => k_is)
    (case z_6 => k_is)
    (case z_7 => k_is)
    (case z_8 => k_is)
    (case z_9 => k_is)
    (case gg0 => k_is)
    (case gg2 => k_is)
    (case gg4 => k_is)
    (case h0l => k_is)
    (case h2l => k_is)
    (case h4l => k_is)
    (case h0ld => k_is)
    (case h0ok => rfl)
    (case h0in => k_is)
    (case h2ld => k_is)
    (case h2ok => rfl)
    (case h2in => k_is)
    (case h4ld => k_is)
    (case h4ok => rfl)
    (case h4in => k_is)
