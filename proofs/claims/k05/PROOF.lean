import PyProof.Rows.All
import Wide.All
import OpenK.AllK
import Wide.FinOn
import Lean
import PyProof.EqAt
import PyProof.EqKinds
import PyProof.TupleCall
import PySem.Challenge.RW_wareplan_k05_whole_stands
set_option Elab.async false
set_option linter.all false
set_option maxRecDepth 100000
namespace L2
open PySem PySem.Spec PyProof.Rows
abbrev Key:=Sum Int Str
def keyIs:Key→Value→Bool
 | .inl k,v=>Value.isInt k v
 | .inr x,v=>Value.isStrOf x v
def keyH (w:World):Key→Int
 | .inl k=>hashInt k
 | .inr x=>hashStr w x
theorem keyIs_shape:∀ {k:Key} {v:Value},keyIs k v=true→(∃ i t,k=Sum.inl i∧v=Value.int i t)∨(∃ x t,k=Sum.inr x∧v=Value.str x t)
 | .inl i,v,h=>by
  obtain⟨t,e⟩:=Value.isInt_shape (k:=i) (v:=v) h
  exact .inl ⟨i,t,rfl,e⟩
 | .inr x,v,h=>by
  obtain⟨t,e⟩:=Value.isStrOf_shape (x:=x) (v:=v) h
  exact .inr ⟨x,t,rfl,e⟩
theorem keyIs_int (i:Int) (t:Tok):keyIs (.inl i) (.int i t)=true:=by simp[keyIs,Value.isInt]
theorem keyIs_str (x:Str) (t:Tok):keyIs (.inr x) (.str x t)=true:=by simp[keyIs,Value.isStrOf]
theorem key_ll (a b:Int):decide ((Sum.inl a:Key)=Sum.inl b)=(a == b):=by
 by_cases e:a=b
 ·subst e; simp
 ·have h:¬ (Sum.inl a:Key)=Sum.inl b:=fun q=>e (Sum.inl.inj q)
  rw[decide_eq_false h]
  exact (beq_eq_false_iff_ne.mpr e).symm
theorem key_rr (a b:Str):decide ((Sum.inr a:Key)=Sum.inr b)=decide (a=b):=by
 by_cases e:a=b
 ·subst e; simp
 ·have h:¬ (Sum.inr a:Key)=Sum.inr b:=fun q=>e (Sum.inr.inj q)
  rw[decide_eq_false h,decide_eq_false e]
theorem key_lr (a:Int) (b:Str):decide ((Sum.inl a:Key)=Sum.inr b)=false:=decide_eq_false (fun q=>nomatch q)
theorem key_rl (a:Str) (b:Int):decide ((Sum.inr a:Key)=Sum.inl b)=false:=decide_eq_false (fun q=>nomatch q)
def mixKind (prog:Program) (w:World):PySem.KeyKind prog w Key where
 is:=keyIs
 hash:=keyH w
 inj:=fun v a b ha hb=>by
  rcases keyIs_shape ha with⟨i,t,rfl,rfl⟩ | ⟨x,t,rfl,rfl⟩
  ·rcases keyIs_shape hb with⟨j,u,rfl,e⟩ | ⟨y,u,rfl,e⟩
   ·injection e with e1 _; rw[e1]
   ·exact nomatch e
  ·rcases keyIs_shape hb with⟨j,u,rfl,e⟩ | ⟨y,u,rfl,e⟩
   ·exact nomatch e
   ·injection e with e1 _; rw[e1]
 byValue:=fun k v h=>by
  rcases keyIs_shape h with⟨i,t,rfl,rfl⟩ | ⟨x,t,rfl,rfl⟩ <;> rfl
 pyHash:=fun hv h=>by
  rcases keyIs_shape hv with⟨i,t,rfl,rfl⟩ | ⟨x,t,rfl,rfl⟩
  ·exact wpAny_pyHash_int h
  ·exact wpAny_pyHash_str h
 eqBool:=fun hu hv h=>by
  rcases keyIs_shape hu with⟨i,t,rfl,rfl⟩ | ⟨x,t,rfl,rfl⟩
  ·rcases keyIs_shape hv with⟨j,u,rfl,rfl⟩ | ⟨y,u,rfl,rfl⟩
   ·rw[key_ll] at h; exact wpAny_eqBool_int h
   ·rw[key_lr] at h; exact SeqAt.EqAt.int_str i t y u _ _ _ _ h
  ·rcases keyIs_shape hv with⟨j,u,rfl,rfl⟩ | ⟨y,u,rfl,rfl⟩
   ·rw[key_rl] at h; exact SeqAt.EqAt.str_int x t j u _ _ _ _ h
   ·rw[key_rr] at h; exact wpAny_eqBool_str h
 «strs» :=fun k x t v h=>by
  rcases keyIs_shape h with⟨i,u,rfl,e⟩ | ⟨y,u,rfl,e⟩
  ·exact nomatch e
  ·injection e with e1 _
   subst e1
   cases v <;> rfl
theorem mixKind_int (prog:Program) (w:World) (i:Int) (t:Tok):(mixKind prog w).is (.inl i) (.int i t)=true:=keyIs_int i t
theorem mixKind_str (prog:Program) (w:World) (x:Str) (t:Tok):(mixKind prog w).is (.inr x) (.str x t)=true:=keyIs_str x t
end L2
namespace L2
open PySem PySem.Spec PyProof.Rows
inductive V where
 | non | bl (b:Bool) | int (i:Int) | str (x:Str) | byt (b:Array UInt8) | flt (b:UInt64) | ref (a:Addr) | ty (n:String)
 deriving DecidableEq
def RelV:V→Value→Prop
 | .non,u=>u=Value.none
 | .bl b,u=>u=Value.bool b
 | .int i,u=>∃ t,u=Value.int i t
 | .str x,u=>∃ t,u=Value.str x t
 | .byt b,u=>∃ t,u=Value.bytes b t
 | .flt b,u=>∃ t,u=Value.float b t
 | .ref a,u=>u=Value.ref a
 | .ty n,u=>u=Value.type n
abbrev Vals:List V→List Value→Prop:=Paired RelV
theorem Vals.length {xs:List V} {us:List Value} (r:Vals xs us):xs.length=us.length:=Paired.length r
theorem Vals.get:∀ {xs:List V} {us:List Value} {i:Nat} {x:V},Vals xs us→xs[i]? = some x→∃ u,us[i]? = some u∧RelV x u
 | _,_,_,_,.nil,e=>by simp at e
 | _,_,0,_,.cons r _,e=>by simp at e; subst e; exact⟨_,rfl,r⟩
 | _,_,i+1,x,.cons _ t,e=>by
  obtain⟨u,h1,h2⟩:=Vals.get (i:=i) (x:=x) t (by simpa using e)
  exact⟨u,by simpa using h1,h2⟩
theorem Vals.set {x:V} {u:Value} (r:RelV x u):∀ {xs:List V} {us:List Value} (i:Nat),Vals xs us→Vals (xs.set i x) (us.set i u)
 | _,_,_,.nil=>.nil
 | _,_,0,.cons _ t=>.cons r t
 | _,_,i+1,.cons q t=>.cons q (Vals.set r i t)
theorem Vals.append:∀ {xs ys:List V} {us ws:List Value},Vals xs us→Vals ys ws→Vals (xs++ys) (us++ws)
 | _,_,_,_,.nil,s=>s
 | _,_,_,_,.cons r t,s=>.cons r (Vals.append t s)
theorem Vals.take:∀ {xs:List V} {us:List Value} (n:Nat),Vals xs us→Vals (xs.take n) (us.take n)
 | _,_,0,_=>.nil
 | _,_,_+1,.nil=>.nil
 | _,_,n+1,.cons r t=>.cons r (Vals.take n t)
theorem Vals.drop:∀ {xs:List V} {us:List Value} (n:Nat),Vals xs us→Vals (xs.drop n) (us.drop n)
 | _,_,0,r=>r
 | _,_,_+1,.nil=>.nil
 | _,_,n+1,.cons _ t=>Vals.drop n t
def RelO:Option V→Option Value→Prop
 | some v,some u=>RelV v u
 | none,none=>True
 | _,_=>False
def KV {κ:Type}:List (κ × V)→List (κ × Value)→Prop:=Paired fun (p:κ × V) (q:κ × Value)=>p.1=q.1∧RelV p.2 q.2
def kV:Key→V
 | .inl i=>.int i
 | .inr x=>.str x
inductive HO where
 /-- a list -/
 | lst (xs:List V)
 /-- a tuple (never changes) -/
 | tup (xs:List V)
 /-- a dict whose keys are ints and texts; one whose keys are tuples of ints and texts (the empty one is both) -/
 | dK (kvs:List (Key × V)) | dT (kvs:List (List Key × V))
 /-- a set of ints: its members,its size -/
 | set (S:Int→Bool) (n:Nat)
 /-- an instance of the class at C,its dict at dx,its attributes -/
 | ins (C dx:Addr) (fs:List (Str × V))
 /-- the dict of the instance at x -/
 | own (x:Addr)
 /-- the dict of an exception -/
 | xd (fs:List (Str × V))
 /-- a bound method,f of x -/
 | met (f x:Addr)
 /-- a range object lo,lo+1,.. below hi -/
 | rng (lo hi:Int)
 /-- a thing that is known to the object (the script; a dict while a loop walks it): read,never written while it is so -/
 | frz (o:Obj) (u:HO)
 /-- a code object's table -/
 | tbl (ps:Array Value)
 /-- any other thing,by what is true of its one object (a def of one's own: SetO a S n:=HO.ext fun h=>..) -/
 | ext (φ:Heap→Prop)
abbrev Hp:=Addr→Option HO
def upd (H:Hp) (a:Addr) (o:HO):Hp:=fun b=>if b=a then some o else H b
theorem upd_same {H:Hp} {a:Addr} {o:HO}:upd H a o a=some o:=by unfold upd; rw[if_pos rfl]
theorem upd_ne {H:Hp} {a b:Addr} {o:HO} (h:b≠a):upd H a o b=H b:=by unfold upd; rw[if_neg h]
theorem upd_upd {H:Hp} {a:Addr} {o u:HO}:upd (upd H a o) a u=upd H a u:=by
 funext b; unfold upd; split <;> rfl
theorem ne_of {H:Hp} {a b:Addr} {o u:HO} (h:H a=some o) (h':H b=some u) (d:o≠u):a≠b:=by
 intro e; subst e; rw[h] at h'; exact d (Option.some.inj h')
theorem ne_of_none {H:Hp} {a b:Addr} {o:HO} (h:H a=some o) (h':H b=none):a≠b:=by
 intro e; subst e; rw[h] at h'; cases h'
section
variable (P:Program) (w:World)
def ObjOk (H:Hp) (h:Heap) (a:Addr):HO→Prop
 | .lst xs=>xs.length≤sizeLine∧∃ (its:List Value) (n:Nat),Vals xs its∧h.get? a=some { cls:=.type "list",data:=.seq its.toArray n }
 | .tup xs=>xs.length≤sizeLine∧∃ its:List Value,Vals xs its∧IsTup h a its.toArray
 | .dK kvs=>kvs.length≤sizeLine∧(a == sysModules)=false∧∃ vs,KV kvs vs∧h.DictOf (mixKind P w) a vs
 | .dT kvs=>kvs.length≤sizeLine∧(a == sysModules)=false∧∃ xs:List (List Key × Addr × Value),
   Paired (fun (p:List Key × V) (q:List Key × Addr × Value)=>p.1=q.1∧H q.2.1=some (.tup (p.1.map kV))∧RelV p.2 q.2.2) kvs xs ∧
   ∃ o es ep,h.get? a=some o∧o.ExactDict∧o.data = .dict es ep∧es.toList=xs.map (entryOfKey (tupleKind (mixKind P w)))∧(xs.map (·.1)).Nodup
 | .set S n=>h.SetOf (intKind P w) a S n
 | .ins C dx fs=>H dx=some (.own a)∧fs.length≤1000∧dx≠a∧h.get? a=some (PySem.W.instObj C dx) ∧
   ∃ mA,h.Ns1 dx mA∧(∀ f,RelO (fs.lookup f) (mA f))∧PySem.Within mA (fs.map (·.1))
 | .own _=>∃ o,h.get? a=some o
 | .xd fs=>∃ mA,h.Ns1 a mA∧∀ f,RelO (fs.lookup f) (mA f)
 | .rng lo hi=>∃ t u v,h.get? a=some { cls:=.type "range",data:=.fields #[.int lo t,.int hi u,.int 1 v] }
 | .frz o u=>h.get? a=some o∧ObjOk H h a u
 | .tbl ps=>h.get? a=some { cls:=.none,data:=.fields ps }
 | .met f x=>h.get? a=some (PySem.W.methodObj (.ref f) (.ref x))
 | .ext φ=>φ h∧(∃ o,h.get? a=some o)∧∀ h1 h2:Heap,φ h1→(∀ o,h1.get? a=some o→h2.get? a=some o)→φ h2
def HOk (H:Hp) (h:Heap):Prop:=∀ a o,H a=some o→ObjOk P w H h a o
end
section
variable {P:Program} {w:World} {H H':Hp} {h h':Heap} {a:Addr} {o:HO}
theorem ObjOk.lt (x:ObjOk P w H h a o):a<h.objs.size:=by
 cases o with
 | lst xs=>obtain⟨_,_,_,_,e⟩:=x; exact Heap.lt_size e
 | tup xs=>obtain⟨_,_,_,p⟩:=x; exact p.lt
 | dK kvs=>obtain⟨_,_,_,_,o,_,_,e,_⟩:=x; exact Heap.lt_size e
 | dT kvs=>obtain⟨_,_,_,_,o,_,_,e,_⟩:=x; exact Heap.lt_size e
 | set S n=>obtain⟨o,_,_,_,e,_⟩:=x; exact Heap.lt_size e
 | ins C dx fs=>obtain⟨_,_,_,e,_⟩:=x; exact Heap.lt_size e
 | own y=>obtain⟨_,e⟩:=x; exact Heap.lt_size e
 | xd fs=>obtain⟨_,⟨_,_,_,e,_⟩,_⟩:=x; exact Heap.lt_size e
 | rng lo hi=>obtain⟨_,_,_,e⟩:=x; exact Heap.lt_size e
 | frz ob u=>obtain⟨e,_⟩:=x; exact Heap.lt_size e
 | tbl ps=>exact Heap.lt_size (show h.get? a=some _ from x)
 | met f y=>exact Heap.lt_size (show h.get? a=some _ from x)
 | ext φ=>obtain⟨_,⟨_,e⟩,_⟩:=x; exact Heap.lt_size e
theorem Paired.mapP {α β:Type} {F G:α→β→Prop}:∀ {l₁:List α} {l₂:List β},Paired F l₁ l₂→(∀ a b,F a b→G a b)→Paired G l₁ l₂
 | _,_,.nil,_=>.nil
 | _,_,.cons r t,f=>.cons (f _ _ r) (Paired.mapP t f)
theorem ObjOk.stay (x:ObjOk P w H h a o) (k:∀ b u,(b=a∨H b=some (.own a))→h.get? b=some u→h'.get? b=some u)
  (ho:∀ b,H b=some (.own a)→H' b=some (.own a)) (ht:∀ b xs,H b=some (.tup xs)→H' b=some (.tup xs)):ObjOk P w H' h' a o:=by
 induction o with
 | lst xs=>obtain⟨z,its,n,r,e⟩:=x; exact⟨z,its,n,r,k _ _ (.inl rfl) e⟩
 | tup xs=>obtain⟨z,its,r,ob,e,c⟩:=x; exact⟨z,its,r,ob,k _ _ (.inl rfl) e,c⟩
 | dK kvs=>obtain⟨z,y,vs,r,ob,es,ep,e,c⟩:=x; exact⟨z,y,vs,r,ob,es,ep,k _ _ (.inl rfl) e,c⟩
 | dT kvs=>
  obtain⟨z,y,xs,r,ob,es,ep,e,c⟩:=x
  exact⟨z,y,xs,Paired.mapP r fun p q z=>⟨z.1,ht _ _ z.2.1,z.2.2⟩,ob,es,ep,k _ _ (.inl rfl) e,c⟩
 | set S n=>obtain⟨ob,es,ep,t,e,c⟩:=x; exact⟨ob,es,ep,t,k _ _ (.inl rfl) e,c⟩
 | ins C dx fs=>
  obtain⟨d,z,ne,e,mA,⟨od,es,ep,e2,c⟩,r⟩:=x
  exact⟨ho _ d,z,ne,k _ _ (.inl rfl) e,mA,⟨od,es,ep,k _ _ (.inr d) e2,c⟩,r⟩
 | own y=>obtain⟨ob,e⟩:=x; exact⟨ob,k _ _ (.inl rfl) e⟩
 | xd fs=>obtain⟨mA,⟨od,es,ep,e,c⟩,r⟩:=x; exact⟨mA,⟨od,es,ep,k _ _ (.inl rfl) e,c⟩,r⟩
 | rng lo hi=>obtain⟨t,u,v,e⟩:=x; exact⟨t,u,v,k _ _ (.inl rfl) e⟩
 | frz ob u ih=>obtain⟨e,q⟩:=x; exact⟨k _ _ (.inl rfl) e,ih q⟩
 | tbl ps=>
  have e:h.get? a=some { cls:=.none,data:=.fields ps }:=x
  show h'.get? a=some { cls:=.none,data:=.fields ps }
  exact k a _ (.inl rfl) e
 | met f y=>
  have e:h.get? a=some (PySem.W.methodObj (.ref f) (.ref y)):=x
  show h'.get? a=some (PySem.W.methodObj (.ref f) (.ref y))
  exact k a _ (.inl rfl) e
 | ext φ=>obtain⟨p,⟨o,e⟩,st⟩:=x; exact⟨st _ _ p fun o q=>k _ _ (.inl rfl) q,⟨o,k _ _ (.inl rfl) e⟩,st⟩
theorem HOk.lt (x:HOk P w H h) (e:H a=some o):a<h.objs.size:=(x a o e).lt
theorem HOk.fresh (x:HOk P w H h) (e:h.objs.size≤a):H a=none:=by
 cases q:H a with
 | none=>rfl
 | some u=>exact absurd (Nat.lt_of_lt_of_le (x.lt q) e) (Nat.lt_irrefl _)
theorem HOk.kept (x:HOk P w H h) (k:∀ b u,h.get? b=some u→h'.get? b=some u):HOk P w H h':=fun a o e=>
 (x a o e).stay (fun b u _ q=>k b u q) (fun _ q=>q) fun _ _ q=>q
theorem HOk.laid (x:HOk P w H h) (k:∀ b u,h.get? b=some u→h'.get? b=some u) (hp:h.objs.size≤a) (new:ObjOk P w (upd H a o) h' a o):HOk P w (upd H a o) h':=fun b u e=>by
 have hn:=x.fresh hp
 by_cases hb:b=a
 ·subst hb; rw[upd_same] at e; cases e; exact new
 ·rw[upd_ne hb] at e
  exact (x b u e).stay (fun c v _ q=>k c v q) (fun c q=>by rw[upd_ne (ne_of_none q hn)]; exact q) fun c xs q=>by rw[upd_ne (ne_of_none q hn)]; exact q
end
def Rd (H:Hp) (a:Addr) (u:HO):Prop:=H a=some u∨∃ o,H a=some (.frz o u)
theorem Rd.ok {P:Program} {w:World} {H:Hp} {h:Heap} {a:Addr} {u:HO} (r:Rd H a u) (x:HOk P w H h):ObjOk P w H h a u:=by
 rcases r with r | ⟨o,r⟩
 ·exact x a u r
 ·obtain⟨_,q⟩:=x a _ r
  exact q
def Mut:Option HO→Prop
 | some (.lst _)=>True
 | some (.dK _)=>True
 | some (.dT _)=>True
 | some (.set _ _)=>True
 | some (.ins _ _ _)=>True
 | some (.ext _)=>True
 | _=>False
section
variable {P:Program} {w:World} {H:Hp} {h h':Heap} {x e:Addr} {o':HO}
theorem HOk.write (ok:HOk P w H h) (mu:Mut (H x)) (he:e=x∨H e=some (.own x)) (k:∀ b u,b≠e→h.get? b=some u→h'.get? b=some u) (heo:∃ u,h'.get? e=some u)
  (new:ObjOk P w (upd H x o') h' x o'):HOk P w (upd H x o') h':=fun b u q=>by
 have nown:∀ c y,H c=some (.own y)→c≠x:=fun c y r z=>by subst z; rw[r] at mu; exact mu
 have ntup:∀ c xs,H c=some (.tup xs)→c≠x:=fun c xs r z=>by subst z; rw[r] at mu; exact mu
 by_cases hb:b=x
 ·subst hb; rw[upd_same] at q; cases q; exact new
 ·rw[upd_ne hb] at q
  by_cases hbe:b=e
  ·have q':H b=some (.own x):=by
    rcases he with z | z
    ·exact absurd (hbe.trans z) hb
    ·rw[hbe]; exact z
   rw[q] at q'; cases q'
   obtain⟨v,hv⟩:=heo
   exact⟨v,by rw[hbe]; exact hv⟩
  ·refine (ok b u q).stay (fun c v hc r=>k c v ?_ r) (fun c r=>by rw[upd_ne (nown c b r)]; exact r) fun c xs r=>by rw[upd_ne (ntup c xs r)]; exact r
   rcases hc with rfl | hc
   ·exact hbe
   ·rintro rfl
    rcases he with z | z
    ·exact nown c b hc z
    ·rw[hc] at z; cases z; exact hb rfl
end
structure Un (fs ex:List Addr) (H H':Hp) (h h':Heap):Prop where
 keep:∀ b o,h.get? b=some o→H b=none→b∉fs→b∉ex→h'.get? b=some o
 slot:∀ b o,h.get? b=some o→H b=none→b∈fs→b∉ex→∃ sl,h'.get? b=some { o with slots:=sl }
 free:∀ b o,h.get? b=some o→H b=none→b∉ex→H' b=none
 there:∀ b o,h.get? b=some o→b∉ex→∃ o',h'.get? b=some o'
 tups:∀ b xs,H b=some (.tup xs)→H' b=some (.tup xs)
 frzs:∀ b o u,H b=some (.frz o u)→H' b=some (.frz o u)
 tbls:∀ b ps,H b=some (.tbl ps)→∃ more,H' b=some (.tbl (ps++more))
section
variable {fs fs' ex ex':List Addr} {H H1 H2:Hp} {h h1 h2 h':Heap} {a x e:Addr} {o:HO}
theorem Un.any (u:Un fs ex H H1 h h1) {b:Addr} {ob:Obj} (q:h.get? b=some ob) (n:H b=none) (hx:b∉ex):∃ sl,h1.get? b=some { ob with slots:=sl }:=by
 by_cases hb:b∈fs
 ·exact u.slot b ob q n hb hx
 ·exact⟨ob.slots,u.keep b ob q n hb hx⟩
theorem Un.trans (a:Un fs ex H H1 h h1) (b:Un fs ex H1 H2 h1 h2):Un fs ex H H2 h h2 where
 keep:=fun c ob q n hc hx=>b.keep c ob (a.keep c ob q n hc hx) (a.free c ob q n hx) hc hx
 slot:=fun c ob q n hc hx=>by
  obtain⟨sl,e1⟩:=a.slot c ob q n hc hx
  obtain⟨sl',e2⟩:=b.slot c _ e1 (a.free c ob q n hx) hc hx
  exact⟨sl',e2⟩
 free:=fun c ob q n hx=>by
  obtain⟨o',e1⟩:=a.there c ob q hx
  exact b.free c o' e1 (a.free c ob q n hx) hx
 there:=fun c ob q hx=>by
  obtain⟨o',e1⟩:=a.there c ob q hx
  exact b.there c o' e1 hx
 tups:=fun c xs q=>b.tups c xs (a.tups c xs q)
 frzs:=fun c ob xs q=>b.frzs c ob xs (a.frzs c ob xs q)
 tbls:=fun c ps q=>by
  obtain⟨m1,e1⟩:=a.tbls c ps q
  obtain⟨m2,e2⟩:=b.tbls c _ e1
  exact⟨m1++m2,by rw[e2,Array.append_assoc]⟩
theorem Un.kept (k:∀ b u,h.get? b=some u→h'.get? b=some u):Un fs ex H H h h':=
 ⟨fun b ob q _ _ _=>k b ob q,fun b ob q _ _ _=>⟨ob.slots,k b ob q⟩,fun _ _ _ n _=>n,fun b ob q _=>⟨ob,k b ob q⟩,fun _ _ q=>q,fun _ _ _ q=>q,fun _ ps q=>⟨#[],by rw[q]; simp⟩⟩
theorem Un.refl:Un fs ex H H h h:=Un.kept fun _ _ q=>q
theorem Un.laid (k:∀ b u,h.get? b=some u→h'.get? b=some u) (hp:h.objs.size≤a) (hn:H a=none):Un fs ex H (upd H a o) h h' where
 keep:=fun b u q _ _ _=>k b u q
 slot:=fun b u q _ _ _=>⟨u.slots,k b u q⟩
 free:=fun b u q n _=>by rw[upd_ne (Nat.ne_of_lt (Nat.lt_of_lt_of_le (Heap.lt_size q) hp))]; exact n
 there:=fun b u q _=>⟨u,k b u q⟩
 tups:=fun b xs q=>by rw[upd_ne (ne_of_none q hn)]; exact q
 frzs:=fun b u xs q=>by rw[upd_ne (ne_of_none q hn)]; exact q
 tbls:=fun b ps q=>⟨#[],by rw[upd_ne (ne_of_none q hn),q]; simp⟩
theorem Un.write (mu:Mut (H x)) (he:e=x∨H e=some (.own x)) (k:∀ b u,b≠e→h.get? b=some u→h'.get? b=some u) (heo:∃ u,h'.get? e=some u):Un fs ex H (upd H x o) h h':=by
 have hx:∀ b,H b=none→b≠x:=fun b n z=>by subst z; rw[n] at mu; exact mu
 have hb:∀ b,H b=none→b≠e:=fun b n z=>by
  subst z
  rcases he with r | r
  ·exact hx b n r
  ·rw[n] at r; cases r
 have hm:∀ b u,H b=some u→¬ Mut (some u)→b≠x:=fun b u q nm z=>by subst z; rw[q] at mu; exact nm mu
 refine⟨fun b u q n _ _=>k b u (hb b n) q,fun b u q n _ _=>⟨u.slots,k b u (hb b n) q⟩,fun b u q n _=>by rw[upd_ne (hx b n)]; exact n,fun b u q _=>?_,
  fun b xs q=>by rw[upd_ne (hm b _ q fun z=>z)]; exact q,fun b u xs q=>by rw[upd_ne (hm b _ q fun z=>z)]; exact q,fun b ps q=>⟨#[],by rw[upd_ne (hm b _ q fun z=>z),q]; simp⟩⟩
 by_cases hbe:b=e
 ·subst hbe; exact heo
 ·exact⟨u,k b u hbe q⟩
end
def trk (h:Heap) (H:Hp):List Addr:=(List.range h.objs.size).filter fun a=>(H a).isSome
def hidT (h:Heap) (H:Hp):Heap:=PySem.W.hideAll h (trk h H)
theorem hidT_size (h:Heap) (H:Hp):(hidT h H).objs.size=h.objs.size:=PySem.W.hideAll_size _ _
theorem hidT_get {h:Heap} {H:Hp} {b:Addr} {o:Obj} (e:h.get? b=some o) (n:H b=none):(hidT h H).get? b=some o:=
 PySem.W.hideAll_get _ e fun hm=>by
  have q:(H b).isSome=true:=(List.mem_filter.mp hm).2
  rw[n] at q; simp at q
theorem of_hidT {h:Heap} {H:Hp} {b:Addr} {o:Obj} (e:(hidT h H).get? b=some o):h.get? b=some o∧H b=none:=by
 have e':h.get? b=some o:=PySem.W.of_hideAll (trk h H) e
 refine⟨e',?_⟩
 cases q:H b with
 | none=>rfl
 | some x=>
  have hm:b∈trk h H:=List.mem_filter.mpr ⟨List.mem_range.mpr (Heap.lt_size e'),by simp[q]⟩
  have z:(hidT h H).get? b=none:=PySem.W.hideAll_none (trk h H) hm
  rw[z] at e; cases e
end L2
namespace L2
open PySem PySem.Spec PyProof.Rows
structure Mod (K:PySem.W.Frag) (mg:Str→Option Value) (base:Heap):Prop where
 kin:K.In base
 glob:base.Ns mainGlobals mg
 blt:∃ mb,base.Ns builtinsNs mb∧∀ x:Str,x≠"__name__"→mb x=bootBuiltins x
 nolimit:base.NoLimit
structure Cx where
 prog:Program
 w:World
 K:PySem.W.Frag
 mg:Str→Option Value
 base:Heap
 A:Around
 N:List Str
 s₀:Shared
 H₀:Hp
 env:Env
 outer:List Env
 stack:List Env
 ex:List Addr
 fn:Str→Bool
 calm:Bool
 pn:List (Addr × Obj)
 xe:Value→Shared→Prop
def frs (l:List Env):List Addr:=l.filterMap (·.frame)
abbrev Cx.fs (X:Cx):List Addr:=frs X.outer
def Vis (sc:Scope) (x:Str):Prop:=sc.names.lookup x=some .local∨sc.names.lookup x=some .cell∨sc.names.lookup x=some .free
def Loc (sc:Scope) (x:Str):Prop:=sc.names.lookup x=some .local∨sc.names.lookup x=some .cell
def Look (env:Env) (h:Heap) (m:Str→Option Value) (x:Str) (u:Value):Prop:=
 (env.kindOf x=some .local∧m x=some u)∨((env.kindOf x=some .cell∨env.kindOf x=some .free)∧∃ c,env.cells.lookup x=some c∧h.IsCell c (some u))
structure Cx.Ok (X:Cx):Prop where
 mod:Mod X.K X.mg X.base
 kind:X.env.scope.kind = .function
 glob:X.env.globals=mainGlobals
 blt:X.env.builtins=builtinsNs
 above:X.s₀.heap.objs.size≤X.env.locals
 inj:∀ x y c,X.env.cells.lookup x=some c→X.env.cells.lookup y=some c→x=y
 has:∀ x,(X.env.kindOf x=some .cell∨X.env.kindOf x=some .free)→∃ c,X.env.cells.lookup x=some c
 cab:∀ x c,X.fn x=true→X.env.cells.lookup x=some c→X.s₀.heap.objs.size≤c
 hd:X.calm=true→X.A.handled=none
 frames:X.A.frames=some X.stack
 stk:X.stack=X.outer∨(X.stack=X.env :: X.outer∧X.env.frame=some X.env.locals)
 exf:∀ b∈X.ex,b≠X.env.locals∧∀ x c,X.env.cells.lookup x=some c→c≠b
 bs:∀ b o,X.base.get? b=some o→X.s₀.heap.get? b=some o∧X.H₀ b=none
 bsz:X.base.objs.size≤X.s₀.heap.objs.size
 noex:∀ b o,X.base.get? b=some o→b∉X.ex
 exfs:∀ b∈X.ex,b∉X.fs
 funs:X.s₀.heap.FunFrames X.base X.outer
 frf:∀ b∈X.fs,X.H₀ b=none
structure Inv (X:Cx) (pins:List (Addr × Obj)) (σ:List (Option V)) (H:Hp) (s:Shared):Prop where
 ok:X.Ok
 os:s.os=X.s₀.os
 bare:AllBare s.gens
 base:Un X.fs X.ex X.H₀ H X.s₀.heap s.heap
 loc:∃ m,s.heap.Ns X.env.locals m∧∀ (i:Nat) (x:Str) (v:V),X.N[i]? = some x→σ[i]? = some (some v)→Vis X.env.scope x→∃ u,RelV v u∧Look X.env s.heap m x u
 cell:∀ x c,X.env.cells.lookup x=some c→∃ v,s.heap.IsCell c v
 free:H X.env.locals=none
 freeC:∀ x c,X.env.cells.lookup x=some c→H c=none
 pin:∀ p∈X.pn++pins,s.heap.get? p.1=some p.2∧H p.1=none∧p.1≠X.env.locals∧p.1∉X.fs∧∀ v,p.2.data≠.cell v
 hok:HOk X.prog X.w H s.heap
 len:σ.length=X.N.length
section
variable {X:Cx} {pins:List (Addr × Obj)} {σ:List (Option V)} {H H':Hp} {s:Shared} {h':Heap}
theorem Cx.Ok.nofr (ok:X.Ok) {b:Addr} {o:Obj} (e:X.base.get? b=some o):b∉X.fs:=fun hb=>by
 have:=(ok.funs.mem hb).1
 rw[e] at this; cases this
theorem Inv.bs (I:Inv X pins σ H s):∀ b o,X.base.get? b=some o→s.heap.get? b=some o∧H b=none:=fun b o e=>
 ⟨I.base.keep b o (I.ok.bs b o e).1 (I.ok.bs b o e).2 (I.ok.nofr e) (I.ok.noex b o e),I.base.free b o (I.ok.bs b o e).1 (I.ok.bs b o e).2 (I.ok.noex b o e)⟩
theorem Inv.bk (I:Inv X pins σ H s):∀ b o,X.base.get? b=some o→s.heap.get? b=some o:=fun b o e=>(I.bs b o e).1
theorem Inv.mod (I:Inv X pins σ H s):Mod X.K X.mg X.base:=I.ok.mod
theorem Inv.kIn (I:Inv X pins σ H s):X.K.In s.heap:=I.ok.mod.kin.keeps I.bk
theorem Inv.lt (I:Inv X pins σ H s):X.env.locals<s.heap.objs.size:=let ⟨_,hn,_⟩:=I.loc; hn.lt
theorem Inv.sz (I:Inv X pins σ H s):X.s₀.heap.objs.size≤s.heap.objs.size:=Nat.le_trans I.ok.above (Nat.le_of_lt I.lt)
theorem Inv.nofs (I:Inv X pins σ H s) {a:Addr} (h:s.heap.objs.size≤a):a∉X.fs:=fun hb=>by
 obtain⟨_,o,ho,_⟩:=I.ok.funs.mem hb
 exact absurd (Nat.lt_of_lt_of_le (Heap.lt_size ho) (Nat.le_trans I.sz h)) (Nat.lt_irrefl _)
theorem Inv.cne (I:Inv X pins σ H s):∀ x c,X.env.cells.lookup x=some c→c≠X.env.locals:=fun x c e z=>by
 obtain⟨v,o,ho,hd⟩:=I.cell x c e
 obtain⟨m,⟨o',es,ep,ho',hd',_⟩,_⟩:=I.loc
 rw[z,ho'] at ho; cases ho; rw[hd'] at hd; cases hd
theorem Inv.funs (I:Inv X pins σ H s):s.heap.FunFrames X.base X.outer:=by
 have all:∀ (l:List Env),(∀ b∈frs l,b∈X.fs)→X.s₀.heap.FunFrames X.base l→s.heap.FunFrames X.base l:=by
  intro l
  induction l with
  | nil=>intro _ _; trivial
  | cons env r ih=>
   intro hs hl
   obtain⟨hk,⟨L,o,hf,hn,ho,hd⟩,hr⟩:=hl
   have hL:L∈X.fs:=hs L (by unfold frs; rw[List.filterMap_cons,hf]; exact List.mem_cons_self)
   obtain⟨sl,e⟩:=I.base.slot L o ho (I.ok.frf L hL) hL fun z=>I.ok.exfs L z hL
   exact⟨hk,⟨L,_,hf,hn,e,hd⟩,ih (fun b hb=>hs b (by unfold frs; rw[List.filterMap_cons,hf]; exact List.mem_cons_of_mem _ hb)) hr⟩
 exact all X.outer (fun _ hb=>hb) I.ok.funs
theorem Inv.stack (I:Inv X pins σ H s):s.heap.FunFrames X.base X.stack:=by
 rcases I.ok.stk with e | ⟨e,hf⟩
 ·rw[e]; exact I.funs
 ·rw[e]
  obtain⟨m,hn,_⟩:=I.loc
  refine .cons (by rw[I.ok.kind]; decide) hf hn ?_ I.funs
  exact Heap.get?_none_of_le (Nat.le_trans I.ok.bsz I.ok.above)
theorem Inv.stkSub (I:Inv X pins σ H s):∀ b∈frs X.stack,b∈X.env.locals :: X.fs:=fun b hb=>by
 rcases I.ok.stk with e | ⟨e,hf⟩
 ·rw[e] at hb; exact List.mem_cons_of_mem _ hb
 ·rw[e] at hb
  unfold frs at hb
  rw[List.filterMap_cons,hf] at hb
  exact hb
theorem Inv.stkFree (I:Inv X pins σ H s):∀ b∈frs X.stack,H b=none:=fun b hb=>by
 rcases List.mem_cons.mp (I.stkSub b hb) with e | hb
 ·rw[e]; exact I.free
 ·obtain⟨_,o,ho,_⟩:=I.ok.funs.mem hb
  exact I.base.free b o ho (I.ok.frf b hb) fun z=>I.ok.exfs b z hb
theorem Inv.step {g':Array GenState} {t':Nat} {d':Drawn} {ch:List Addr} (I:Inv X pins σ H s)
  (hch:∀ b∈ch,(b∈X.ex∨X.s₀.heap.objs.size≤b)∧b≠X.env.locals∧(∀ x c,X.env.cells.lookup x=some c→c≠b)∧∀ p∈X.pn++pins,p.1≠b)
  (keep:∀ b o,b≠X.env.locals→b∉X.fs→b∉ch→s.heap.get? b=some o→H b=none→h'.get? b=some o)
  (slot:∀ b o,b≠X.env.locals→b∈X.fs→b∉ch→s.heap.get? b=some o→H b=none→∃ sl,h'.get? b=some { o with slots:=sl }) (free:∀ b o,b∉ch→s.heap.get? b=some o→H b=none→H' b=none)
  (there:∀ b o,b∉ch→s.heap.get? b=some o→∃ o',h'.get? b=some o')
  (tups:∀ b xs,H b=some (.tup xs)→H' b=some (.tup xs)) (frzs:∀ b o u,H b=some (.frz o u)→H' b=some (.frz o u)) (tbls:∀ b ps,H b=some (.tbl ps)→∃ more,H' b=some (.tbl (ps++more)))
  (ns:∀ m,s.heap.Ns X.env.locals m→h'.Ns X.env.locals m) (hok:HOk X.prog X.w H' h') (hg:AllBare g') :
  Inv X pins σ H' { s with heap:=h',gens:=g',drawn:=d',toks:=t' }:=by
 have neL:∀ b o,X.s₀.heap.get? b=some o→b≠X.env.locals:=fun b o e=>Nat.ne_of_lt (Nat.lt_of_lt_of_le (Heap.lt_size e) I.ok.above)
 have neC:∀ b o,X.s₀.heap.get? b=some o→b∉X.ex→b∉ch:=fun b o e hx hb=>by
  rcases (hch b hb).1 with z | z
  ·exact hx z
  ·exact absurd (Nat.lt_of_lt_of_le (Heap.lt_size e) z) (Nat.lt_irrefl _)
 have cellK:∀ x c,X.env.cells.lookup x=some c→∀ v,s.heap.IsCell c v→h'.IsCell c v:=fun x c e v ⟨o,ho,hd⟩=>by
  have nch:c∉ch:=fun z=>(hch c z).2.2.1 x c e rfl
  by_cases hc:c∈X.fs
  ·obtain⟨sl,q⟩:=slot c o (I.cne x c e) hc nch ho (I.freeC x c e)
   exact⟨_,q,hd⟩
  ·exact⟨o,keep c o (I.cne x c e) hc nch ho (I.freeC x c e),hd⟩
 refine⟨I.ok,I.os,hg,⟨fun b o e n hb hx=>?_,fun b o e n hb hx=>?_,fun b o e n hx=>?_,fun b o e hx=>?_,fun b xs e=>tups b xs (I.base.tups b xs e),fun b o xs e=>frzs b o xs (I.base.frzs b o xs e),fun b ps e=>?_⟩,?_,fun x c e=>?_,?_,fun x c e=>?_,fun p hp=>?_,hok,I.len⟩
 ·exact keep b o (neL b o e) hb (neC b o e hx) (I.base.keep b o e n hb hx) (I.base.free b o e n hx)
 ·obtain⟨sl,e1⟩:=I.base.slot b o e n hb hx
  obtain⟨sl',e2⟩:=slot b _ (neL b o e) hb (neC b o e hx) e1 (I.base.free b o e n hx)
  exact⟨sl',e2⟩
 ·obtain⟨o',e1⟩:=I.base.there b o e hx
  exact free b o' (neC b o e hx) e1 (I.base.free b o e n hx)
 ·obtain⟨o',e1⟩:=I.base.there b o e hx
  exact there b o' (neC b o e hx) e1
 ·obtain⟨m1,e1⟩:=I.base.tbls b ps e
  obtain⟨m2,e2⟩:=tbls b _ e1
  exact⟨m1++m2,by rw[e2,Array.append_assoc]⟩
 ·obtain⟨m,hn,hl⟩:=I.loc
  refine⟨m,ns m hn,fun i x v e1 e2 e3=>?_⟩
  obtain⟨u,r,l⟩:=hl i x v e1 e2 e3
  refine⟨u,r,?_⟩
  rcases l with l | ⟨k,c,e,z⟩
  ·exact .inl l
  ·exact .inr ⟨k,c,e,cellK x c e _ z⟩
 ·obtain⟨v,z⟩:=I.cell x c e
  exact⟨v,cellK x c e v z⟩
 ·obtain⟨m,⟨o,_,_,ho,_⟩,_⟩:=I.loc
  exact free _ o (fun z=>(hch _ z).2.1 rfl) ho I.free
 ·obtain⟨v,o,ho,hd⟩:=I.cell x c e
  exact free c o (fun z=>(hch c z).2.2.1 x c e rfl) ho (I.freeC x c e)
 ·obtain⟨e,n,ne,nf,d⟩:=I.pin p hp
  have nch:p.1∉ch:=fun z=>(hch p.1 z).2.2.2 p hp rfl
  exact⟨keep p.1 p.2 ne nf nch e n,free p.1 p.2 nch e n,ne,nf,d⟩
theorem Inv.un {t':Nat} (I:Inv X pins σ H s) (u:Un X.fs [] H H' s.heap h') (hok:HOk X.prog X.w H' h'):Inv X pins σ H' { s with heap:=h',toks:=t' }:=by
 obtain⟨m,⟨o,es,ep,ho,r⟩,_⟩:=id I.loc
 obtain⟨sl,hL⟩:=u.any ho I.free (by simp)
 exact I.step (g':=s.gens) (d':=s.drawn) (ch:=[]) (fun _ z=>nomatch z) (fun b o _ hb _ e n=>u.keep b o e n hb (by simp)) (fun b o _ hb _ e n=>u.slot b o e n hb (by simp)) (fun b o _ e n=>u.free b o e n (by simp)) (fun b o _ e=>u.there b o e (by simp)) u.tups u.frzs u.tbls (fun m' hm=>by
  obtain⟨o',es',ep',ho',r'⟩:=hm
  rw[ho] at ho'; cases ho'
  exact⟨_,es',ep',hL,r'⟩) hok I.bare
theorem Inv.call {g':Array GenState} {t':Nat} {d':Drawn} {ch:List Addr} (I:Inv X pins σ H s) (u:Un (frs X.stack) ch H H' s.heap h') (hok:HOk X.prog X.w H' h') (hg:AllBare g')
  (hch:∀ b∈ch,(b∈X.ex∨X.s₀.heap.objs.size≤b)∧b≠X.env.locals∧(∀ x c,X.env.cells.lookup x=some c→c≠b)∧∀ p∈X.pn++pins,p.1≠b) :
  Inv X pins σ H' { s with heap:=h',gens:=g',drawn:=d',toks:=t' }:=by
 obtain⟨m,⟨o,es,ep,ho,r⟩,_⟩:=id I.loc
 obtain⟨sl,hL⟩:=u.any ho I.free fun z=>(hch _ z).2.1 rfl
 exact I.step (ch:=ch) hch (fun b o hL hb hc e n=>u.keep b o e n (fun z=>(List.mem_cons.mp (I.stkSub b z)).elim hL hb) hc) (fun b o _ _ hc e n=>u.any e n hc) (fun b o hc e n=>u.free b o e n hc) (fun b o hc e=>u.there b o e hc) u.tups u.frzs u.tbls (fun m' hm=>by
  obtain⟨o',es',ep',ho',r'⟩:=hm
  rw[ho] at ho'; cases ho'
  exact⟨_,es',ep',hL,r'⟩) hok hg
theorem Inv.turned {t':Nat} {it:Addr} (I:Inv X pins σ H s) (k:∀ b o,b≠it→s.heap.get? b=some o→h'.get? b=some o) (hn:H it=none) (hL:it≠X.env.locals)
  (h1:it∈X.ex∨X.s₀.heap.objs.size≤it) (h2:∀ x c,X.env.cells.lookup x=some c→c≠it) (h3:∀ p∈X.pn++pins,p.1≠it):Inv X pins σ H { s with heap:=h',toks:=t' }:=by
 have nit:∀ b u,H b=some u→b≠it:=fun b u e z=>by rw[z,hn] at e; cases e
 refine I.step (g':=s.gens) (d':=s.drawn) (ch:=[it]) (fun b hb=>?_) (fun b o _ _ hc e _=>k b o (fun z=>hc (by simp[z])) e) (fun b o _ _ hc e _=>⟨o.slots,k b o (fun z=>hc (by simp[z])) e⟩) (fun _ _ _ _ n=>n)
  (fun b o hc e=>⟨o,k b o (fun z=>hc (by simp[z])) e⟩) (fun _ _ e=>e) (fun _ _ _ e=>e) (fun b ps e=>⟨#[],by rw[e]; simp⟩) (fun m hm=>?_) (fun b u e=>?_) I.bare
 ·have e:b=it:=by simpa using hb
  subst e
  exact⟨h1,hL,h2,h3⟩
 ·obtain⟨o,es,ep,ho,r⟩:=hm
  exact⟨o,es,ep,k _ o (Ne.symm hL) ho,r⟩
 ·refine (I.hok b u e).stay (fun c v hc q=>k c v ?_ q) (fun _ q=>q) fun _ _ q=>q
  rcases hc with z | z
  ·rw[z]; exact nit b u e
  ·exact nit c _ z
theorem Inv.tok (I:Inv X pins σ H s) (t:Nat):Inv X pins σ H { s with toks:=t }:=I.un (h':=s.heap) (t':=t) Un.refl I.hok
theorem Inv.kept {t':Nat} (I:Inv X pins σ H s) (k:∀ b u,s.heap.get? b=some u→h'.get? b=some u):Inv X pins σ H { s with heap:=h',toks:=t' }:=I.un (Un.kept k) (I.hok.kept k)
theorem Inv.laid {a:Addr} {o:HO} {t':Nat} (I:Inv X pins σ H s) (k:∀ b u,s.heap.get? b=some u→h'.get? b=some u) (hp:s.heap.objs.size≤a) (new:ObjOk X.prog X.w (upd H a o) h' a o) :
  Inv X pins σ (upd H a o) { s with heap:=h',toks:=t' }:=I.un (Un.laid k hp (I.hok.fresh hp)) (I.hok.laid k hp new)
theorem Inv.write {x e:Addr} {o:HO} {t':Nat} (I:Inv X pins σ H s) (mu:Mut (H x)) (he:e=x∨H e=some (.own x)) (k:∀ b u,b≠e→s.heap.get? b=some u→h'.get? b=some u) (heo:∃ u,h'.get? e=some u)
  (new:ObjOk X.prog X.w (upd H x o) h' x o):Inv X pins σ (upd H x o) { s with heap:=h',toks:=t' }:=I.un (Un.write mu he k heo) (I.hok.write mu he k heo new)
theorem Inv.weak {σ':List (Option V)} (I:Inv X pins σ H s) (hl:σ'.length=σ.length) (w:∀ (i:Nat) v,σ'[i]? = some (some v)→σ[i]? = some (some v)):Inv X pins σ' H s:=
 ⟨I.ok,I.os,I.bare,I.base,let ⟨m,hn,hl'⟩:=I.loc; ⟨m,hn,fun i x v e1 e2 e3=>hl' i x v e1 (w i v e2) e3⟩,I.cell,I.free,I.freeC,I.pin,I.hok,hl.trans I.len⟩
theorem Inv.pins_of {pins':List (Addr × Obj)} (I:Inv X pins σ H s) (h:∀ p∈pins',s.heap.get? p.1=some p.2∧H p.1=none∧p.1≠X.env.locals∧p.1∉X.fs∧∀ v,p.2.data≠.cell v):Inv X pins' σ H s:=
 ⟨I.ok,I.os,I.bare,I.base,I.loc,I.cell,I.free,I.freeC,fun p hp=>(List.mem_append.mp hp).elim (fun z=>I.pin p (List.mem_append_left _ z)) (h p),I.hok,I.len⟩
theorem nodup_ix {N:List Str} (hN:N.Nodup) {i j:Nat} {x:Str} (a:N[i]? = some x) (b:N[j]? = some x):i=j:=by
 obtain⟨h1,e1⟩:=List.getElem?_eq_some_iff.mp a
 obtain⟨h2,e2⟩:=List.getElem?_eq_some_iff.mp b
 exact (List.getElem_inj hN).mp (e1.trans e2.symm)
theorem store_ok2 {M:Model} {A:Around} {E:Value→Shared→Prop} {i:Nat} {x:Str} {v:V} {u:Value} {Q:Unit→Shared→Prop} (I:Inv X pins σ H s) (hN:X.N.Nodup) (hi:X.N[i]? = some x) (hx:Loc X.env.scope x) (r:RelV v u)
  (h:∀ s',Inv X pins (σ.set i (some v)) H s'→(∃ a,Heap.SameBut a s.heap s'.heap∧(a=X.env.locals∨X.env.cells.lookup x=some a))→Q () s') (hf:X.fn x=true∨X.env.scope.names.lookup x=some .local:=by first | exact .inl rfl | exact .inr rfl | assumption):wpAny M A (storeName X.env x u) Q E s:=by
 obtain⟨m,hn,hl⟩:=id I.loc
 have hcls:(X.env.scope.kind == .class || (X.env.scope.kind == .module && X.env.locals != X.env.globals))=false:=by rw[I.ok.kind]; rfl
 have hiσ:i<σ.length:=by rw[I.len]; exact (List.getElem?_eq_some_iff.mp hi).1
 have cne:=I.cne
 have tracked:∀ {a:Addr} {h':Heap},(∃ o,s.heap.get? a=some o∧H a=none)→Heap.SameBut a s.heap h'→HOk X.prog X.w H h':=fun {a h'} ha hs b ob e=>by
  obtain⟨_,_,hfree⟩:=ha
  refine (I.hok b ob e).stay (fun c w' hc q=>(hs.2 c ?_).trans q) (fun _ q=>q) fun _ _ q=>q
  rintro rfl
  rcases hc with rfl | hc
  ·rw[hfree] at e; cases e
  ·rw[hfree] at hc; cases hc
 rcases hx with hk | hk
 ·refine wpAny_storeName_local hk hn (fun h' hn' hs=>?_) hcls
  obtain⟨oL,_,_,hoL,_⟩:=id hn
  refine h _ ⟨I.ok,I.os,I.bare,⟨fun b o e n hb hx=>?_,fun b o e n hb hx=>?_,I.base.free,fun b o e hx=>?_,I.base.tups,I.base.frzs,I.base.tbls⟩,⟨_,hn',fun j y v' e1 e2 e3=>?_⟩,fun y c e=>?_,I.free,I.freeC,fun p hp=>?_,tracked ⟨oL,hoL,I.free⟩ hs,by simpa using I.len⟩ ⟨_,hs,.inl rfl⟩
  ·exact (hs.2 b (Nat.ne_of_lt (Nat.lt_of_lt_of_le (Heap.lt_size e) I.ok.above))).trans (I.base.keep b o e n hb hx)
  ·obtain⟨sl,e1⟩:=I.base.slot b o e n hb hx
   exact⟨sl,(hs.2 b (Nat.ne_of_lt (Nat.lt_of_lt_of_le (Heap.lt_size e) I.ok.above))).trans e1⟩
  ·obtain⟨o',e1⟩:=I.base.there b o e hx
   exact⟨o',(hs.2 b (Nat.ne_of_lt (Nat.lt_of_lt_of_le (Heap.lt_size e) I.ok.above))).trans e1⟩
  ·by_cases hj:j=i
   ·subst hj
    rw[hi] at e1; cases e1
    rw[List.getElem?_set_self hiσ] at e2
    cases e2
    exact⟨u,r,.inl ⟨hk,by simp⟩⟩
   ·rw[List.getElem?_set_ne (Ne.symm hj)] at e2
    obtain⟨u',r',q⟩:=hl j y v' e1 e2 e3
    refine⟨u',r',?_⟩
    rcases q with⟨k,e⟩ | ⟨k,c,e,z⟩
    ·refine .inl ⟨k,?_⟩
     have:y≠x:=fun e=>hj (nodup_ix hN e1 (e▸hi))
     simp[this,e]
    ·exact .inr ⟨k,c,e,z.sameBut hs (cne y c e)⟩
  ·obtain⟨w',z⟩:=I.cell y c e
   exact⟨w',z.sameBut hs (cne y c e)⟩
  ·obtain⟨e,n,ne,nf,d⟩:=I.pin p hp
   exact⟨(hs.2 p.1 ne).trans e,n,ne,nf,d⟩
 ·have hfn:X.fn x=true:=by
   rcases hf with z | z
   ·exact z
   ·rw[z] at hk; cases hk
  obtain⟨c,hc⟩:=I.ok.has x (.inl hk)
  obtain⟨w',z⟩:=I.cell x c hc
  refine wpAny_storeName_cell I.ok.kind hk hc z (fun h' hc' hs=>?_)
  obtain⟨oc,hoc,hocd⟩:=id z
  refine h { s with heap:=h' } ⟨I.ok,I.os,I.bare,⟨fun b o e n hb hx=>?_,fun b o e n hb hx=>?_,I.base.free,fun b o e hx=>?_,I.base.tups,I.base.frzs,I.base.tbls⟩,⟨m,hn.sameBut hs (Ne.symm (cne x c hc)),fun j y v' e1 e2 e3=>?_⟩,fun y c' e=>?_,I.free,I.freeC,fun p hp=>?_,tracked ⟨oc,hoc,I.freeC x c hc⟩ hs,by simpa using I.len⟩ ⟨c,hs,.inr hc⟩
  ·exact (hs.2 b (Nat.ne_of_lt (Nat.lt_of_lt_of_le (Heap.lt_size e) (I.ok.cab x c hfn hc)))).trans (I.base.keep b o e n hb hx)
  ·obtain⟨sl,e1⟩:=I.base.slot b o e n hb hx
   exact⟨sl,(hs.2 b (Nat.ne_of_lt (Nat.lt_of_lt_of_le (Heap.lt_size e) (I.ok.cab x c hfn hc)))).trans e1⟩
  ·obtain⟨o',e1⟩:=I.base.there b o e hx
   exact⟨o',(hs.2 b (Nat.ne_of_lt (Nat.lt_of_lt_of_le (Heap.lt_size e) (I.ok.cab x c hfn hc)))).trans e1⟩
  ·by_cases hj:j=i
   ·subst hj
    rw[hi] at e1; cases e1
    rw[List.getElem?_set_self hiσ] at e2
    cases e2
    exact⟨u,r,.inr ⟨.inl hk,c,hc,hc'⟩⟩
   ·rw[List.getElem?_set_ne (Ne.symm hj)] at e2
    obtain⟨u',r',q⟩:=hl j y v' e1 e2 e3
    refine⟨u',r',?_⟩
    rcases q with q | ⟨k,c',e,z'⟩
    ·exact .inl q
    ·refine .inr ⟨k,c',e,z'.sameBut hs ?_⟩
     rintro rfl
     exact hj (nodup_ix hN e1 (I.ok.inj _ _ _ e hc▸hi))
  ·by_cases hcc:c'=c
   ·subst hcc; exact⟨_,hc'⟩
   ·obtain⟨w2,z2⟩:=I.cell y c' e
    exact⟨w2,z2.sameBut hs hcc⟩
  ·obtain⟨e,n,ne,nf,d⟩:=I.pin p hp
   refine⟨(hs.2 p.1 ?_).trans e,n,ne,nf,d⟩
   intro q
   rw[q,hoc] at e
   have q':oc=p.2:=Option.some.inj e
   exact d w' (by rw[← q']; exact hocd)
theorem store_ok {M:Model} {A:Around} {E:Value→Shared→Prop} {i:Nat} {x:Str} {v:V} {u:Value} {Q:Unit→Shared→Prop} (I:Inv X pins σ H s) (hN:X.N.Nodup) (hi:X.N[i]? = some x) (hx:Loc X.env.scope x) (r:RelV v u)
  (h:∀ s',Inv X pins (σ.set i (some v)) H s'→Q () s') (hf:X.fn x=true∨X.env.scope.names.lookup x=some .local:=by first | exact .inl rfl | exact .inr rfl | assumption):wpAny M A (storeName X.env x u) Q E s:=
 store_ok2 I hN hi hx r (fun s' I' _=>h s' I') hf
theorem Inv.call' {s':Shared} {ch:List Addr} (I:Inv X pins σ H s) (ho:s'.os=s.os) (u:Un (frs X.stack) ch H H' s.heap s'.heap) (hok:HOk X.prog X.w H' s'.heap) (hg:AllBare s'.gens)
  (hch:∀ b∈ch,(b∈X.ex∨X.s₀.heap.objs.size≤b)∧b≠X.env.locals∧(∀ x c,X.env.cells.lookup x=some c→c≠b)∧∀ p∈X.pn++pins,p.1≠b):Inv X pins σ H' s':=by
 obtain⟨h',g',d',t',o'⟩:=s'
 have e:o'=s.os:=ho
 subst e
 exact I.call (g':=g') (t':=t') (d':=d') u hok hg hch
end
abbrev XK:=Value→Option Addr→Hp→Prop
abbrev St:=List (Option V)
abbrev VK:=V→Hp→Prop
abbrev TE:=St→Hp→VK→Prop
abbrev TT:=St→Hp→(Bool→Hp→Prop)→Prop
abbrev TA:=St→Hp→(List V→Hp→Prop)→Prop
structure Ends where
 nx:St→Hp→Prop
 rt:VK
 bk:St→Hp→Prop:=fun _ _=>False
 ct:St→Hp→Prop:=fun _ _=>False
abbrev TS:=Ends→St→Hp→Prop
def EP (X:Cx) (pins:List (Addr × Obj)) (σ:St) (Q:VK) (u:Value) (s':Shared):Prop:=∃ v H',Inv X pins σ H' s'∧RelV v u∧Q v H'
def TP (X:Cx) (pins:List (Addr × Obj)) (σ:St) (Q:Bool→Hp→Prop) (b:Bool) (s':Shared):Prop:=∃ H',Inv X pins σ H' s'∧Q b H'
def AP (X:Cx) (pins:List (Addr × Obj)) (σ:St) (Q:List V→Hp→Prop) (us:List Value) (s':Shared):Prop:=∃ vs H',Inv X pins σ H' s'∧Vals vs us∧Q vs H'
def SP (X:Cx) (pins:List (Addr × Obj)) (D:Ends) (f:Flow) (s':Shared):Prop:=
 match f with
 | .next=>∃ σ' H',Inv X pins σ' H' s'∧D.nx σ' H'
 | .brk=>∃ σ' H',Inv X pins σ' H' s'∧D.bk σ' H'
 | .cont=>∃ σ' H',Inv X pins σ' H' s'∧D.ct σ' H'
 | .ret u=>∃ v σ' H',Inv X pins σ' H' s'∧RelV v u∧D.rt v H'
def PE (X:Cx) (e:Expr) (t:TE):Prop:=
 ∀ (pins:List (Addr × Obj)) (s:Shared) (σ:St) (H:Hp) (Q:VK),Inv X pins σ H s→t σ H Q→wpAny (model X.prog X.w) X.A (eval e X.env) (EP X pins σ Q) X.xe s
def PT (X:Cx) (e:Expr) (t:TT):Prop:=
 ∀ (pins:List (Addr × Obj)) (s:Shared) (σ:St) (H:Hp) (Q:Bool→Hp→Prop),Inv X pins σ H s→t σ H Q→wpAny (model X.prog X.w) X.A (isTrue e X.env (eval e X.env)) (TP X pins σ Q) X.xe s
def PW (X:Cx) (e:Expr) (t:TT):Prop:=
 ∀ (whole:Sem Value) (pins:List (Addr × Obj)) (s:Shared) (σ:St) (H:Hp) (Q:Bool→Hp→Prop),Inv X pins σ H s→t σ H Q→wpAny (model X.prog X.w) X.A (isTrue e X.env whole) (TP X pins σ Q) X.xe s
theorem PW.pt {X:Cx} {e:Expr} {t:TT} (h:PW X e t):PT X e t:=h _
def PA (X:Cx) (es:List Expr) (t:TA):Prop:=
 ∀ (pos:Pos) (pins:List (Addr × Obj)) (s:Shared) (σ:St) (H:Hp) (Q:List V→Hp→Prop),Inv X pins σ H s→t σ H Q→wpAny (model X.prog X.w) X.A (spliced (backTo pos (starEach es X.env))) (AP X pins σ Q) X.xe s
def PS (X:Cx) (st:Stmt) (t:TS):Prop:=
 ∀ (pins:List (Addr × Obj)) (s:Shared) (σ:St) (H:Hp) (D:Ends),Inv X pins σ H s→t D σ H→wpAny (model X.prog X.w) X.A (exec st X.env) (SP X pins D) X.xe s
def PSs (X:Cx) (st:List Stmt) (t:TS):Prop:=
 ∀ (pins:List (Addr × Obj)) (s:Shared) (σ:St) (H:Hp) (D:Ends),Inv X pins σ H s→t D σ H→wpAny (model X.prog X.w) X.A (execs st X.env) (SP X pins D) X.xe s
theorem thn {α:Type} {t:Sem α} {Q Q':α→Shared→Prop} {M:Model} {A:Around} {E:Value→Shared→Prop} {s:Shared} (h:wpAny M A t Q E s) (hQ:∀ a s,Q a s→Q' a s):wpAny M A t Q' E s:=wpAny_mono h hQ fun _ _ x=>x
end L2
namespace L2
open PySem PySem.Spec PyProof.Rows
section
variable {X:Cx}
def tVar (i:Nat):TE:=fun σ H Q=>∃ v,σ[i]? = some (some v)∧Q v H
def tC (v:V):TE:=fun _ H Q=>Q v H
theorem pe_var {i:Nat} {x:Str} {pos:Pos} (hN:X.N[i]? = some x) (hv:Vis X.env.scope x) (hd:(x == ("__debug__" : Str))=false:=by decide) (hcd:(x == ("__classdict__" : Str))=false:=by decide):PE X (.Name x pos) (tVar i):=by
 intro pins s σ H Q I h
 obtain⟨v,e,h⟩:=h
 obtain⟨m,hn,hl⟩:=I.loc
 obtain⟨u,r,l⟩:=hl i x v hN e hv
 have fin:EP X pins σ Q u s:=⟨v,H,I,r,h⟩
 rcases l with⟨hk,hm⟩ | ⟨hk,c,hc,hcell⟩
 ·exact wpAny_Name (wpAny_loadName_local I.ok.kind hk hn hm fin) hd
 ·rcases hk with hk | hk
  ·exact wpAny_Name (wpAny_loadName_cell I.ok.kind hk hc hcell fin) hd
  ·exact wpAny_Name (wpAny_loadName_free I.ok.kind hk hc hcell fin hcd) hd
theorem pe_int {i j pos}:PE X (.Constant (.int i) j pos) (tC (.int i)):=fun _ _ _ H _ I h=>wpAny_Constant_int ⟨.int i,H,I.tok _,⟨_,rfl⟩,h⟩
theorem pe_bl {b j pos}:PE X (.Constant (.bool b) j pos) (tC (.bl b)):=fun _ _ _ H _ I h=>Constant_bool ⟨.bl b,H,I,rfl,h⟩
theorem pe_non {j pos}:PE X (.Constant .none j pos) (tC .non):=fun _ _ _ H _ I h=>Constant_none ⟨.non,H,I,rfl,h⟩
theorem pe_str {x j pos}:PE X (.Constant (.str x) j pos) (tC (.str x)):=fun _ _ _ H _ I h=>Calls.Constant_str ⟨.str x,H,I.tok _,⟨_,rfl⟩,h⟩
def Gl (X:Cx) (x:Str):Prop:=X.env.kindOf x=some .globalImplicit
theorem ld_glob {E:Value→Shared→Prop} {pins:List (Addr × Obj)} {s:Shared} {σ:St} {H:Hp} {x:Str} {u:Value} {pos:Pos} {Q:Value→Shared→Prop} (I:Inv X pins σ H s) (hg:Gl X x) (hm:X.mg x=some u) (h:Q u s)
  (hd:(x == ("__debug__" : Str))=false:=by decide):wpAny (model X.prog X.w) X.A (eval (.Name x pos) X.env) Q E s:=
 Calls.Name_function_global I.ok.kind hg (Calls.loadGlobal_global (by rw[I.ok.glob]; exact I.mod.glob.keeps I.bk) hm h) hd
theorem ld_blt {E:Value→Shared→Prop} {pins:List (Addr × Obj)} {s:Shared} {σ:St} {H:Hp} {x:Str} {u:Value} {pos:Pos} {Q:Value→Shared→Prop} (I:Inv X pins σ H s) (hg:Gl X x) (hm:X.mg x=none) (hv:bootBuiltins x=some u) (h:Q u s)
  (hn:x≠"__name__" :=by decide) (hd:(x == ("__debug__" : Str))=false:=by decide):wpAny (model X.prog X.w) X.A (eval (.Name x pos) X.env) Q E s:=by
 obtain⟨mb,h1,h2⟩:=I.mod.blt
 exact Calls.Name_function_global I.ok.kind hg (Calls.loadGlobal_builtin (by rw[I.ok.glob]; exact I.mod.glob.keeps I.bk) hm (by rw[I.ok.blt]; exact h1.keeps I.bk) ((h2 x hn).trans hv) h) hd
theorem pe_glob {x:Str} {v:V} {u:Value} {pos:Pos} (hg:Gl X x) (hm:X.mg x=some u) (r:RelV v u) (hd:(x == ("__debug__" : Str))=false:=by decide):PE X (.Name x pos) (tC v):=
 fun _ _ _ H _ I h=>ld_glob I hg hm ⟨v,H,I,r,h⟩ hd
theorem pe_bltn {x:Str} {v:V} {u:Value} {pos:Pos} (hg:Gl X x) (hm:X.mg x=none) (hv:bootBuiltins x=some u) (r:RelV v u) (hn:x≠"__name__" :=by decide) (hd:(x == ("__debug__" : Str))=false:=by decide):PE X (.Name x pos) (tC v):=
 fun _ _ _ H _ I h=>ld_blt I hg hm hv ⟨v,H,I,r,h⟩ hn hd
variable {a b:Expr} {ta tb:TE} {pos:Pos}
def PC (X:Cx) (op:CmpOp) (a b:Expr) (t:TE):Prop:=
 ∀ (pins:List (Addr × Obj)) (s:Shared) (σ:St) (H:Hp) (Q:VK),Inv X pins σ H s→t σ H Q →
  wpAny (model X.prog X.w) X.A (eval a X.env) (fun v s₁=>wpAny (model X.prog X.w) X.A (eval b X.env) (fun u s₂=>wpAny (model X.prog X.w) X.A (compareOp op v u) (EP X pins σ Q) X.xe s₂) X.xe s₁) X.xe s
theorem nobehind (b:Expr) {op:CmpOp} (h:op≠.In) (h2:op≠.NotIn):behindInMarks op b=false:=by
 have e1:(op == CmpOp.In)=false:=by cases op <;> first | rfl | exact absurd rfl h
 have e2:(op == CmpOp.NotIn)=false:=by cases op <;> first | rfl | exact absurd rfl h2
 cases b <;> simp[behindInMarks,e1,e2]
def tIsN (ta:TE):TE:=fun σ H Q=>ta σ H fun x H1=>Q (.bl (decide (x = .non))) H1
def tNotN (ta:TE):TE:=fun σ H Q=>ta σ H fun x H1=>Q (.bl (!decide (x = .non))) H1
theorem RelV.none_iff {x:V} {v:Value} (r:RelV x v):(v == Value.none)=decide (x = .non):=by
 cases x with
 | non=>cases r; rfl
 | bl _=>cases r; rfl
 | int _=>obtain⟨t,rfl⟩:=r; rfl
 | str _=>obtain⟨t,rfl⟩:=r; rfl
 | byt _=>obtain⟨t,rfl⟩:=r; rfl
 | flt _=>obtain⟨t,rfl⟩:=r; rfl
 | ref _=>cases r; rfl
 | ty _=>cases r; rfl
theorem pc_isN {j pos'} (ha:PE X a ta):PC X .Is a (.Constant .none j pos') (tIsN ta):=by
 intro pins s σ H Q I h
 refine thn (ha pins s σ H _ I h) fun v s1 ⟨x,H1,I1,r1,q1⟩=>?_
 exact Constant_none (is_none_gen ⟨.bl _,H1,I1,by rw[r1.none_iff]; rfl,q1⟩)
theorem pc_notN {j pos'} (ha:PE X a ta):PC X .IsNot a (.Constant .none j pos') (tNotN ta):=by
 intro pins s σ H Q I h
 refine thn (ha pins s σ H _ I h) fun v s1 ⟨x,H1,I1,r1,q1⟩=>?_
 exact Constant_none (isnot_none_gen ⟨.bl _,H1,I1,by rw[r1.none_iff]; rfl,q1⟩)
def tB (t:TE):TT:=fun σ H Q=>t σ H fun x H1=>∃ c,x = .bl c∧Q c H1
theorem pt_cmp {op:CmpOp} {t:TE} (h:PC X op a b t) (h1:behindInMarks op b=false:=by first | exact nobehind _ (by decide) (by decide) | rfl):PT X (.Compare a [op] [b] pos) (tB t):=by
 intro pins s σ H Q I hw
 refine wpAny_isTrue_Compare1 (thn (h pins s σ H _ I hw) fun v s1 h1=>thn h1 fun u s2 h2=>thn h2 fun c s3 ⟨x,H1,I1,r1,q1⟩=>?_) h1
 obtain⟨d,rfl,q⟩:=q1
 cases r1
 exact wpAny_truthy_bool ⟨H1,I1,q⟩
theorem pt_val {e:Expr} {t:TE} (h:PE X e t) (he:∀ whole,isTrue e X.env whole=(do let v ← whole; standAt e.pos; holding [v] (truthy v)):=by intro _; rfl):PT X e (tB t):=by
 intro pins s σ H Q I hw
 refine isTrue_plain (thn (h pins s σ H _ I hw) fun v s1 ⟨x,H1,I1,r1,q1⟩=>?_) (he _)
 obtain⟨d,rfl,q⟩:=q1
 cases r1
 exact wpAny_truthy_bool ⟨H1,I1,q⟩
variable {tA tB':TT} {rest:List Expr}
def tAnd (t u:TT):TT:=fun σ H Q=>t σ H fun c H1=>if c=true then u σ H1 Q else Q false H1
def tOr (t u:TT):TT:=fun σ H Q=>t σ H fun c H1=>if c=true then Q true H1 else u σ H1 Q
def tNot (t:TT):TT:=fun σ H Q=>t σ H fun c H1=>Q (!c) H1
theorem pw_and1 (ha:PT X a tA):PW X (.BoolOp .And [a] pos) tA:=by
 intro wh pins s σ H Q I h
 refine isTrue_and (thn (ha pins s σ H Q I h) fun c s1 e=>?_)
 cases c with
 | true=>exact isTrue_and_nil e
 | false=>exact e
theorem pw_or1 (ha:PT X a tA):PW X (.BoolOp .Or [a] pos) tA:=by
 intro wh pins s σ H Q I h
 refine isTrue_or (thn (ha pins s σ H Q I h) fun c s1 e=>?_)
 cases c with
 | false=>exact isTrue_or_nil e
 | true=>exact e
theorem pw_and (ha:PT X a tA) (hb:PW X (.BoolOp .And (b :: rest) pos) tB'):PW X (.BoolOp .And (a :: b :: rest) pos) (tAnd tA tB'):=by
 intro wh pins s σ H Q I h
 refine isTrue_and (thn (ha pins s σ H _ I h) fun c s1 ⟨H1,I1,q1⟩=>?_)
 cases c with
 | true=>exact hb wh pins s1 σ H1 Q I1 q1
 | false=>exact⟨H1,I1,q1⟩
theorem pw_or (ha:PT X a tA) (hb:PW X (.BoolOp .Or (b :: rest) pos) tB'):PW X (.BoolOp .Or (a :: b :: rest) pos) (tOr tA tB'):=by
 intro wh pins s σ H Q I h
 refine isTrue_or (thn (ha pins s σ H _ I h) fun c s1 ⟨H1,I1,q1⟩=>?_)
 cases c with
 | true=>exact⟨H1,I1,q1⟩
 | false=>exact hb wh pins s1 σ H1 Q I1 q1
theorem pt_not (ha:PT X a tA):PT X (.UnaryOp .Not a pos) (tNot tA):=by
 intro pins s σ H Q I h
 exact isTrue_not (ha pins s σ H (fun c H1=>Q (!c) H1) I h)
def tAndV (ta tb:TE):TE:=fun σ H Q=>ta σ H fun x H1=>∃ c,x = .bl c∧if c=true then tb σ H1 Q else Q (.bl false) H1
def tOrV (ta tb:TE):TE:=fun σ H Q=>ta σ H fun x H1=>∃ c,x = .bl c∧if c=true then Q (.bl true) H1 else tb σ H1 Q
def tNotV (ta:TE):TE:=fun σ H Q=>ta σ H fun x H1=>∃ c,x = .bl c∧Q (.bl (!c)) H1
theorem pe_one {op} {t:TE} (h:PE X a t):PE X (.BoolOp op [a] pos) t:=fun pins s σ H Q I hw=>BoolOp_one (h pins s σ H Q I hw)
theorem pe_and (ha:PE X a ta) (hb:PE X (.BoolOp .And (b :: rest) pos) tb):PE X (.BoolOp .And (a :: b :: rest) pos) (tAndV ta tb):=by
 intro pins s σ H Q I h
 refine BoolOp_and (thn (ha pins s σ H _ I h) fun v s1 ⟨x,H1,I1,r1,q1⟩=>?_)
 obtain⟨c,rfl,q1⟩:=q1
 cases r1
 refine wpAny_truthy_bool ?_
 cases c with
 | true=>exact hb pins s1 σ H1 Q I1 q1
 | false=>exact⟨.bl false,H1,I1,rfl,q1⟩
theorem pe_or (ha:PE X a ta) (hb:PE X (.BoolOp .Or (b :: rest) pos) tb):PE X (.BoolOp .Or (a :: b :: rest) pos) (tOrV ta tb):=by
 intro pins s σ H Q I h
 refine BoolOp_or (thn (ha pins s σ H _ I h) fun v s1 ⟨x,H1,I1,r1,q1⟩=>?_)
 obtain⟨c,rfl,q1⟩:=q1
 cases r1
 refine wpAny_truthy_bool ?_
 cases c with
 | false=>exact hb pins s1 σ H1 Q I1 q1
 | true=>exact⟨.bl true,H1,I1,rfl,q1⟩
theorem pe_not (ha:PE X a ta):PE X (.UnaryOp .Not a pos) (tNotV ta):=by
 intro pins s σ H Q I h
 refine UnaryOp_ (thn (ha pins s σ H _ I h) fun v s1 ⟨x,H1,I1,r1,q1⟩=>?_)
 obtain⟨c,rfl,q1⟩:=q1
 cases r1
 exact not_of (wpAny_truthy_bool ⟨.bl (!c),H1,I1,rfl,q1⟩)
end
end L2
namespace L2
open PySem PySem.Spec PyProof.Rows
def SqL (K:PySem.W.Frag) (H:Hp) (a:Addr) (xs:List V):Prop:=
 Rd H a (.lst xs) ∨
  ∃ (o:Obj) (its:Array Value) (n:Nat),K.lookup a=some o∧o.cls = .type "list"∧o.dict=none∧o.data = .seq its n∧its.size≤sizeLine∧Vals xs its.toList
def SqT (K:PySem.W.Frag) (H:Hp) (a:Addr) (xs:List V):Prop:=
 Rd H a (.tup xs) ∨
  ∃ (o:Obj) (its:Array Value) (n:Nat),K.lookup a=some o∧o.cls = .type "tuple"∧o.data = .seq its n∧its.size≤sizeLine∧Vals xs its.toList
def absV:Value→Option V
 | .none=>some .non
 | .bool b=>some (.bl b)
 | .int i _=>some (.int i)
 | .str x _=>some (.str x)
 | .bytes b _=>some (.byt b)
 | .float b _=>some (.flt b)
 | .ref a=>some (.ref a)
 | .type n=>some (.ty n)
 | _=>none
theorem RelV.abs {x:V} {u:Value} (r:RelV x u):absV u=some x:=by
 cases x with
 | non=>cases r; rfl
 | bl _=>cases r; rfl
 | int _=>obtain⟨t,rfl⟩:=r; rfl
 | str _=>obtain⟨t,rfl⟩:=r; rfl
 | byt _=>obtain⟨t,rfl⟩:=r; rfl
 | flt _=>obtain⟨t,rfl⟩:=r; rfl
 | ref _=>cases r; rfl
 | ty _=>cases r; rfl
theorem RelV.inj {x y:V} {u:Value} (r:RelV x u) (q:RelV y u):x=y:=Option.some.inj (r.abs.symm.trans q.abs)
theorem Vals.inj:∀ {xs ys:List V} {us:List Value},Vals xs us→Vals ys us→xs=ys
 | _,_,_,.nil,.nil=>rfl
 | _,_,_,.cons r t,.cons r' t'=>by rw[r.inj r',Vals.inj t t']
section
variable {X:Cx} {pins:List (Addr × Obj)} {σ:St} {H:Hp} {s:Shared} {a:Addr} {xs ys:List V}
theorem SqL.of {K:PySem.W.Frag} (h:H a=some (.lst xs)):SqL K H a xs:=.inl (.inl h)
theorem SqT.of {K:PySem.W.Frag} (h:H a=some (.tup xs)):SqT K H a xs:=.inl (.inl h)
theorem Inv.list (I:Inv X pins σ H s) (h:SqL X.K H a xs):∃ its:List Value,Vals xs its∧PlainL s.heap a its.toArray∧xs.length≤sizeLine:=by
 rcases h with h | ⟨o,its,n,hk,hc,hd,hs,hz,r⟩
 ·obtain⟨z,its,n,r,e⟩:=h.ok I.hok
  exact⟨its,r,⟨_,n,e,rfl,rfl,rfl⟩,z⟩
 ·refine⟨its.toList,r,⟨o,n,I.kIn a o hk,hc,hd,by simpa using hs⟩,?_⟩
  have e:=r.length
  simp only [Array.length_toList] at e
  omega
theorem Inv.tuple (I:Inv X pins σ H s) (h:SqT X.K H a xs):∃ its:List Value,Vals xs its∧IsTup s.heap a its.toArray∧xs.length≤sizeLine:=by
 rcases h with h | ⟨o,its,n,hk,hc,hs,hz,r⟩
 ·obtain⟨z,its,r,p⟩:=h.ok I.hok
  exact⟨its,r,p,z⟩
 ·refine⟨its.toList,r,⟨o,I.kIn a o hk,hc,n,by simpa using hs⟩,?_⟩
  have e:=r.length
  simp only [Array.length_toList] at e
  omega
theorem Inv.list_inj (I:Inv X pins σ H s) (h:SqL X.K H a xs) (h':SqL X.K H a ys):xs=ys:=by
 obtain⟨its,r,⟨o,n,e,_,_,d⟩,_⟩:=I.list h
 obtain⟨its',r',⟨o',n',e',_,_,d'⟩,_⟩:=I.list h'
 rw[e] at e'; cases e'
 rw[d] at d'
 injection d' with d1 _
 have:its=its':=by simpa using congrArg Array.toList d1
 subst this
 exact r.inj r'
theorem Inv.tuple_inj (I:Inv X pins σ H s) (h:SqT X.K H a xs) (h':SqT X.K H a ys):xs=ys:=by
 obtain⟨its,r,⟨o,e,_,n,d⟩,_⟩:=I.tuple h
 obtain⟨its',r',⟨o',e',_,n',d'⟩,_⟩:=I.tuple h'
 rw[e] at e'; cases e'
 rw[d] at d'
 injection d' with d1 _
 have:its=its':=by simpa using congrArg Array.toList d1
 subst this
 exact r.inj r'
end
abbrev Cx.wish (X:Cx) (E:Value→Shared→Prop):Cx:={ X with xe:=E }
abbrev Cx.nox (X:Cx):Cx:=X.wish fun _ _=>False
theorem Cx.Ok.wish {X:Cx} (ok:X.Ok) (E:Value→Shared→Prop):(X.wish E).Ok:=
 ⟨ok.mod,ok.kind,ok.glob,ok.blt,ok.above,ok.inj,ok.has,ok.cab,ok.hd,ok.frames,ok.stk,ok.exf,ok.bs,ok.bsz,ok.noex,ok.exfs,ok.funs,ok.frf⟩
theorem Cx.Ok.unwish {X:Cx} {E:Value→Shared→Prop} (ok:(X.wish E).Ok):X.Ok:=
 ⟨ok.mod,ok.kind,ok.glob,ok.blt,ok.above,ok.inj,ok.has,ok.cab,ok.hd,ok.frames,ok.stk,ok.exf,ok.bs,ok.bsz,ok.noex,ok.exfs,ok.funs,ok.frf⟩
section
variable {X:Cx} {pins:List (Addr × Obj)} {σ:St} {H:Hp} {s:Shared} {E:Value→Shared→Prop}
theorem Inv.wish (I:Inv X pins σ H s) (E:Value→Shared→Prop):Inv (X.wish E) pins σ H s:=⟨I.ok.wish E,I.os,I.bare,I.base,I.loc,I.cell,I.free,I.freeC,I.pin,I.hok,I.len⟩
theorem Inv.unwish (I:Inv (X.wish E) pins σ H s):Inv X pins σ H s:=⟨I.ok.unwish,I.os,I.bare,I.base,I.loc,I.cell,I.free,I.freeC,I.pin,I.hok,I.len⟩
theorem SP.unwish {D:Ends} {f:Flow} {s':Shared} (h:SP (X.wish E) pins D f s'):SP X pins D f s':=by
 cases f with
 | next=>obtain⟨σ',H',I,q⟩:=h; exact⟨σ',H',I.unwish,q⟩
 | brk=>obtain⟨σ',H',I,q⟩:=h; exact⟨σ',H',I.unwish,q⟩
 | cont=>obtain⟨σ',H',I,q⟩:=h; exact⟨σ',H',I.unwish,q⟩
 | ret u=>obtain⟨v,σ',H',I,r,q⟩:=h; exact⟨v,σ',H',I.unwish,r,q⟩
theorem PSs.nox {st:List Stmt} {t:TS} (h:PSs X.nox st t):PSs X st t:=fun pins s σ H D I hw=>
 wpAny_mono (h pins s σ H D (I.wish _) hw) (fun _ _ q=>q.unwish) fun _ _ z=>False.elim z
end
section
variable {X:Cx} {st:Stmt} {rest:List Stmt} {t u:TS} {e:Expr} {te:TE} {pos:Pos}
def tNext:TS:=fun D σ H=>D.nx σ H
def tSeq (t u:TS):TS:=fun D σ H=>t { D with nx:=u D } σ H
theorem pss_nil:PSs X [] tNext:=fun _ _ σ H _ I h=>wpAny_execs_nil ⟨σ,H,I,h⟩
theorem pss_cons (h1:PS X st t) (h2:PSs X rest u):PSs X (st :: rest) (tSeq t u):=by
 intro pins s σ H D I h
 refine wpAny_execs_cons (thn (h1 pins s σ H { D with nx:=u D } I h) fun f s1 q=>?_)
 cases f with
 | next=>
  obtain⟨σ',H',I',q⟩:=q
  exact h2 pins s1 σ' H' D I' q
 | ret v=>exact q
 | brk=>exact q
 | cont=>exact q
theorem pss_one (h1:PS X st t):PSs X [st] t:=by
 intro pins s σ H D I h
 refine wpAny_execs_cons (thn (h1 pins s σ H D I h) fun f s1 q=>?_)
 cases f with
 | next=>exact wpAny_execs_nil q
 | ret v=>exact q
 | brk=>exact q
 | cont=>exact q
theorem Inv.quiet {pins:List (Addr × Obj)} {σ:St} {H:Hp} {s:Shared} (I:Inv X pins σ H s):interactive X.env=false:=by simp[interactive,I.ok.kind]
def tDrop (te:TE):TS:=fun D σ H=>te σ H fun _ H1=>D.nx σ H1
theorem ps_expr (he:PE X e te) (hs:swapsWith e none pos.line X.env=pure false:=by rfl):PS X (.Expr e pos) (tDrop te):=by
 intro pins s σ H D I h
 exact wpAny_Expr_any (thn (he pins s σ H _ I h) fun v s1 ⟨x,H1,I1,r1,q1⟩=>⟨σ,H1,I1,q1⟩) I.quiet hs
def tRet (te:TE):TS:=fun D σ H=>te σ H D.rt
theorem ps_ret (he:PE X e te):PS X (.Return (some e) pos) (tRet te):=by
 intro pins s σ H D I h
 exact wpAny_Return_some (thn (he pins s σ H _ I h) fun v s1 ⟨x,H1,I1,r1,q1⟩=>⟨x,σ,H1,I1,r1,q1⟩)
def tIfS (c:TT) (t u:TS):TS:=fun D σ H=>c σ H fun b H1=>if b=true then t D σ H1 else u D σ H1
theorem ps_if {c:Expr} {a b:List Stmt} {tc:TT} (hc:PT X c tc) (ha:PSs X a t) (hb:PSs X b u):PS X (.If c a b pos) (tIfS tc t u):=by
 intro pins s σ H D I h
 refine wpAny_If (thn (hc pins s σ H _ I h) fun d s1 ⟨H1,I1,q1⟩=>?_)
 cases d with
 | true=>exact ha pins s1 σ H1 D I1 q1
 | false=>exact hb pins s1 σ H1 D I1 q1
end
abbrev TG:=V→St→Hp→(St→Hp→Prop)→Prop
abbrev TGs:=List V→St→Hp→(St→Hp→Prop)→Prop
def PG (X:Cx) (target:Expr) (t:TG):Prop:=
 ∀ (pins:List (Addr × Obj)) (s:Shared) (σ:St) (H:Hp) (v:V) (u:Value) (Q:St→Hp→Prop),Inv X pins σ H s→RelV v u→t v σ H Q →
  wpAny (model X.prog X.w) X.A (assign target X.env u) (fun _ s'=>∃ σ' H',Inv X pins σ' H' s'∧Q σ' H') X.xe s
def PGs (X:Cx) (ts:List Expr) (t:TGs):Prop:=
 ∀ (pins:List (Addr × Obj)) (s:Shared) (σ:St) (H:Hp) (vs:List V) (us:List Value) (Q:St→Hp→Prop),Inv X pins σ H s→Vals vs us→t vs σ H Q →
  wpAny (model X.prog X.w) X.A (assignInOrder ((assignEach ts X.env).map (·.2)) us) (fun _ s'=>∃ σ' H',Inv X pins σ' H' s'∧Q σ' H') X.xe s
abbrev TSet:=V→V→V→Hp→(Hp→Prop)→Prop
def PSet (X:Cx) (t:TSet):Prop:=
 ∀ (pins:List (Addr × Obj)) (s:Shared) (σ:St) (H:Hp) (o i v:V) (ov iv u:Value) (Q:Hp→Prop),Inv X pins σ H s→RelV o ov→RelV i iv→RelV v u→t o i v H Q →
  wpAny (model X.prog X.w) X.A (setItem ov iv u) (fun _ s'=>∃ H',Inv X pins σ H' s'∧Q H') X.xe s
section
variable {X:Cx} {pos:Pos}
def gName (i:Nat):TG:=fun v σ H Q=>Q (σ.set i (some v)) H
theorem pg_name {i:Nat} {x:Str} (hN:X.N.Nodup) (hi:X.N[i]? = some x) (hx:Loc X.env.scope x) (hf:X.fn x=true∨X.env.scope.names.lookup x=some .local:=by first | exact .inl rfl | exact .inr rfl | assumption):PG X (.Name x pos) (gName i):=by
 intro pins s σ H v u Q I r h
 exact wpAny_assign_Name (store_ok I hN hi hx r (fun s' I'=>⟨_,H,I',h⟩) hf)
def gNil:TGs:=fun vs σ H Q=>vs=[]∧Q σ H
def gCons (t:TG) (u:TGs):TGs:=fun vs σ H Q=>∃ v r,vs=v :: r∧t v σ H fun σ' H'=>u r σ' H' Q
theorem pgs_nil:PGs X [] gNil:=by
 intro pins s σ H vs us Q I r h
 obtain⟨e,h⟩:=h
 subst e
 cases r
 exact assignInOrder_nil ⟨σ,H,I,h⟩
theorem pgs_cons {e:Expr} {es:List Expr} {t:TG} {u:TGs} (h1:PG X e t) (h2:PGs X es u)
  (hs:(assignEach (e :: es) X.env).map (·.2)=assign e X.env :: (assignEach es X.env).map (·.2):=by rfl):PGs X (e :: es) (gCons t u):=by
 intro pins s σ H vs us Q I r h
 obtain⟨v,vr,e1,h⟩:=h
 subst e1
 cases r with
 | cons r rr=>
  rw[hs]
  refine assignInOrder_cons (thn (h1 pins s σ H _ _ _ I r h) fun _ s1 ⟨σ1,H1,I1,q1⟩=>?_)
  exact h2 pins s1 σ1 H1 _ _ Q I1 rr q1
def gTup (K:PySem.W.Frag) (n:Nat) (t:TGs):TG:=fun v σ H Q=>∃ a xs,v = .ref a∧SqT K H a xs∧xs.length=n∧t xs σ H Q
theorem pg_tup {es:List Expr} {k:Nat} {t:TGs} {n:Nat} (hc:X.calm=true) (h:PGs X es t)
  (hn:(assignEach es X.env).length=n:=by rfl) (hst:(assignEach es X.env).findIdx? (·.1)=none:=by rfl):PG X (.Tuple es k pos) (gTup X.K n t):=by
 intro pins s σ H v u Q I r hw
 obtain⟨a,xs,e1,hq,hl,hw⟩:=hw
 subst e1
 cases r
 obtain⟨its,rv,ht,hz⟩:=I.tuple hq
 refine assign_Tuple_tuple (I.ok.hd hc) ht (by simp[hn,← hl,rv.length]) hst fun h' hx=>?_
 have I1:Inv X pins σ H { s with heap:=h' }:=I.kept (t':=s.toks) fun b o e=>hx b o (Nat.ne_of_lt (Heap.lt_size e)) e
 exact h pins _ σ H xs _ Q I1 (by simpa using rv) hw
def gSub (to ti:TE) (t:TSet):TG:=fun v σ H Q=>to σ H fun o H1=>ti σ H1 fun i H2=>t o i v H2 fun H3=>Q σ H3
theorem pg_sub {o i:Expr} {to ti:TE} {t:TSet} (ho:PE X o to) (hi:PE X i ti) (hs:PSet X t)
  (ha:∀ v,assign (.Subscript o i pos) X.env v=(do
   let ov ← holding [v] (eval o X.env)
   let iv ← holding [v,ov] (eval i X.env)
   standAt pos
   holding [v,ov,iv] (setItem ov iv v)
   release [v,ov,iv] []):=by intro _; rfl):PG X (.Subscript o i pos) (gSub to ti t):=by
 intro pins s σ H v u Q I r h
 rw[ha]
 refine wpAny_bind (wpAny_holding (thn (ho pins s σ H _ I h) fun ov s1 ⟨x,H1,I1,r1,q1⟩=>?_))
 refine wpAny_bind (wpAny_holding (thn (hi pins s1 σ H1 _ I1 q1) fun iv s2 ⟨y,H2,I2,r2,q2⟩=>?_))
 refine wpAny_bind (wpAny_standAt (wpAny_bind (wpAny_holding (thn (hs pins s2 σ H2 x y v ov iv u _ I2 r1 r2 r q2) fun _ s3 ⟨H3,I3,q3⟩=>?_))))
 exact wpAny_release ⟨σ,H3,I3,q3⟩
def tAsg (te:TE) (g:TG):TS:=fun D σ H=>te σ H fun x H1=>g x σ H1 D.nx
theorem ps_asg {tg e:Expr} {te:TE} {g:TG} (he:PE X e te) (hg:PG X tg g) (hs:swapsWithSole [tg] e pos.line X.env=pure false:=by rfl) (hw:swappedStores [tg] e X.env=pure none:=by rfl)
  (h1:(assignEach [tg] X.env).map (·.2)=[assign tg X.env]:=by rfl):PS X (.Assign [tg] e pos) (tAsg te g):=by
 intro pins s σ H D I h
 refine wpAny_Assign_stores (thn (he pins s σ H _ I h) fun v s1 ⟨x,H1,I1,r1,q1⟩=>?_) hs hw
 rw[h1]
 exact thn (hg pins s1 σ H1 x v _ I1 r1 q1) fun _ s2 q=>q
theorem ps_set {i:Nat} {x:Str} {e:Expr} {te:TE} {pos':Pos} (hN:X.N.Nodup) (hi:X.N[i]? = some x) (hx:Loc X.env.scope x) (he:PE X e te) (hs:swapsWith e (some (.Name x pos')) pos.line X.env=pure false:=by rfl) (hf:X.fn x=true∨X.env.scope.names.lookup x=some .local:=by first | exact .inl rfl | exact .inr rfl | assumption) :
  PS X (.Assign [.Name x pos'] e pos) (tAsg te (gName i)):=by
 intro pins s σ H D I h
 refine wpAny_Assign_Name (thn (he pins s σ H _ I h) fun v s1 ⟨y,H1,I1,r1,q1⟩=>?_) hs
 exact store_ok I1 hN hi hx r1 (fun s2 I2=>⟨_,H1,I2,q1⟩) hf
end
section
variable {X:Cx} {pos:Pos}
def tWhile (c:TT) (tb:TS):TS:=fun D σ H=>∃ W:Nat→St→Hp→Prop,(∃ m,W m σ H)∧∀ m σ H,W m σ H →
 c σ H fun b H1=>if b=true then ∃ N:St→Hp→Prop,(∀ σ' H',N σ' H'→∃ m',m'<m∧W m' σ' H')∧tb { D with nx:=N,ct:=N,bk:=D.nx } σ H1 else D.nx σ H1
theorem ps_while {c:Expr} {body:List Stmt} {tc:TT} {tb:TS} (hp:PassesOwn (model X.prog X.w) X.A X.env X.xe) (hc:PT X c tc) (hb:PSs X body tb):PS X (.While c body [] pos) (tWhile tc tb):=by
 intro pins s σ H D I h
 obtain⟨W,⟨m0,w0⟩,turn⟩:=h
 refine wpAny_While (codeAny_whileLoop (fun n s'=>∃ σ' H',Inv X pins σ' H' s'∧W n σ' H') ?_ m0 ⟨σ,H,I,w0⟩)
 rintro n s1 ⟨σ1,H1,I1,w1⟩
 refine wpAny_passesOwn hp (thn (hc pins s1 σ1 H1 _ I1 (turn n σ1 H1 w1)) fun b s2 ⟨H2,I2,q2⟩=>?_)
 cases b with
 | true=>
  obtain⟨N,hN,q2⟩:=q2
  rw[if_pos rfl]
  refine wpAny_passesOwn hp (thn (hb pins s2 σ1 H2 _ I2 q2) fun f s3 q3=>?_)
  cases f with
  | next=>
   obtain⟨σ3,H3,I3,n3⟩:=q3
   obtain⟨m',hm,w3⟩:=hN σ3 H3 n3
   exact⟨m',hm,σ3,H3,I3,w3⟩
  | cont=>
   obtain⟨σ3,H3,I3,n3⟩:=q3
   obtain⟨m',hm,w3⟩:=hN σ3 H3 n3
   exact⟨m',hm,σ3,H3,I3,w3⟩
  | brk=>exact q3
  | ret v=>exact q3
 | false=>
  rw[if_neg Bool.false_ne_true]
  exact wpAny_execs_nil ⟨σ1,H2,I2,q2⟩
end
structure It where
 go:Nat→Hp→Prop
 yld:Nat→Hp→V→Hp→Prop
 stop:Nat→Hp→Prop
def FpOk (X:Cx) (pins:List (Addr × Obj)) (H:Hp) (b:Addr):Prop:=
 H b=none∧b≠X.env.locals∧b∉X.fs∧(b∈X.ex∨X.s₀.heap.objs.size≤b)∧(∀ x c,X.env.cells.lookup x=some c→c≠b)∧∀ p∈X.pn++pins,p.1≠b
theorem Inv.fpOk {X:Cx} {pins:List (Addr × Obj)} {σ:St} {H H':Hp} {s:Shared} {b:Addr} (I:Inv X pins σ H s) (hb:s.heap.objs.size≤b) (hn:H' b=none):FpOk X pins H' b:=by
 refine⟨hn,Nat.ne_of_gt (Nat.lt_of_lt_of_le I.lt hb),I.nofs hb,.inr (Nat.le_trans I.sz hb),fun x c e z=>?_,fun p hp z=>?_⟩
 ·obtain⟨v,q⟩:=I.cell x c e
  exact absurd (Nat.lt_of_lt_of_le q.lt (by rw[z]; exact hb)) (Nat.lt_irrefl _)
 ·exact absurd (Nat.lt_of_lt_of_le (Heap.lt_size (I.pin p hp).1) (by rw[z]; exact hb)) (Nat.lt_irrefl _)
structure Turn (P:Program) (w:World) (K:PySem.W.Frag) (tg:Expr) (J:It) (fp:List Addr) (it:Addr) (tn:Nat→Heap→Prop):Prop where
 mem:it∈fp
 obj:∀ i h,tn i h→∀ b∈fp,∃ o,h.get? b=some o∧∀ v,o.data≠.cell v
 keep:∀ i h h',tn i h→(∀ b∈fp,∀ o,h.get? b=some o→h'.get? b=some o)→tn i h'
 item:∀ (X:Cx),X.prog=P→X.w=w→X.K=K→X.calm=true→∀ (i:Nat) (pins:List (Addr × Obj)) (s:Shared) (σ:St) (H:Hp) (E:Value→Shared→Prop),Inv X pins σ H s→(∀ b∈fp,FpOk X pins H b)→tn i s.heap→J.go i H →
  wpAny (model P w) X.A (pyNext (.ref it)) (fun r s1=>∃ u,r=some u ∧
   wpAny (model P w) X.A (letOwnedTupleGo tg (.ref it) u) (fun _ s2=>∃ x H',Inv X pins σ H' s2∧RelV x u∧J.yld i H x H'∧tn (i+1) s2.heap∧∀ b∈fp,H' b=none) E s1) E s
 done:∀ (X:Cx),X.prog=P→X.w=w→X.K=K→X.calm=true→∀ (i:Nat) (pins:List (Addr × Obj)) (s:Shared) (σ:St) (H:Hp) (E:Value→Shared→Prop),Inv X pins σ H s→(∀ b∈fp,FpOk X pins H b)→tn i s.heap→J.stop i H →
  wpAny (model P w) X.A (pyNext (.ref it)) (fun r s1=>r=none∧Inv X pins σ H s1) E s
 self:∀ (A:Around) (i:Nat) (s:Shared) (Q:Value→Shared→Prop) (E:Value→Shared→Prop),tn i s.heap→Q (.ref it) s→wpAny (model P w) A (pyIter (.ref it)) Q E s
abbrev TI:=St→Hp→(It→Hp→Prop)→Prop
def PIE (X:Cx) (pins:List (Addr × Obj)) (σ:St) (tg:Expr) (R:It→Hp→Prop) (itv:Value) (s2:Shared):Prop:=
 ∃ (it:Addr) (fp:List Addr) (tn:Nat→Heap→Prop) (J:It) (H':Hp),itv = .ref it∧Inv X pins σ H' s2∧Turn X.prog X.w X.K tg J fp it tn∧tn 0 s2.heap∧(∀ b∈fp,FpOk X pins H' b)∧R J H'
def PI (X:Cx) (tg iter:Expr) (wi:TI):Prop:=
 ∀ (pins:List (Addr × Obj)) (s:Shared) (σ:St) (H:Hp) (R:It→Hp→Prop),Inv X pins σ H s→wi σ H R →
  wpAny (model X.prog X.w) X.A (eval iter X.env) (fun v s1=>wpAny (model X.prog X.w) X.A (pyIter v) (PIE X pins σ tg R) X.xe s1) X.xe s
theorem go_of {M:Model} {A:Around} {E:Value→Shared→Prop} {s:Shared} {tg:Expr} {it:Addr} {u:Value} {o:Obj} {n:String} {vs:Array Value} {Q:Unit→Shared→Prop} (ho:s.heap.get? it=some o) (hc:o.cls = .type n) (hd:o.data = .fields vs)
    (hn:["enumerate","zip","dict_itemiterator","dict_reverseitemiterator","odict_iterator","itertools.zip_longest","itertools.pairwise"].contains n=false) (hQ:Q () s):wpAny M A (letOwnedTupleGo tg (.ref it) u) Q E s:=by
  unfold letOwnedTupleGo
  cases tg <;> first
    | exact wpAny_pure hQ
    | (cases u <;> first
        | exact wpAny_pure hQ
        | (refine wpAny_bind (wpAny_load ho ?_)
           rw[hc,hd]
           show wpAny M A (if (["enumerate","zip","dict_itemiterator","dict_reverseitemiterator","odict_iterator","itertools.zip_longest","itertools.pairwise"].contains n && vs[0]? == some (rawInt _))=true then _ else _) Q E s
           rw[if_neg (by intro h; rw[hn,Bool.false_and] at h; cases h)]
           exact wpAny_pure hQ))
def Itl (K:PySem.W.Frag) (a:Addr):It:=
 ⟨fun i H=>∃ xs x,SqL K H a xs∧xs[i]? = some x,fun i H x H'=>H'=H∧∀ xs,SqL K H a xs→xs[i]? = some x,fun i H=>∃ xs,SqL K H a xs∧xs.length≤i⟩
def Itt (K:PySem.W.Frag) (a:Addr):It:=
 ⟨fun i H=>∃ xs x,SqT K H a xs∧xs[i]? = some x,fun i H x H'=>H'=H∧∀ xs,SqT K H a xs→xs[i]? = some x,fun i H=>∃ xs,SqT K H a xs∧xs.length≤i⟩
def Itr (lo:Int) (n:Nat):It:=⟨fun i _=>i<n,fun i H x H'=>H'=H∧x = .int (lo+i),fun i _=>n≤i⟩
theorem turn_list {P:Program} {w:World} {K:PySem.W.Frag} {tg:Expr} (a it:Addr):Turn P w K tg (Itl K a) [it] it (fun i h=>h.IsListIter it a i) where
 mem:=by simp
 obj:=fun i h st b hb=>by
  have e:b=it:=by simpa using hb
  subst e
  obtain⟨o,e,c,d⟩:=st
  exact⟨o,e,fun v z=>by rw[d] at z; cases z⟩
 keep:=fun i h h' st k=>st.at fun o e=>k it (by simp) o e
 item:=by
  intro X hP hw hK hc i pins s σ H E I hf st hg
  subst hP hw hK
  obtain⟨xs,x,hq,hx⟩:=hg
  obtain⟨its,rv,p,hz⟩:=I.list hq
  obtain⟨u,hu,ru⟩:=rv.get hx
  obtain⟨f0,f1,f2,f3,f4,f5⟩:=hf it (by simp)
  refine wpAny_pyNext_list_item st p.isList (x:=u) (by simpa using hu) fun h' st' sb=>?_
  have I1:Inv X pins σ H { s with heap:=h' }:=I.turned (t':=s.toks) (fun b o hb e=>(sb.2 b hb).trans e) f0 f1 f3 f4 f5
  obtain⟨o,e,c,d⟩:=id st'
  exact⟨u,rfl,go_of (s:={ s with heap:=h' }) e c d (by decide) ⟨x,H,I1,ru,⟨rfl,fun ys hy=>by rw[I.list_inj hy hq]; exact hx⟩,st',fun b hb=>(hf b hb).1⟩⟩
 done:=by
  intro X hP hw hK hc i pins s σ H E I hf st hg
  subst hP hw hK
  obtain⟨xs,hq,hx⟩:=hg
  obtain⟨its,rv,p,hz⟩:=I.list hq
  obtain⟨f0,f1,f2,f3,f4,f5⟩:=hf it (by simp)
  have hl:=rv.length
  exact wpAny_pyNext_list_end (I.ok.hd hc) st p.isList (by simp; omega) fun h' eb=>⟨rfl,I.turned (t':=s.toks) (fun b o hb e=>eb b o hb e) f0 f1 f3 f4 f5⟩
 self:=fun _ _ _ _ _ st h=>wpAny_pyIter_listiter st h
theorem turn_tuple {P:Program} {w:World} {K:PySem.W.Frag} {tg:Expr} (a it:Addr):Turn P w K tg (Itt K a) [it] it (fun i h=>h.IsTupleIter it a i) where
 mem:=by simp
 obj:=fun i h st b hb=>by
  have e:b=it:=by simpa using hb
  subst e
  obtain⟨o,e,c,d⟩:=st
  exact⟨o,e,fun v z=>by rw[d] at z; cases z⟩
 keep:=fun i h h' st k=>st.at fun o e=>k it (by simp) o e
 item:=by
  intro X hP hw hK hc i pins s σ H E I hf st hg
  subst hP hw hK
  obtain⟨xs,x,hq,hx⟩:=hg
  obtain⟨its,rv,p,hz⟩:=I.tuple hq
  obtain⟨u,hu,ru⟩:=rv.get hx
  obtain⟨f0,f1,f2,f3,f4,f5⟩:=hf it (by simp)
  refine wpAny_pyNext_tuple_item st (show s.heap.IsTuple a its.toArray from p) (x:=u) (by simpa using hu) fun h' st' sb=>?_
  have I1:Inv X pins σ H { s with heap:=h' }:=I.turned (t':=s.toks) (fun b o hb e=>(sb.2 b hb).trans e) f0 f1 f3 f4 f5
  obtain⟨o,e,c,d⟩:=id st'
  exact⟨u,rfl,go_of (s:={ s with heap:=h' }) e c d (by decide) ⟨x,H,I1,ru,⟨rfl,fun ys hy=>by rw[I.tuple_inj hy hq]; exact hx⟩,st',fun b hb=>(hf b hb).1⟩⟩
 done:=by
  intro X hP hw hK hc i pins s σ H E I hf st hg
  subst hP hw hK
  obtain⟨xs,hq,hx⟩:=hg
  obtain⟨its,rv,p,hz⟩:=I.tuple hq
  obtain⟨f0,f1,f2,f3,f4,f5⟩:=hf it (by simp)
  have hl:=rv.length
  exact wpAny_pyNext_tuple_end (I.ok.hd hc) st (show s.heap.IsTuple a its.toArray from p) (by simp; omega) fun h' eb=>⟨rfl,I.turned (t':=s.toks) (fun b o hb e=>eb b o hb e) f0 f1 f3 f4 f5⟩
 self:=fun _ _ _ _ _ st h=>wpAny_pyIter_tupleiter st h
theorem turn_range {P:Program} {w:World} {K:PySem.W.Frag} {tg:Expr} (it:Addr) (lo:Int) (n:Nat):Turn P w K tg (Itr lo n) [it] it (fun i h=>IsRangeIter h it (lo+(i:Nat)*1) ((n:Int)-(i:Nat)) 1) where
 mem:=by simp
 obj:=fun i h st b hb=>by
  have e:b=it:=by simpa using hb
  subst e
  exact⟨_,st,fun v z=>by
   have z':Data.fields _=Data.cell v:=z
   cases z'⟩
 keep:=fun i h h' st k=>k it (by simp) _ st
 item:=by
  intro X hP hw hK hc i pins s σ H E I hf st hg
  subst hP hw hK
  obtain⟨f0,f1,f2,f3,f4,f5⟩:=hf it (by simp)
  have W:=Walks.range (prog:=X.prog) (w:=X.w) (I.ok.hd hc) it lo 1 n
  refine W.item i s _ _ hg st fun v h' tk hv st' kk=>?_
  obtain⟨t,rfl⟩:=hv
  have I1:Inv X pins σ H { s with heap:=h',toks:=tk }:=I.turned (fun b o hb e=>kk b o (by simpa using hb) e) f0 f1 f3 f4 f5
  refine⟨_,rfl,go_of (s:={ s with heap:=h',toks:=tk }) (n:="range_iterator") st' rfl rfl (by decide) ⟨.int (lo+i),H,I1,⟨t,?_⟩,⟨rfl,rfl⟩,st',fun b hb=>(hf b hb).1⟩⟩
  rw[Int.mul_one]
 done:=by
  intro X hP hw hK hc i pins s σ H E I hf st hg
  subst hP hw hK
  obtain⟨f0,f1,f2,f3,f4,f5⟩:=hf it (by simp)
  exact wpAny_pyNext_range_end (I.ok.hd hc) st (by have:n≤i:=hg; omega) fun h' eb=>⟨rfl,I.turned (t':=s.toks) (fun b o hb e=>eb b o hb e) f0 f1 f3 f4 f5⟩
 self:=fun _ _ _ _ _ st h=>wpAny_pyIter_rangeiter st h
end L2
namespace L2
open PySem PySem.Spec PyProof.Rows
section
variable {X:Cx} {tg:Expr}
def iList (K:PySem.W.Frag) (tl:TE):TI:=fun σ H R=>tl σ H fun x H1=>∃ a,x = .ref a∧(∃ xs,SqL K H1 a xs)∧R (Itl K a) H1
def iTup (K:PySem.W.Frag) (tl:TE):TI:=fun σ H R=>tl σ H fun x H1=>∃ a,x = .ref a∧(∃ xs,SqT K H1 a xs)∧R (Itt K a) H1
theorem pi_list {l:Expr} {tl:TE} (hl:PE X l tl):PI X tg l (iList X.K tl):=by
 intro pins s σ H R I h
 refine thn (hl pins s σ H _ I h) fun v s1 ⟨x,H1,I1,r1,q1⟩=>?_
 obtain⟨a,e,⟨xs,hq⟩,q⟩:=q1
 subst e
 cases r1
 obtain⟨its,rv,p,hz⟩:=I1.list hq
 refine wpAny_pyIter_list p.isList ?_
 refine⟨s1.heap.objs.size,[s1.heap.objs.size],_,_,H1,rfl,I1.kept (t':=s1.toks) fun b o e=>Heap.get?_push_of_some _ e,turn_list a _,⟨_,Heap.get?_push_size _ rfl,rfl,rfl⟩,fun b hb=>?_,q⟩
 have e:b=s1.heap.objs.size:=by simpa using hb
 subst e
 exact I1.fpOk (Nat.le_refl _) (I1.hok.fresh (Nat.le_refl _))
theorem pi_tup {l:Expr} {tl:TE} (hl:PE X l tl):PI X tg l (iTup X.K tl):=by
 intro pins s σ H R I h
 refine thn (hl pins s σ H _ I h) fun v s1 ⟨x,H1,I1,r1,q1⟩=>?_
 obtain⟨a,e,⟨xs,hq⟩,q⟩:=q1
 subst e
 cases r1
 obtain⟨its,rv,p,hz⟩:=I1.tuple hq
 refine wpAny_pyIter_tuple (show s1.heap.IsTuple a its.toArray from p) ?_
 refine⟨s1.heap.objs.size,[s1.heap.objs.size],_,_,H1,rfl,I1.kept (t':=s1.toks) fun b o e=>Heap.get?_push_of_some _ e,turn_tuple a _,⟨_,Heap.get?_push_size _ rfl,rfl,rfl⟩,fun b hb=>?_,q⟩
 have e:b=s1.heap.objs.size:=by simpa using hb
 subst e
 exact I1.fpOk (Nat.le_refl _) (I1.hok.fresh (Nat.le_refl _))
theorem range_it {pins:List (Addr × Obj)} {σ:St} {H:Hp} {s:Shared} {R:It→Hp→Prop} {E:Value→Shared→Prop} {lo hi:Int} {t u v:Tok} {tk:Nat} (I:Inv X pins σ H s) (h1 : -(2 ^ 62)≤lo) (h2:lo<2 ^ 62) (h3 : -(2 ^ 62)≤hi) (h4:hi<2 ^ 62)
  (q:R (Itr lo (hi-lo).toNat) H):wpAny (model X.prog X.w) X.A (pyIter (.ref s.heap.objs.size)) (PIE X pins σ tg R) E { s with heap:=s.heap.push { cls:=.type "range",data:=.fields #[.int lo t,.int hi u,.int 1 v] },toks:=tk }:=by
 refine wpAny_pyIter_range (IsRange.new ..) (small_one h1 h2 h3 h4) ?_
 have I1:Inv X pins σ H { s with heap:=s.heap.push { cls:=.type "range",data:=.fields #[.int lo t,.int hi u,.int 1 v] },toks:=tk }:=I.kept fun b o e=>Heap.get?_push_of_some _ e
 refine⟨(s.heap.push { cls:=.type "range",data:=.fields #[.int lo t,.int hi u,.int 1 v] }).objs.size,[(s.heap.push { cls:=.type "range",data:=.fields #[.int lo t,.int hi u,.int 1 v] }).objs.size],_,_,H,rfl,
  I1.kept (t':=tk) fun b o e=>Heap.get?_push_of_some _ e,turn_range _ lo (hi-lo).toNat,?_,fun b hb=>?_,q⟩
 ·have e1:lo+((0:Nat):Int)*1=lo:=by simp
  have e2:(((hi-lo).toNat:Nat):Int)-((0:Nat):Int)=Builtin.Range.rangeSize lo hi 1:=by rw[rangeSize_one]; split <;> omega
  show IsRangeIter _ _ (lo+((0:Nat):Int)*1) ((((hi-lo).toNat:Nat):Int)-((0:Nat):Int)) 1
  rw[e1,e2]
  exact Heap.get?_push_size _ rfl
 ·have e:b=(s.heap.push { cls:=.type "range",data:=.fields #[.int lo t,.int hi u,.int 1 v] }).objs.size:=by simpa using hb
  subst e
  exact I1.fpOk (Nat.le_refl _) (I1.hok.fresh (Nat.le_refl _))
def iRng1 (ta:TA):TI:=fun σ H R=>ta σ H fun vs H1=>∃ j:Int,vs=[.int j]∧-(2 ^ 62)≤j∧j<2 ^ 62∧R (Itr 0 j.toNat) H1
theorem pi_range1 {a:Expr} {ta:TA} {p pos:Pos} (hg:Gl X "range") (hm:X.mg "range" = none) (ha:PA X [a] ta) (hs:starEach [a] X.env=[(false,eval a X.env)]:=by rfl):PI X tg (.Call (.Name "range" p) [a] [] pos) (iRng1 ta):=by
 intro pins s σ H R I h
 refine Call_ (ld_blt I hg hm boot_range (PyProof.Rows.callWith_type1 (thn (ha pos pins s σ H _ I h) fun us s1 ⟨vs,H1,I1,r1,q1⟩=>?_) hs rfl))
 obtain⟨j,e,q1,q2,q⟩:=q1
 subst e
 cases r1 with
 | cons r rr=>
  cases rr
  obtain⟨t,rfl⟩:=r
  exact call_range_1 (range_it I1 (by omega) (by omega) q1 q2 (by simpa using q))
def tFor (wi:TI) (g:TG) (tb:TS):TS:=fun D σ H=>wi σ H fun J H1=>∃ W:Nat→Nat→St→Hp→Prop,(∃ m,W 0 m σ H1)∧∀ i m σ H,W i m σ H →
 (J.stop i H∧D.nx σ H)∨(J.go i H∧∃ N:St→Hp→Prop,(∀ σ' H',N σ' H'→∃ m',m'<m∧W (i+1) m' σ' H')∧∀ x H',J.yld i H x H'→g x σ H' fun σ2 H2=>tb { D with nx:=N,ct:=N,bk:=D.nx } σ2 H2)
def pinsAt (fp:List Addr) (h:Heap):List (Addr × Obj):=fp.filterMap fun b=>(h.get? b).map fun o=>(b,o)
theorem mem_pinsAt {fp:List Addr} {h:Heap} {b:Addr} {o:Obj} (hb:b∈fp) (e:h.get? b=some o):(b,o)∈pinsAt fp h:=List.mem_filterMap.mpr ⟨b,hb,by rw[e]; rfl⟩
theorem of_pinsAt {fp:List Addr} {h:Heap} {p:Addr × Obj} (hp:p∈pinsAt fp h):p.1∈fp∧h.get? p.1=some p.2:=by
 obtain⟨b,hb,e⟩:=List.mem_filterMap.mp hp
 cases q:h.get? b with
 | none=>rw[q] at e; cases e
 | some o=>
  rw[q] at e
  have e':(b,o)=p:=Option.some.inj e
  subst e'
  exact⟨hb,q⟩
theorem Inv.pinned {pins:List (Addr × Obj)} {σ:St} {H:Hp} {s:Shared} {fp:List Addr} (I:Inv X pins σ H s) (hf:∀ b∈fp,FpOk X pins H b) (ho:∀ b∈fp,∃ o,s.heap.get? b=some o∧∀ v,o.data≠.cell v):Inv X (pins++pinsAt fp s.heap) σ H s:=
 I.pins_of fun p hp=>(List.mem_append.mp hp).elim (fun z=>I.pin p (List.mem_append_right _ z)) fun z=>by
  obtain⟨hb,e⟩:=of_pinsAt z
  obtain⟨f0,f1,f2,_⟩:=hf p.1 hb
  obtain⟨o,e',d⟩:=ho p.1 hb
  rw[e] at e'; cases e'
  exact⟨e,f0,f1,f2,d⟩
theorem Inv.unpinned {pins pl:List (Addr × Obj)} {σ:St} {H:Hp} {s:Shared} (I:Inv X (pins++pl) σ H s):Inv X pins σ H s:=I.pins_of fun p hp=>I.pin p (List.mem_append_right _ (List.mem_append_left _ hp))
theorem ps_for {iter:Expr} {body:List Stmt} {wi:TI} {g:TG} {tb:TS} {pos:Pos} (hp:PassesOwn (model X.prog X.w) X.A X.env X.xe) (hc:X.calm=true) (hi:PI X tg iter wi) (hg:PG X tg g) (hb:PSs X body tb)
  (hs:∀ x,foldedSetIterable iter X.env x=pure x:=by intro _; rfl):PS X (.For tg iter body [] pos) (tFor wi g tb):=by
 intro pins s σ H D I h
 refine wpAny_For (thn (hi pins s σ H _ I h) fun v s1 h1=>thn h1 fun itv s2 h2=>?_) hs
 obtain⟨it,fp,tn,J,H2,e,I2,T,st2,f2,W,⟨m0,w0⟩,turn⟩:=h2
 subst e
 have stat:∀ {H':Hp},(∀ b∈fp,H' b=none)→∀ b∈fp,FpOk X pins H' b:=fun hn b hb=>⟨hn b hb,(f2 b hb).2⟩
 refine codeAny_forLoop_any (fun n s'=>∃ i σ' H',Inv X pins σ' H' s'∧tn i s'.heap∧(∀ b∈fp,H' b=none)∧W i n σ' H') ?_ m0 ⟨0,σ,H2,I2,st2,fun b hb=>(f2 b hb).1,w0⟩
 rintro n s3 ⟨i,σ3,H3,I3,st3,fr3,w3⟩
 rcases turn i n σ3 H3 w3 with⟨stop,qn⟩ | ⟨go,N,hN,step⟩
 ·refine wpAny_passesOwn hp (thn (T.done X rfl rfl rfl hc i pins s3 σ3 H3 X.xe I3 (stat fr3) st3 stop) fun r s4 ⟨hr,I4⟩=>?_)
  subst hr
  exact wpAny_execs_nil ⟨σ3,H3,I4,qn⟩
 ·refine wpAny_passesOwn hp (thn (T.item X rfl rfl rfl hc i pins s3 σ3 H3 X.xe I3 (stat fr3) st3 go) fun r s4 ⟨u,hr,h4⟩=>?_)
  subst hr
  refine wpAny_passesOwn hp (thn h4 fun _ s5 ⟨x,H5,I5,r5,y5,st5,fr5⟩=>?_)
  have I5':=I5.pinned (stat fr5) (T.obj _ _ st5)
  refine wpAny_passesOwn hp (thn (hg _ s5 σ3 H5 x u _ I5' r5 (step x H5 y5)) fun _ s6 ⟨σ6,H6,I6,q6⟩=>?_)
  refine wpAny_passesOwn hp (thn (hb _ s6 σ6 H6 _ I6 q6) fun f s7 q7=>?_)
  have again:∀ {σ7:St} {H7:Hp},Inv X (pins++pinsAt fp s5.heap) σ7 H7 s7→N σ7 H7→∃ m,m<n∧∃ i σ' H',Inv X pins σ' H' s7∧tn i s7.heap∧(∀ b∈fp,H' b=none)∧W i m σ' H':=fun {σ7 H7} I7 n7=>by
   obtain⟨m',hm,w7⟩:=hN σ7 H7 n7
   refine⟨m',hm,i+1,σ7,H7,I7.unpinned,T.keep _ _ _ st5 fun b hb o e=>(I7.pin (b,o) (List.mem_append_right _ (List.mem_append_right _ (mem_pinsAt hb e)))).1,fun b hb=>?_,w7⟩
   obtain⟨o,e,d⟩:=T.obj _ _ st5 b hb
   exact (I7.pin (b,o) (List.mem_append_right _ (List.mem_append_right _ (mem_pinsAt hb e)))).2.1
  cases f with
  | next=>obtain⟨σ7,H7,I7,n7⟩:=q7; exact again I7 n7
  | cont=>obtain⟨σ7,H7,I7,n7⟩:=q7; exact again I7 n7
  | brk=>obtain⟨σ7,H7,I7,q7⟩:=q7; exact⟨σ7,H7,I7.unpinned,q7⟩
  | ret v=>obtain⟨x7,σ7,H7,I7,r7,q7⟩:=q7; exact⟨x7,σ7,H7,I7.unpinned,r7,q7⟩
end
theorem for_list {K:PySem.W.Frag} {a:Addr} {xs:List V} {g:TG} {tb:TS} {D:Ends} {σ:St} {H:Hp} (Pv:Nat→St→Hp→Prop) (h0:Pv 0 σ H) (hl:∀ i σ H,i≤xs.length→Pv i σ H→SqL K H a xs)
  (hs:∀ i x σ H,xs[i]? = some x→Pv i σ H→g x σ H fun σ2 H2=>tb { D with nx:=Pv (i+1),ct:=Pv (i+1),bk:=D.nx } σ2 H2) (hd:∀ σ H,Pv xs.length σ H→D.nx σ H) :
  ∃ W:Nat→Nat→St→Hp→Prop,(∃ m,W 0 m σ H)∧∀ i m σ H,W i m σ H →
   ((Itl K a).stop i H∧D.nx σ H)∨((Itl K a).go i H∧∃ N:St→Hp→Prop,(∀ σ' H',N σ' H'→∃ m',m'<m∧W (i+1) m' σ' H')∧∀ x H',(Itl K a).yld i H x H'→g x σ H' fun σ2 H2=>tb { D with nx:=N,ct:=N,bk:=D.nx } σ2 H2):=by
 refine⟨fun i m σ H=>m=xs.length-i∧i≤xs.length∧Pv i σ H,⟨xs.length,by simp,Nat.zero_le _,h0⟩,?_⟩
 rintro i m σ H ⟨rfl,hi,p⟩
 have q:=hl i σ H hi p
 by_cases hlt:i<xs.length
 ·refine .inr ⟨⟨xs,xs[i],q,by simp[hlt]⟩,Pv (i+1),fun σ' H' p'=>⟨xs.length-(i+1),by omega,rfl,hlt,p'⟩,fun x H' y=>?_⟩
  obtain⟨e,y⟩:=y
  subst e
  exact hs i x σ _ (y xs q) p
 ·have e:i=xs.length:=by omega
  subst e
  exact .inl ⟨⟨xs,q,Nat.le_refl _⟩,hd σ H p⟩
theorem for_range {lo:Int} {n:Nat} {g:TG} {tb:TS} {D:Ends} {σ:St} {H:Hp} (Pv:Nat→St→Hp→Prop) (h0:Pv 0 σ H)
  (hs:∀ i σ H,i<n→Pv i σ H→g (.int (lo+i)) σ H fun σ2 H2=>tb { D with nx:=Pv (i+1),ct:=Pv (i+1),bk:=D.nx } σ2 H2) (hd:∀ σ H,Pv n σ H→D.nx σ H) :
  ∃ W:Nat→Nat→St→Hp→Prop,(∃ m,W 0 m σ H)∧∀ i m σ H,W i m σ H →
   ((Itr lo n).stop i H∧D.nx σ H)∨((Itr lo n).go i H∧∃ N:St→Hp→Prop,(∀ σ' H',N σ' H'→∃ m',m'<m∧W (i+1) m' σ' H')∧∀ x H',(Itr lo n).yld i H x H'→g x σ H' fun σ2 H2=>tb { D with nx:=N,ct:=N,bk:=D.nx } σ2 H2):=by
 refine⟨fun i m σ H=>m=n-i∧i≤n∧Pv i σ H,⟨n,by simp,Nat.zero_le _,h0⟩,?_⟩
 rintro i m σ H ⟨rfl,hi,p⟩
 by_cases hlt:i<n
 ·refine .inr ⟨hlt,Pv (i+1),fun σ' H' p'=>⟨n-(i+1),by omega,rfl,hlt,p'⟩,fun x H' y=>?_⟩
  obtain⟨e,y⟩:=y
  subst e y
  exact hs i σ _ hlt p
 ·have e:i=n:=by omega
  subst e
  exact .inl ⟨Nat.le_refl _,hd σ H p⟩
theorem while_by {c:TT} {tb:TS} {D:Ends} {σ:St} {H:Hp} (Pv:St→Hp→Prop) (μ:St→Hp→Nat) (h0:Pv σ H)
  (hs:∀ σ H,Pv σ H→c σ H fun b H1=>if b=true then tb { D with nx:=fun σ' H'=>Pv σ' H'∧μ σ' H'<μ σ H,ct:=fun σ' H'=>Pv σ' H'∧μ σ' H'<μ σ H,bk:=D.nx } σ H1 else D.nx σ H1)
  (mono:∀ σ H Q Q',(∀ b H1,Q b H1→Q' b H1)→c σ H Q→c σ H Q'):tWhile c tb D σ H:=by
 refine⟨fun m σ H=>m=μ σ H∧Pv σ H,⟨_,rfl,h0⟩,?_⟩
 rintro m σ H ⟨rfl,p⟩
 refine mono σ H _ _ (fun b H1 q=>?_) (hs σ H p)
 cases b with
 | true=>exact⟨_,fun σ' H' ⟨p',l⟩=>⟨_,l,rfl,p'⟩,q⟩
 | false=>exact q
end L2
namespace L2
open PySem PySem.Spec PyProof.Rows
abbrev R2:=V→V→Hp→VK→Prop
def OpR (X:Cx) (f:Value→Value→Sem Value) (r:R2):Prop:=
 ∀ (pins:List (Addr × Obj)) (s:Shared) (σ:St) (H:Hp) (x y:V) (v u:Value) (Q:VK),Inv X pins σ H s→RelV x v→RelV y u→r x y H Q →
  wpAny (model X.prog X.w) X.A (f v u) (EP X pins σ Q) X.xe s
def UnR (X:Cx) (f:Value→Sem Value) (r:V→Hp→VK→Prop):Prop:=
 ∀ (pins:List (Addr × Obj)) (s:Shared) (σ:St) (H:Hp) (x:V) (v:Value) (Q:VK),Inv X pins σ H s→RelV x v→r x H Q →
  wpAny (model X.prog X.w) X.A (f v) (EP X pins σ Q) X.xe s
def CallR (X:Cx) (f:Value) (r:List V→Hp→VK→Prop):Prop:=
 ∀ (pins:List (Addr × Obj)) (s:Shared) (σ:St) (H:Hp) (xs:List V) (us:List Value) (Q:VK),Inv X pins σ H s→Vals xs us→r xs H Q →
  wpAny (model X.prog X.w) X.A (call f us) (EP X pins σ Q) X.xe s
def tOp (r:R2) (ta tb:TE):TE:=fun σ H Q=>ta σ H fun x H1=>tb σ H1 fun y H2=>r x y H2 Q
def tUn (r:V→Hp→VK→Prop) (ta:TE):TE:=fun σ H Q=>ta σ H fun x H1=>r x H1 Q
def rI (C:Int→Int→Prop) (g:Int→Int→V):R2:=fun x y H Q=>∃ i j,x = .int i∧y = .int j∧C i j∧Q (g i j) H
def rI0 (g:Int→Int→V):R2:=fun x y H Q=>∃ i j,x = .int i∧y = .int j∧Q (g i j) H
def rU (g:Int→V):V→Hp→VK→Prop:=fun x H Q=>∃ i,x = .int i∧Q (g i) H
section
variable {X:Cx} {a b c:Expr} {ta tb tc:TE} {pos:Pos}
theorem binT (ha:PE X a ta) (hb:PE X b tb) {pins:List (Addr × Obj)} {s:Shared} {σ:St} {H:Hp} {R:V→V→Hp→Prop} (I:Inv X pins σ H s)
  (h:ta σ H fun x H1=>tb σ H1 fun y H2=>R x y H2) {Q:Value→Shared→Prop} {f:Value→Value→Sem Value}
  (hf:∀ v u s2 x y H2,Inv X pins σ H2 s2→RelV x v→RelV y u→R x y H2→wpAny (model X.prog X.w) X.A (f v u) Q X.xe s2) :
  wpAny (model X.prog X.w) X.A (eval a X.env) (fun v s₁=>wpAny (model X.prog X.w) X.A (eval b X.env) (fun u s₂=>wpAny (model X.prog X.w) X.A (f v u) Q X.xe s₂) X.xe s₁) X.xe s:=by
 refine thn (ha pins s σ H _ I h) fun v s1 ⟨x,H1,I1,r1,q1⟩=>?_
 refine thn (hb pins s1 σ H1 _ I1 q1) fun u s2 ⟨y,H2,I2,r2,q2⟩=>?_
 exact hf v u s2 x y H2 I2 r1 r2 q2
theorem pe_op {op:Operator} {r:R2} (ho:OpR X (binaryOp op) r) (ha:PE X a ta) (hb:PE X b tb):PE X (.BinOp a op b pos) (tOp r ta tb):=by
 intro pins s σ H Q I h
 exact wpAny_BinOp (binT ha hb I h fun v u s2 x y H2 I2 rx ry q=>ho pins s2 σ H2 x y v u Q I2 rx ry q)
theorem pe_un {op:UnaryOp} {r:V→Hp→VK→Prop} (ho:UnR X (unaryOp op) r) (ha:PE X a ta):PE X (.UnaryOp op a pos) (tUn r ta):=by
 intro pins s σ H Q I h
 exact UnaryOp_ (thn (ha pins s σ H _ I h) fun v s1 ⟨x,H1,I1,r1,q1⟩=>ho pins s1 σ H1 x v Q I1 r1 q1)
theorem opI {f:Value→Value→Sem Value} {C:Int→Int→Prop} {g:Int→Int→Int}
  (rule:∀ (i j:Int) (t u:Tok) (s:Shared) (Q:Value→Shared→Prop) (E:Value→Shared→Prop),C i j→Q (.int (g i j) s.toks) { s with toks:=s.toks+1 }→wpAny (model X.prog X.w) X.A (f (.int i t) (.int j u)) Q E s) :
  OpR X f (rI C fun i j=>.int (g i j)):=by
 intro pins s σ H x y v u Q I rx ry h
 obtain⟨i,j,rfl,rfl,hc,q⟩:=h
 obtain⟨t,rfl⟩:=rx
 obtain⟨t',rfl⟩:=ry
 exact rule i j t t' s _ _ hc ⟨.int (g i j),H,I.tok _,⟨_,rfl⟩,q⟩
theorem opI0 {f:Value→Value→Sem Value} {g:Int→Int→Int}
  (rule:∀ (i j:Int) (t u:Tok) (s:Shared) (Q:Value→Shared→Prop) (E:Value→Shared→Prop),Q (.int (g i j) s.toks) { s with toks:=s.toks+1 }→wpAny (model X.prog X.w) X.A (f (.int i t) (.int j u)) Q E s) :
  OpR X f (rI0 fun i j=>.int (g i j)):=by
 intro pins s σ H x y v u Q I rx ry h
 obtain⟨i,j,rfl,rfl,q⟩:=h
 obtain⟨t,rfl⟩:=rx
 obtain⟨t',rfl⟩:=ry
 exact rule i j t t' s _ _ ⟨.int (g i j),H,I.tok _,⟨_,rfl⟩,q⟩
theorem opB0 {f:Value→Value→Sem Value} {g:Int→Int→Bool}
  (rule:∀ (i j:Int) (t u:Tok) (s:Shared) (Q:Value→Shared→Prop) (E:Value→Shared→Prop),Q (.bool (g i j)) s→wpAny (model X.prog X.w) X.A (f (.int i t) (.int j u)) Q E s) :
  OpR X f (rI0 fun i j=>.bl (g i j)):=by
 intro pins s σ H x y v u Q I rx ry h
 obtain⟨i,j,rfl,rfl,q⟩:=h
 obtain⟨t,rfl⟩:=rx
 obtain⟨t',rfl⟩:=ry
 exact rule i j t t' s _ _ ⟨.bl (g i j),H,I,rfl,q⟩
def CPow (i j:Int):Prop:=0≤j∧j≤1000000∧i.natAbs<2 ^ 64
theorem op_add:OpR X (binaryOp .Add) (rI0 fun i j=>.int (i+j)):=opI0 fun _ _ _ _ _ _ _ q=>add_int q
theorem op_sub:OpR X (binaryOp .Sub) (rI0 fun i j=>.int (i-j)):=opI0 fun _ _ _ _ _ _ _ q=>sub_int q
theorem op_mod:OpR X (binaryOp .Mod) (rI (fun _ j=>0<j) fun i j=>.int (i % j)):=opI fun i j _ _ _ _ _ hc q=>by
 have h1:(0:Int)<j:=hc
 exact mod_int' (by omega) (by rw[Int.fmod_eq_emod_of_nonneg i (by omega)]; exact q)
theorem op_pow:OpR X (binaryOp .Pow) (rI CPow fun i j=>.int (i ^ j.toNat)):=opI fun _ _ _ _ _ _ _ hc q=>pow_int_small hc.1 hc.2.1 hc.2.2 q
theorem unI {f:Value→Sem Value} {g:Int→Int}
  (rule:∀ (i:Int) (t:Tok) (s:Shared) (Q:Value→Shared→Prop) (E:Value→Shared→Prop),Q (.int (g i) s.toks) { s with toks:=s.toks+1 }→wpAny (model X.prog X.w) X.A (f (.int i t)) Q E s) :
  UnR X f (rU fun i=>.int (g i)):=by
 intro pins s σ H x v Q I rx h
 obtain⟨i,rfl,q⟩:=h
 obtain⟨t,rfl⟩:=rx
 exact rule i t s _ _ ⟨.int (g i),H,I.tok _,⟨_,rfl⟩,q⟩
theorem un_neg:UnR X (unaryOp .USub) (rU fun i=>.int (-i)):=unI fun _ _ _ _ _ q=>neg_int q
end
def scal:V→V→Bool
 | .non,.non=>true | .non,.int _=>true | .int _,.non=>true | .non,.bl _=>true | .bl _,.non=>true | .non,.str _=>true | .str _,.non=>true
 | .int _,.int _=>true | .bl _,.bl _=>true | .str _,.str _=>true | .byt _,.byt _=>true
 | .int _,.str _=>true | .str _,.int _=>true | .bl _,.str _=>true | .str _,.bl _=>true
 | _,_=>false
def rEq:R2:=fun x y H Q=>scal x y=true∧Q (.bl (decide (x=y))) H
def rNe:R2:=fun x y H Q=>scal x y=true∧Q (.bl (!decide (x=y))) H
theorem dec_int {i j:Int}:decide (V.int i=V.int j)=(i == j):=by
 rw[Bool.eq_iff_iff]
 simp
theorem dec_bl {i j:Bool}:decide (V.bl i=V.bl j)=(i == j):=by
 rw[Bool.eq_iff_iff]
 simp
theorem dec_str {i j:Str}:decide (V.str i=V.str j)=(i == j):=by
 rw[Bool.eq_iff_iff]
 simp
theorem dec_byt {i j:Array UInt8}:decide (V.byt i=V.byt j)=(i.toList == j.toList):=by
 rw[Bool.eq_iff_iff]
 cases i
 cases j
 simp
section
variable {X:Cx} {a b c:Expr} {ta tb tc:TE} {pos:Pos}
theorem fin_bl {pins:List (Addr × Obj)} {σ:St} {H:Hp} {s:Shared} {Q:VK} {k k':Bool} (I:Inv X pins σ H s) (q:Q (.bl k) H) (e:k=k'):EP X pins σ Q (.bool k') s:=by
 subst e
 exact⟨.bl k,H,I,rfl,q⟩
theorem op_eq:OpR X (compareOp .Eq) rEq:=by
 intro pins s σ H x y v u Q I rx ry h
 obtain⟨hs,q⟩:=h
 cases x with
 | non=>
  cases rx
  cases y with
  | non=>cases ry; exact PySem.EqNone.eq_none_none (fin_bl I q (by simp))
  | bl j=>cases ry; exact PySem.EqNone.eq_none_bool (fin_bl I q (by simp))
  | int j=>obtain⟨t',rfl⟩:=ry; exact PySem.EqNone.eq_none_int (fin_bl I q (by simp))
  | str j=>obtain⟨t',rfl⟩:=ry; exact PySem.EqNone.eq_none_str (fin_bl I q (by simp))
  | _=>exact absurd (show false=true from hs) Bool.false_ne_true
 | bl i=>
  cases rx
  cases y with
  | non=>cases ry; exact PySem.EqNone.eq_bool_none (fin_bl I q (by simp))
  | bl j=>cases ry; exact eq_bool (fin_bl I q dec_bl)
  | str j=>obtain⟨t',rfl⟩:=ry; exact PySem.EqMixed.eq_bool_str (fin_bl I q (by simp))
  | _=>exact absurd (show false=true from hs) Bool.false_ne_true
 | int i=>
  obtain⟨t,rfl⟩:=rx
  cases y with
  | non=>cases ry; exact PySem.EqNone.eq_int_none (fin_bl I q (by simp))
  | int j=>obtain⟨t',rfl⟩:=ry; exact eq_int (fin_bl I q dec_int)
  | str j=>obtain⟨t',rfl⟩:=ry; exact PySem.EqMixed.eq_int_str (fin_bl I q (by simp))
  | _=>exact absurd (show false=true from hs) Bool.false_ne_true
 | str i=>
  obtain⟨t,rfl⟩:=rx
  cases y with
  | non=>cases ry; exact PySem.EqNone.eq_str_none (fin_bl I q (by simp))
  | bl j=>cases ry; exact PySem.EqMixed.eq_str_bool (fin_bl I q (by simp))
  | int j=>obtain⟨t',rfl⟩:=ry; exact PySem.EqMixed.eq_str_int (fin_bl I q (by simp))
  | str j=>obtain⟨t',rfl⟩:=ry; exact eq_str (fin_bl I q dec_str)
  | _=>exact absurd (show false=true from hs) Bool.false_ne_true
 | byt i=>
  obtain⟨t,rfl⟩:=rx
  cases y with
  | byt j=>obtain⟨t',rfl⟩:=ry; exact PySem.W.eq_bytes (fin_bl I q dec_byt)
  | _=>exact absurd (show false=true from hs) Bool.false_ne_true
 | _=>cases y <;> exact absurd (show false=true from hs) Bool.false_ne_true
theorem op_ne:OpR X (compareOp .NotEq) rNe:=by
 intro pins s σ H x y v u Q I rx ry h
 obtain⟨hs,q⟩:=h
 cases x with
 | non=>
  cases rx
  cases y with
  | non=>cases ry; exact PySem.EqNone.ne_none_none (fin_bl I q (by simp))
  | bl j=>cases ry; exact PySem.EqNone.ne_none_bool (fin_bl I q (by simp))
  | int j=>obtain⟨t',rfl⟩:=ry; exact PySem.EqNone.ne_none_int (fin_bl I q (by simp))
  | str j=>obtain⟨t',rfl⟩:=ry; exact PySem.EqNone.ne_none_str (fin_bl I q (by simp))
  | _=>exact absurd (show false=true from hs) Bool.false_ne_true
 | bl i=>
  cases rx
  cases y with
  | non=>cases ry; exact PySem.EqNone.ne_bool_none (fin_bl I q (by simp))
  | bl j=>cases ry; exact ne_bool (fin_bl I q (congrArg not dec_bl))
  | str j=>obtain⟨t',rfl⟩:=ry; exact PySem.EqMixed.ne_bool_str (fin_bl I q (by simp))
  | _=>exact absurd (show false=true from hs) Bool.false_ne_true
 | int i=>
  obtain⟨t,rfl⟩:=rx
  cases y with
  | non=>cases ry; exact PySem.EqNone.ne_int_none (fin_bl I q (by simp))
  | int j=>obtain⟨t',rfl⟩:=ry; exact ne_int (fin_bl I q (congrArg not dec_int))
  | str j=>obtain⟨t',rfl⟩:=ry; exact PySem.EqMixed.ne_int_str (fin_bl I q (by simp))
  | _=>exact absurd (show false=true from hs) Bool.false_ne_true
 | str i=>
  obtain⟨t,rfl⟩:=rx
  cases y with
  | non=>cases ry; exact PySem.EqNone.ne_str_none (fin_bl I q (by simp))
  | bl j=>cases ry; exact PySem.EqMixed.ne_str_bool (fin_bl I q (by simp))
  | int j=>obtain⟨t',rfl⟩:=ry; exact PySem.EqMixed.ne_str_int (fin_bl I q (by simp))
  | str j=>obtain⟨t',rfl⟩:=ry; exact ne_str (fin_bl I q (congrArg not dec_str))
  | _=>exact absurd (show false=true from hs) Bool.false_ne_true
 | byt i=>
  obtain⟨t,rfl⟩:=rx
  cases y with
  | byt j=>obtain⟨t',rfl⟩:=ry; exact PySem.W.ne_bytes (fin_bl I q (congrArg not dec_byt))
  | _=>exact absurd (show false=true from hs) Bool.false_ne_true
 | _=>cases y <;> exact absurd (show false=true from hs) Bool.false_ne_true
theorem op_lt:OpR X (compareOp .Lt) (rI0 fun i j=>.bl (decide (i<j))):=opB0 fun _ _ _ _ _ _ _ q=>lt_int q
theorem op_gt:OpR X (compareOp .Gt) (rI0 fun i j=>.bl (decide (j<i))):=opB0 fun _ _ _ _ _ _ _ q=>gt_int q
theorem op_ge:OpR X (compareOp .GtE) (rI0 fun i j=>.bl (decide (j≤i))):=opB0 fun _ _ _ _ _ _ _ q=>ge_int q
theorem nomark (b:Expr) {op:CmpOp} (h:op≠.In:=by decide) (h2:op≠.NotIn:=by decide):behindInMarks op b=false:=by
 have e1:(op == CmpOp.In)=false:=by cases op <;> first | rfl | exact absurd rfl h
 have e2:(op == CmpOp.NotIn)=false:=by cases op <;> first | rfl | exact absurd rfl h2
 cases b <;> simp[behindInMarks,e1,e2]
theorem pe_cmpR {op:CmpOp} {r:R2} (ho:OpR X (compareOp op) r) (ha:PE X a ta) (hb:PE X b tb) (hm:behindInMarks op b=false):PE X (.Compare a [op] [b] pos) (tOp r ta tb):=by
 intro pins s σ H Q I h
 exact wpAny_Compare1 (binT ha hb I h fun v u s2 x y H2 I2 rx ry q=>ho pins s2 σ H2 x y v u Q I2 rx ry q) hm
def tTest (t:TE):TT:=fun σ H Q=>t σ H fun x H'=>∃ k,x = .bl k∧Q k H'
theorem pt_cmpR {op:CmpOp} {r:R2} (ho:OpR X (compareOp op) r) (ha:PE X a ta) (hb:PE X b tb) (hm:behindInMarks op b=false):PT X (.Compare a [op] [b] pos) (tTest (tOp r ta tb)):=by
 intro pins s σ H Q I h
 refine wpAny_isTrue_Compare1 (thn (ha pins s σ H _ I h) fun v s1 ⟨x,H1,I1,r1,q1⟩=>thn (hb pins s1 σ H1 _ I1 q1) fun u s2 ⟨y,H2,I2,r2,q2⟩=>
  thn (ho pins s2 σ H2 x y v u _ I2 r1 r2 q2) fun c s3 ⟨z,H3,I3,r3,k,e,q3⟩=>?_) hm
 subst e
 cases r3
 exact wpAny_truthy_bool ⟨H3,I3,q3⟩
theorem line63:(sizeLine:Nat)<2 ^ 63:=by rw[sizeLine_eq]; decide
theorem vals1 {x:V} {us:List Value} (r:Vals [x] us):∃ u,us=[u]∧RelV x u:=by
 cases r with
 | cons r1 r2=>cases r2; exact⟨_,rfl,r1⟩
theorem vals2 {x y:V} {us:List Value} (r:Vals [x,y] us):∃ u w',us=[u,w']∧RelV x u∧RelV y w':=by
 cases r with
 | cons r1 r2=>
  cases r2 with
  | cons r3 r4=>cases r4; exact⟨_,_,rfl,r1,r3⟩
theorem call_abs:CallR X (.builtin "abs") (fun xs H Q=>∃ i,xs=[.int i]∧Q (.int (if i<0 then -i else i)) H):=by
 intro pins s σ H xs us Q I r h
 obtain⟨i,rfl,q⟩:=h
 obtain⟨u,rfl,t,rfl⟩:=vals1 r
 exact call_abs_int fun u tk=>⟨.int (if i<0 then -i else i),H,I.tok _,⟨_,rfl⟩,q⟩
theorem call_max2 (hc:X.calm=true):CallR X (.builtin "max") (fun xs H Q=>∃ i j,xs=[.int i,.int j]∧Q (.int (if j > i then j else i)) H):=by
 intro pins s σ H xs us Q I r h
 obtain⟨i,j,rfl,q⟩:=h
 obtain⟨u,w',rfl,⟨t,rfl⟩,⟨t',rfl⟩⟩:=vals2 r
 refine max_two_ints (I.ok.hd hc) fun h' tk k=>⟨_,H,I.kept k,?_,q⟩
 by_cases hj:j > i
 ·rw[if_pos hj,if_pos hj]; exact⟨_,rfl⟩
 ·rw[if_neg hj,if_neg hj]; exact⟨_,rfl⟩
theorem call_int1:CallR X (.type "int") (fun xs H Q=>(∃ i,xs=[.int i]∧Q (.int i) H)∨∃ k,xs=[.bl k]∧Q (.int (if k then 1 else 0)) H):=by
 intro pins s σ H xs us Q I r h
 rcases h with⟨i,rfl,q⟩ | ⟨k,rfl,q⟩
 ·obtain⟨u,rfl,t,rfl⟩:=vals1 r
  exact call_int_int ⟨.int i,H,I,⟨_,rfl⟩,q⟩
 ·obtain⟨u,rfl,r1⟩:=vals1 r
  cases r1
  exact call_int_bool ⟨.int (if k then 1 else 0),H,I.tok _,⟨_,rfl⟩,q⟩
end
end L2
namespace L2
open PySem PySem.Spec PyProof.Rows
structure ObjM (h:Heap) (x dx C:Addr) (mA:Str→Option Value):Prop where
 obj:h.get? x=some (PySem.W.instObj C dx)
 ns:h.Ns1 dx mA
 ne:dx≠x
theorem lookIn_ns {h:Heap} {dx:Addr} {mA:Str→Option Value} (n:h.Ns1 dx mA):∃ od,h.get? dx=some od∧∀ name,PySem.W.lookIn name od=some (mA name):=by
 obtain⟨o,es,ep,ho,hd,hk,_,hm⟩:=n
 refine⟨o,ho,fun name=>?_⟩
 have e:=hm name
 unfold nsFind findBy at e
 rw[← Array.find?_toList] at e
 unfold PySem.W.lookIn
 rw[hd]
 dsimp only
 split
 ·rename_i y q
  rw[q] at e
  exact congrArg some e
 ·rename_i q
  rw[q] at e
  have a:es.toList.any (·.refKey)=false:=by
   rw[List.any_eq_false]
   intro y hy
   obtain⟨z,t,hkey⟩:=hk y (Array.mem_toList_iff.mp hy)
   simp[DictEntry.refKey,hkey]
  have a':¬ es.toList.any (·.refKey)=true:=by rw[a]; exact Bool.false_ne_true
  rw[if_neg a']
  exact congrArg some e
theorem ObjM.look {h:Heap} {x dx C:Addr} {mA:Str→Option Value} (I:ObjM h x dx C mA):∃ od,PySem.W.InstAt h x (PySem.W.instObj C dx) C (some od)∧∀ name,PySem.W.lookIn name od=some (mA name):=
 let ⟨od,ho,hl⟩:=lookIn_ns I.ns
 ⟨od,⟨I.obj,rfl,rfl,ho⟩,hl⟩
section
variable {prog:Program} {w:World} {A:Around} {E:Value→Shared→Prop} {s:Shared} {K:PySem.W.Frag} {x dx C f:Addr} {mA:Str→Option Value} {name:Str} {v:Value}
theorem get_map {expr:Bool} {Q:Value→Shared→Prop} (X:K.In s.heap) (I:ObjM s.heap x dx C mA) (hg:PySem.W.plainGet K C name=true) (hh:PySem.W.hasDictIn K C=true)
  (ha:PySem.W.findIn K (.ref C) name=some none) (hv:mA name=some v) (hv':PySem.W.handedIn v=true) (h:Q v { s with toks:=s.toks+1 }) :
  wpAny (model prog w) A (getAttr (.ref x) name expr) Q E s:=by
 obtain⟨od,J,hl⟩:=I.look
 exact PySem.W.get_value X J (PySem.W.plainGet_of hg).1 (PySem.W.findObj_own hh ha rfl (by rw[hl,hv])) hv' h
theorem set_map {ns:List Str} {Q:Unit→Shared→Prop} (X:K.In s.heap) (I:ObjM s.heap x dx C mA)
  (hs:PySem.W.findIn K (.ref C) "__setattr__" = some (some (.builtin "object.__setattr__"))) (hp:PySem.W.plainOver K C=true) (ht:PySem.W.takerIn K C name=some none) (hh:PySem.W.hasDictIn K C=true)
  (hw:PySem.Within mA ns) (hsz:ns.length≤sizeLine)
  (h:∀ h',ObjM h' x dx C (fun y=>if y=name then some v else mA y)→Heap.SameBut dx s.heap h'→Q () { s with heap:=h',toks:=s.toks+2 }) :
  wpAny (model prog w) A (setAttr (.ref x) name v) Q E s:=by
 obtain⟨od,J,hl⟩:=I.look
 refine PySem.W.set_plain X J hs (PySem.W.osa_open (s:={ s with toks:=s.toks+1 }) (r:=none) X J hp ht fun b=>?_)
 obtain⟨cd,hc,hd'⟩:=PySem.W.any_some hh
 have hx:s.heap.get? x=some ⟨.ref C,some dx,.plain,#[]⟩:=I.obj
 refine wpAny_bind (wpAny_pure (wpAny_bind (wpAny_bind (wpAny_loadPart hx (wpAny_bind (PySem.W.Looks.here (s:={ s with toks:=s.toks+1 }) (PySem.W.looks_clsIn X hc) ?_))))))
 rw[hd']
 refine wpAny_pure (a:=some dx) (wpAny_bind (wpAny_pure (wpAny_bind ?_)))
 refine wpAny_nsSet1 (s:={ s with toks:=s.toks+1 }) I.ns fun h' hn2 hs2=>?_
 obtain⟨oD,esD,epD,hoD,hdD,hcD⟩:=hn2.count (PySem.Within.cons name v hw)
 refine wpAny_bind (wpAny_lookBehind hoD (by rw[hdD]; exact pastItsLine_dict (Nat.le_trans hcD (by rw[List.length_cons]; omega))) ?_)
 exact wpAny_pure (h _ ⟨(hs2.2 _ (Ne.symm I.ne)).trans I.obj,hn2,I.ne⟩ hs2)
theorem make_map {R:Result→Shared→Prop} {vs:List Value} {kw:List (Str × Value)} (X:K.In s.heap) (hm:PySem.W.makesIn K C=true)
  (hi:PySem.W.findIn K (.ref C) "__init__" = some (some (.ref f))) (hf:PySem.W.typeIn K (.ref f)=some (.type "function"))
  (h:codeAny (model prog w) (A.under (.builtin "type.__call__" ⟨.ref C :: vs,kw⟩)) (.call (.ref f) ⟨.ref (s.heap.objs.size+1) :: vs,kw⟩) (PySem.W.InitBack (s.heap.objs.size+1) R)
   { s with heap:=(s.heap.push PySem.W.emptyDict).push (PySem.W.instObj C s.heap.objs.size) }) :
  codeAny (model prog w) A (.call (.ref C) ⟨vs,kw⟩) R s:=by
 obtain⟨hh,g,d,t,os⟩:=s
 exact PySem.W.make_core (PySem.W.makes_of X hm) (PySem.W.looks_findIn X hi) (fun self=>PySem.W.bind_fn X self hf) (.inl rfl) h
end
def putF (f:Str) (v:V):List (Str × V)→List (Str × V)
 | []=>[(f,v)]
 | (g,x) :: r=>if g=f then (g,v) :: r else (g,x) :: putF f v r
theorem lookup_putF (f g:Str) (v:V):∀ fs:List (Str × V),(putF f v fs).lookup g=if g=f then some v else fs.lookup g
 | []=>by
  show List.lookup g [(f,v)]=_
  by_cases h:g=f
  ·have hb:(g == f)=true:=beq_iff_eq.mpr h
   simp only [List.lookup,hb,if_pos h]
  ·have hb:(g == f)=false:=beq_eq_false_iff_ne.mpr h
   simp only [List.lookup,hb,if_neg h]
 | (k,x) :: r=>by
  have ih:=lookup_putF f g v r
  rw[show putF f v ((k,x) :: r)=(if k=f then (k,v) :: r else (k,x) :: putF f v r) from rfl]
  by_cases hk:k=f
  ·rw[if_pos hk]
   by_cases h:g=k
   ·have hb:(g == k)=true:=beq_iff_eq.mpr h
    simp only [List.lookup,hb,if_pos (h.trans hk)]
   ·have hb:(g == k)=false:=beq_eq_false_iff_ne.mpr h
    simp only [List.lookup,hb,if_neg (fun e:g=f=>h (e.trans hk.symm))]
  ·rw[if_neg hk]
   by_cases h:g=k
   ·have hb:(g == k)=true:=beq_iff_eq.mpr h
    simp only [List.lookup,hb,if_neg (fun e:g=f=>hk (h.symm.trans e))]
   ·have hb:(g == k)=false:=beq_eq_false_iff_ne.mpr h
    simp only [List.lookup,hb]
    exact ih
theorem keys_putF (f:Str) (v:V):∀ fs:List (Str × V),f∈(putF f v fs).map (·.1)∧∀ g,g∈fs.map (·.1)→g∈(putF f v fs).map (·.1)
 | []=>⟨by simp[putF],fun g h=>by simp at h⟩
 | (k,x) :: r=>by
  obtain⟨i1,i2⟩:=keys_putF f v r
  rw[show putF f v ((k,x) :: r)=(if k=f then (k,v) :: r else (k,x) :: putF f v r) from rfl]
  by_cases hk:k=f
  ·rw[if_pos hk]
   subst hk
   exact⟨by simp,fun g h=>by simpa using h⟩
  ·rw[if_neg hk]
   refine⟨?_,fun g h=>?_⟩
   ·rw[List.map_cons]
    exact List.mem_cons_of_mem _ i1
   ·rw[List.map_cons] at h ⊢
    rcases List.mem_cons.mp h with e | e
    ·exact List.mem_cons.mpr (.inl e)
    ·exact List.mem_cons_of_mem _ (i2 g e)
theorem length_putF (f:Str) (v:V):∀ fs:List (Str × V),(putF f v fs).length≤fs.length+1
 | []=>by simp[putF]
 | (k,x) :: r=>by
  have ih:=length_putF f v r
  rw[show putF f v ((k,x) :: r)=(if k=f then (k,v) :: r else (k,x) :: putF f v r) from rfl]
  by_cases hk:k=f
  ·rw[if_pos hk,List.length_cons,List.length_cons]; omega
  ·rw[if_neg hk,List.length_cons,List.length_cons]; omega
theorem RelO.some_of {v:V} {o:Option Value} (r:RelO (some v) o):∃ u,o=some u∧RelV v u:=by
 cases o with
 | none=>exact (show False from r).elim
 | some u=>exact⟨u,rfl,r⟩
theorem handed_of {v:V} {u:Value} (r:RelV v u):PySem.W.handedIn u=true:=by
 cases v with
 | non=>cases (show u=Value.none from r); rfl
 | bl b=>cases (show u=Value.bool b from r); rfl
 | int i=>obtain⟨t,e⟩:=(show ∃ t,u=Value.int i t from r); cases e; rfl
 | str x=>obtain⟨t,e⟩:=(show ∃ t,u=Value.str x t from r); cases e; rfl
 | byt b=>obtain⟨t,e⟩:=(show ∃ t,u=Value.bytes b t from r); cases e; rfl
 | flt b=>obtain⟨t,e⟩:=(show ∃ t,u=Value.float b t from r); cases e; rfl
 | ref a=>cases (show u=Value.ref a from r); rfl
 | ty n=>cases (show u=Value.type n from r); rfl
section
variable {P:Program} {w:World} {H H':Hp} {h h':Heap} {a C dx:Addr} {fs fs':List (Str × V)}
theorem ins_get (hok:HOk P w H h) (e:H a=some (.ins C dx fs)):∃ mA,ObjM h a dx C mA∧(∀ f,RelO (fs.lookup f) (mA f))∧PySem.Within mA (fs.map (·.1))∧fs.length≤1000∧H dx=some (.own a):=by
 obtain⟨d,z,ne,ob,mA,n,r,q⟩:=(show ObjOk P w H h a (.ins C dx fs) from hok a _ e)
 exact⟨mA,⟨ob,n,ne⟩,r,q,z,d⟩
end
structure Cls (K:PySem.W.Frag) (C:Addr):Prop where
 pg:PySem.W.plainGet K C Str.empty=true
 hd:PySem.W.hasDictIn K C=true
 po:PySem.W.plainOver K C=true
 sa:PySem.W.findIn K (.ref C) "__setattr__" = some (some (.builtin "object.__setattr__"))
theorem Cls.get {K:PySem.W.Frag} {C:Addr} (c:Cls K C) (f:Str):PySem.W.plainGet K C f=true:=c.pg
def NoAttr (K:PySem.W.Frag) (C:Addr) (f:Str):Prop:=PySem.W.findIn K (.ref C) f=some none
theorem NoAttr.taker {K:PySem.W.Frag} {C:Addr} {f:Str} (n:NoAttr K C f):PySem.W.takerIn K C f=some none:=by
 unfold PySem.W.takerIn
 rw[show PySem.W.findIn K (.ref C) f=some none from n]
 rfl
section
variable {X:Cx} {pins:List (Addr × Obj)} {σ:St} {H:Hp} {s:Shared} {a C dx:Addr} {fs:List (Str × V)} {f:Str} {v:V} {A:Around} {E:Value→Shared→Prop}
theorem getattr_ok {b:Bool} {Q:Value→Shared→Prop} (I:Inv X pins σ H s) (e:H a=some (.ins C dx fs)) (c:Cls X.K C) (n:NoAttr X.K C f) (l:fs.lookup f=some v)
  (h:∀ u s',Inv X pins σ H s'→RelV v u→Q u s'):wpAny (model X.prog X.w) A (getAttr (.ref a) f b) Q E s:=by
 obtain⟨mA,O,r,_,_,_⟩:=ins_get I.hok e
 obtain⟨u,hu,ru⟩:=RelO.some_of (v:=v) (o:=mA f) (by rw[← l]; exact r f)
 exact get_map I.kIn O (c.get f) c.hd n hu (handed_of ru) (h u _ (I.tok _) ru)
theorem setattr_ok {y:V} {u:Value} {Q:Unit→Shared→Prop} (I:Inv X pins σ H s) (e:H a=some (.ins C dx fs)) (c:Cls X.K C) (n:NoAttr X.K C f) (hl:fs.length<1000) (ry:RelV y u)
  (h:∀ s',Inv X pins σ (upd H a (.ins C dx (putF f y fs))) s'→Q () s'):wpAny (model X.prog X.w) A (setAttr (.ref a) f u) Q E s:=by
 obtain⟨mA,O,r,wi,_,ho⟩:=ins_get I.hok e
 have hz:(fs.map (·.1)).length≤sizeLine:=by rw[List.length_map,sizeLine_eq]; omega
 refine set_map I.kIn O c.sa c.po n.taker c.hd wi hz fun h' O' sb=>h _ ?_
 have hd:∃ o,h'.get? dx=some o:=let ⟨o,_,_,e',_⟩:=O'.ns; ⟨o,e'⟩
 refine I.write (x:=a) (e:=dx) (by rw[e]; exact True.intro) (.inr ho) (fun b q hb z=>(sb.2 b hb).trans z) hd ?_
 refine⟨by rw[upd_ne O.ne]; exact ho,?_,O.ne,O'.obj,_,O'.ns,fun g=>?_,fun g hg=>?_⟩
 ·have:=length_putF f y fs; omega
 ·show RelO ((putF f y fs).lookup g) (if g=f then some u else mA g)
  rw[lookup_putF]
  by_cases q:g=f
  ·rw[if_pos q,if_pos q]; exact ry
  ·rw[if_neg q,if_neg q]; exact r g
 ·by_cases q:g=f
  ·rw[q]; exact (keys_putF f y fs).1
  ·refine (keys_putF f y fs).2 g (wi g fun z=>hg ?_)
   show (if g=f then some u else mA g)=none
   rw[if_neg q]; exact z
theorem Inv.made (I:Inv X pins σ H s):Inv X pins σ (upd (upd H s.heap.objs.size (.own (s.heap.objs.size+1))) (s.heap.objs.size+1) (.ins C s.heap.objs.size []))
  { s with heap:=(s.heap.push PySem.W.emptyDict).push (PySem.W.instObj C s.heap.objs.size) }:=by
 have e1:(s.heap.push PySem.W.emptyDict).get? s.heap.objs.size=some PySem.W.emptyDict:=Heap.get?_push_size s.heap rfl
 have e2:((s.heap.push PySem.W.emptyDict).push (PySem.W.instObj C s.heap.objs.size)).get? (s.heap.objs.size+1)=some (PySem.W.instObj C s.heap.objs.size):=by
  have:=Heap.get?_push_size (s.heap.push PySem.W.emptyDict) (o:=PySem.W.instObj C s.heap.objs.size) rfl
  rwa [Heap.size_push] at this
 have e3:(s.heap.push PySem.W.emptyDict).Ns s.heap.objs.size (fun _=>none):=⟨PySem.W.emptyDict,#[],_,e1,rfl,(fun e he=>absurd he (by simp)),fun _=>rfl⟩
 have I1:=I.laid (a:=s.heap.objs.size) (o:=.own (s.heap.objs.size+1)) (h':=s.heap.push PySem.W.emptyDict) (t':=s.toks) (fun b u q=>Heap.get?_push_of_some _ q) (Nat.le_refl _) ⟨_,e1⟩
 refine I1.laid (a:=s.heap.objs.size+1) (o:=.ins C s.heap.objs.size []) (t':=s.toks) (fun b u q=>Heap.get?_push_of_some _ q) (Nat.le_of_eq (Heap.size_push _ _)) ?_
 have ne:s.heap.objs.size≠s.heap.objs.size+1:=Nat.ne_of_lt (Nat.lt_succ_self _)
 refine⟨by rw[upd_ne ne,upd_same],Nat.zero_le _,ne,e2,fun _=>none,(Heap.Ns1.of_empty e3).at fun o q=>Heap.get?_push_of_some _ q,fun _=>True.intro,fun y hy=>absurd rfl hy⟩
theorem attr_of {prog:Program} {w:World} {env:Env} {e:Expr} {f:Str} {pos:Pos} {s:Shared} {Q:Value→Shared→Prop} (hb:attributeBase e f env (eval e env)=eval e env)
  (h:wpAny (model prog w) A (eval e env) (fun o s₁=>wpAny (model prog w) A (getAttr o f true) Q E s₁) E s):wpAny (model prog w) A (eval (.Attribute e f pos) env) Q E s:=
 Attribute_any_ h (by rw[arm_eval_Attribute,hb])
end
def tFld (K:PySem.W.Frag) (ta:TE) (f:Str):TE:=fun σ H Q=>ta σ H fun x H1=>∃ a C dx fs v,x = .ref a∧H1 a=some (.ins C dx fs)∧Cls K C∧NoAttr K C f∧fs.lookup f=some v∧Q v H1
def sFld (K:PySem.W.Frag) (ta tv:TE) (f:Str):TS:=fun D σ H=>tv σ H fun y H1=>ta σ H1 fun x H2=>∃ a C dx fs,x = .ref a∧H2 a=some (.ins C dx fs)∧Cls K C∧NoAttr K C f∧fs.length<1000 ∧
 D.nx σ (upd H2 a (.ins C dx (putF f y fs)))
section
variable {X:Cx} {o e value:Expr} {f:Str} {pos pos' tpos:Pos} {ta tv:TE}
theorem pe_fld (he:PE X e ta) (hb:attributeBase e f X.env (eval e X.env)=eval e X.env):PE X (.Attribute e f pos) (tFld X.K ta f):=by
 intro pins s σ H Q I h
 refine attr_of hb (thn (he pins s σ H _ I h) fun u s1 ⟨x,H1,I1,rx,a,C,dx,fs,v,ex,ea,c,n,l,q⟩=>?_)
 subst ex
 obtain rfl:u=Value.ref a:=rx
 exact getattr_ok I1 ea c n l fun u' s2 I2 ru=>⟨v,H1,I2,ru,q⟩
theorem ps_fld (ha:PE X o ta) (hv:PE X value tv) (hs:swapsWith value (some (.Attribute o f pos')) pos.line X.env=pure false):PS X (.Assign [.Attribute o f pos'] value pos) (sFld X.K ta tv f):=by
 intro pins s σ H D I h
 refine plainObj_wpAny_Assign_Attribute (thn (hv pins s σ H _ I h) fun u s1 ⟨y,H1,I1,ry,q⟩=>thn (ha pins s1 σ H1 _ I1 q) fun ov s2 ⟨x,H2,I2,rx,a,C,dx,fs,ex,ea,c,n,l,q2⟩=>?_) hs
 subst ex
 obtain rfl:ov=Value.ref a:=rx
 exact setattr_ok I2 ea c n l ry fun s3 I3=>⟨σ,_,I3,q2⟩
end
section
variable {X:Cx} {pins:List (Addr × Obj)} {σ:St} {H:Hp} {s:Shared} {A:Around} {E:Value→Shared→Prop} {Q:Value→Shared→Prop} {c:Value} {b:Bool}
end
end L2
namespace L2
open PySem PySem.Spec PyProof.Rows
structure Room (k:Nat) (A:Around):Prop where
 hd:A.handled=none
 dp:A.depth+3*k+5<recursionLimit
 un:A.units+16*k+200<cLine
theorem Room.mono {j k:Nat} {A:Around} (r:Room k A) (h:j≤k):Room j A:=⟨r.hd,by have:=r.dp; omega,by have:=r.un; omega⟩
theorem Room.deeper {k:Nat} {A:Around} (r:Room (k+1) A) (env:Env):Room k (A.deeper env):=
 ⟨r.hd,by have:=r.dp; show A.depth+1+3*k+5<_; omega,by have:=r.un; show A.units+3+16*k+200<_; omega⟩
theorem make_depth {A:Around} {C:Addr} {us:List Value} {kw:List (Str × Value)}:(A.under (.builtin "type.__call__" ⟨.ref C :: us,kw⟩)).depth=A.depth+1:=by
 first | rfl | simp[Around.under,Code.weight,Code.isCreation,Code.isGuard,Code.isCaller,Code.frames,Code.isFrame,guardIds]
theorem make_units {A:Around} {C:Addr} {us:List Value} {kw:List (Str × Value)}:(A.under (.builtin "type.__call__" ⟨.ref C :: us,kw⟩)).units=A.units+1:=by
 first | rfl | simp[Around.under,Code.cUnits,Code.frames,Code.isFrame]
theorem Room.make {k:Nat} {A:Around} (r:Room (k+1) A) (C:Addr) (us:List Value) (kw:List (Str × Value)):Room k (A.under (.builtin "type.__call__" ⟨.ref C :: us,kw⟩)):=
 ⟨r.hd,by have:=r.dp; rw[make_depth]; omega,by have:=r.un; rw[make_units]; omega⟩
theorem Room.depth {k:Nat} {A:Around} (r:Room k A):A.depth<recursionLimit:=by have:=r.dp; omega
theorem Room.units0 {k:Nat} {A:Around} (r:Room k A):A.units<cLine:=by have:=r.un; omega
def tNil:TA:=fun _ H Q=>Q [] H
def tCons (ta:TE) (tr:TA):TA:=fun σ H Q=>ta σ H fun x H1=>tr σ H1 fun xs H2=>Q (x :: xs) H2
section
variable {X:Cx} {e:Expr} {es:List Expr} {te:TE} {t:TA} {pos:Pos}
theorem pa_nil:PA X [] tNil:=fun _ _ _ _ H Q I h=>Calls.spliced_nil ⟨[],H,I,.nil,h⟩
theorem pa_cons (ha:PE X e te) (hr:PA X es t) (hs:starEach (e :: es) X.env=(false,eval e X.env) :: starEach es X.env:=by rfl):PA X (e :: es) (tCons te t):=by
 intro pos pins s σ H Q I h
 rw[hs]
 show wpAny _ _ (spliced ((false,eval e X.env) :: backTo pos (starEach es X.env))) _ _ s
 refine Calls.spliced_cons (thn (ha pins s σ H _ I h) fun u s1 ⟨x,H1,I1,r1,q1⟩=>?_)
 exact thn (hr pos pins s1 σ H1 _ I1 q1) fun us s2 ⟨xs,H2,I2,r2,q2⟩=>⟨x :: xs,H2,I2,.cons r1 r2,q2⟩
def tTup (t:TA):TE:=fun σ H Q=>t σ H fun xs H1=>xs.length≤sizeLine∧∀ p,H1 p=none→Q (.ref p) (upd H1 p (.tup xs))
def tLst (t:TA):TE:=fun σ H Q=>t σ H fun xs H1=>xs.length≤sizeLine∧∀ p,H1 p=none→Q (.ref p) (upd H1 p (.lst xs))
theorem pe_tup {x1} (h:PA X es t):PE X (.Tuple es x1 pos) (tTup t):=by
 intro pins s σ H Q I hq
 refine wpAny_Tuple_spliced (thn (h pos pins s σ H _ I hq) fun us s1 ⟨xs,H1,I1,r,z,q⟩=>⟨by rw[← r.length]; exact z,?_⟩)
 have hf:H1 s1.heap.objs.size=none:=I1.hok.fresh (Nat.le_refl _)
 refine⟨.ref s1.heap.objs.size,upd H1 s1.heap.objs.size (.tup xs),I1.laid (t':=s1.toks) (fun b u e=>Heap.get?_push_of_some _ e) (Nat.le_refl _) ?_,rfl,q _ hf⟩
 exact⟨z,us,r,⟨_,Heap.get?_push_size _ rfl,rfl,_,rfl⟩⟩
theorem pe_lst (h:PA X es t):PE X (.List es pos) (tLst t):=by
 intro pins s σ H Q I hq
 refine wpAny_List_spliced (thn (h pos pins s σ H _ I hq) fun us s1 ⟨xs,H1,I1,r,z,q⟩=>⟨by rw[← r.length]; exact z,?_⟩)
 have hf:H1 s1.heap.objs.size=none:=I1.hok.fresh (Nat.le_refl _)
 refine⟨.ref s1.heap.objs.size,upd H1 s1.heap.objs.size (.lst xs),I1.laid (t':=s1.toks) (fun b u e=>Heap.get?_push_of_some _ e) (Nat.le_refl _) ?_,rfl,q _ hf⟩
 exact⟨z,us,0,r,Heap.get?_push_size _ rfl⟩
end
abbrev Sp:=List V→Hp→VK→XK→Prop
abbrev CXT:=List Env→Hp→Shared→XK→Value→Shared→Prop
structure Env0 (P:Program) (w:World) (K:PySem.W.Frag) (mg:Str→Option Value) (base:Heap) (A:Around) (outer:List Env) (s:Shared) (H:Hp):Prop where
 frames:A.frames=some outer
 mod:Mod K mg base
 bs:∀ b o,base.get? b=some o→s.heap.get? b=some o∧H b=none
 bsz:base.objs.size≤s.heap.objs.size
 funs:s.heap.FunFrames base outer
 frf:∀ b∈frs outer,H b=none
 hok:HOk P w H s.heap
 bare:AllBare s.gens
def CE (outer:List Env) (P:Program) (w:World) (H:Hp) (s:Shared) (Q:VK) (u:Value) (s':Shared):Prop:=
 ∃ v H',s'.os=s.os∧AllBare s'.gens∧Un (frs outer) [] H H' s.heap s'.heap∧HOk P w H' s'.heap∧RelV v u∧Q v H'
def CR (CX:CXT) (outer:List Env) (P:Program) (w:World) (H:Hp) (s:Shared) (Q:VK) (E:XK) (r:Result) (s':Shared):Prop:=
 match r with
 | .ok (.ret u)=>CE outer P w H s Q u s'
 | .ok _=>False
 | .error e=>CX outer H s E e s'
structure FnOk (P:Program) (w:World) (K:PySem.W.Frag) (mg:Str→Option Value) (base:Heap) (CX:CXT) (k:Nat) (f:Addr) (fd:FuncData) (ps:List Str) (sp:Sp):Prop where
 len:∀ vs H Q E,sp vs H Q E→vs.length=ps.length
 run:∀ (A:Around) (outer:List Env) (s:Shared) (H:Hp) (args:Args) (us:List Value) (vs:List V) (Q:VK) (E:XK),Room k A→Env0 P w K mg base A outer s H→BindsTo s fd args (ps.zip us)→Vals vs us→sp vs H Q E →
  codeAny (model P w) A (.call (.ref f) args) (CR CX outer P w H s Q E) s
theorem FnOk.mono {P:Program} {w:World} {K:PySem.W.Frag} {mg:Str→Option Value} {base:Heap} {CX:CXT} {j k:Nat} {f:Addr} {fd:FuncData} {ps:List Str} {sp:Sp} (F:FnOk P w K mg base CX j f fd ps sp) (h:j≤k) :
  FnOk P w K mg base CX k f fd ps sp:=⟨F.len,fun A outer s H args us vs Q E hr=>F.run A outer s H args us vs Q E (hr.mono h)⟩
theorem Env0.make {P:Program} {w:World} {K:PySem.W.Frag} {mg:Str→Option Value} {base:Heap} {A:Around} {outer:List Env} {s:Shared} {H:Hp} (e:Env0 P w K mg base A outer s H) (C:Addr) (us:List Value) (kw:List (Str × Value)) :
  Env0 P w K mg base (A.under (.builtin "type.__call__" ⟨.ref C :: us,kw⟩)) outer s H:=⟨by first | exact e.frames | (simpa [Around.under,Code.envs,Code.isFrame,pushEnvs] using e.frames),e.mod,e.bs,e.bsz,e.funs,e.frf,e.hok,e.bare⟩
theorem Env0.in1 {P:Program} {w:World} {K:PySem.W.Frag} {mg:Str→Option Value} {base:Heap} {A:Around} {outer:List Env} {s:Shared} {H:Hp} (e:Env0 P w K mg base A outer s H) :
  Env0 P w K mg base A.in1 outer s H:=⟨e.frames,e.mod,e.bs,e.bsz,e.funs,e.frf,e.hok,e.bare⟩
section
variable {X:Cx} {pins:List (Addr × Obj)} {σ:St} {H:Hp} {s s':Shared}
theorem Inv.env0 (I:Inv X pins σ H s):Env0 X.prog X.w X.K X.mg X.base X.A X.stack s H:=
 ⟨I.ok.frames,I.ok.mod,I.bs,Nat.le_trans I.ok.bsz I.sz,I.stack,I.stkFree,I.hok,I.bare⟩
theorem Inv.after {Q:VK} {u:Value} (I:Inv X pins σ H s) (h:CE X.stack X.prog X.w H s Q u s'):EP X pins σ Q u s':=by
 obtain⟨v,H',os,bare,un,hok,r,q⟩:=h
 obtain⟨hh,g,d,t,os'⟩:=s'
 obtain rfl:os'=s.os:=os
 exact⟨v,H',I.call (h':=hh) (g':=g) (d':=d) (t':=t) (ch:=[]) un hok bare (fun b z=>absurd z (by simp)),r,q⟩
end
def tCall (sp:Sp) (dvs:List V) (E:XK) (t:TA):TE:=fun σ H Q=>t σ H fun vs H1=>sp (vs++dvs) H1 Q E
def tMake (C:Addr) (sp:Sp) (dvs:List V) (E:XK) (t:TA):TE:=fun σ H Q=>t σ H fun vs H1=>∀ x dx,H1 x=none→H1 dx=none→dx≠x →
 sp (.ref x :: (vs++dvs)) (upd (upd H1 dx (.own x)) x (.ins C dx [])) (fun v H2=>v = .non∧Q (.ref x) H2) E
def Binds (K:PySem.W.Frag) (fd:FuncData) (ps:List Str) (ds:List Value):Prop:=
 ∀ (s:Shared) (us:List Value),K.In s.heap→(us++ds).length=ps.length→BindsTo s fd ⟨us,[]⟩ (ps.zip (us++ds))
theorem Binds.all {K:PySem.W.Frag} {fd:FuncData} {ps:List Str} (h:∀ us:List Value,us.length=ps.length→bindArgs fd ⟨us,[]⟩=pure (ps.zip us)):Binds K fd ps []:=fun s us _ hl=>by
 rw[List.append_nil] at hl ⊢
 exact .of_eq (h us hl)
def Passes (CX:CXT) (X:Cx) (E:XK):Prop:=∀ (pins:List (Addr × Obj)) (σ:St) (H:Hp) (s:Shared) (e:Value) (s':Shared),Inv X pins σ H s→CX X.stack H s E e s'→X.xe e s'
section
variable {X:Cx} {CX:CXT} {k:Nat} {f C:Addr} {fd:FuncData} {ps:List Str} {sp:Sp} {dvs:List V} {ds:List Value} {E:XK} {x m:Str} {p pos apos:Pos} {e o:Expr} {es:List Expr} {ta:TE} {t:TA}
theorem run_fn {pins:List (Addr × Obj)} {σ:St} {H:Hp} {s:Shared} {Q:VK} {us:List Value} {vs:List V} (F:FnOk X.prog X.w X.K X.mg X.base CX k f fd ps sp) (hr:Room k X.A) (hb:Binds X.K fd ps ds) (hd:Vals dvs ds) (hx:Passes CX X E)
  (I:Inv X pins σ H s) (r:Vals vs us) (h:sp (vs++dvs) H Q E):wpAny (model X.prog X.w) X.A (call (.ref f) us) (EP X pins σ Q) X.xe s:=by
 have r2:Vals (vs++dvs) (us++ds):=r.append hd
 have hl:(us++ds).length=ps.length:=by rw[← r2.length]; exact F.len _ _ _ _ h
 refine wpAny_call (codeAny_mono (F.run X.A X.stack s H ⟨us,[]⟩ (us++ds) (vs++dvs) Q E hr I.env0 (hb s us I.kIn hl) r2 h) fun r s' hq=>?_)
 cases r with
 | error e=>exact hx pins σ H s e s' I hq
 | ok fl=>
  cases fl with
  | ret u=>exact I.after hq
  | next=>exact False.elim hq
  | brk=>exact False.elim hq
  | cont=>exact False.elim hq
theorem pe_call (F:FnOk X.prog X.w X.K X.mg X.base CX k f fd ps sp) (hr:Room k X.A) (hg:Gl X x) (hm:X.mg x=some (.ref f)) (hk:PySem.W.keepIn X.K (.ref f)=true) (hb:Binds X.K fd ps ds) (hd:Vals dvs ds) (hx:Passes CX X E)
  (ha:PA X (e :: es) t) (hdb:(x == ("__debug__" : Str))=false:=by decide) (he:starEach (e :: es) X.env=(false,eval e X.env) :: starEach es X.env:=by rfl) (hpl:(backTo pos (starEach es X.env)).any (·.1)=false:=by rfl) :
  PE X (.Call (.Name x p) (e :: es) [] pos) (tCall sp dvs E t):=by
 intro pins s σ H Q I h
 refine wpAny_Call_Name_kw (ld_glob I hg hm ?_ hdb)
 refine PySem.W.callWith_K (h₀:=X.base) I.ok.mod.kin hk (thn (ha pos pins s σ H _ I h) fun us s1 ⟨vs,H1,I1,r,q⟩=>⟨I1.kIn,?_⟩) he hpl
 exact run_fn F hr hb hd hx I1 r q
structure Mk (K:PySem.W.Frag) (C f:Addr):Prop where
 makes:PySem.W.makesIn K C=true
 init:PySem.W.findIn K (.ref C) "__init__" = some (some (.ref f))
 fn:PySem.W.isFn K (.ref f)=true
 kp:PySem.W.keepIn K (.ref C)=true
theorem run_make {pins:List (Addr × Obj)} {σ:St} {H:Hp} {s:Shared} {Q:VK} {us:List Value} {vs:List V} (M:Mk X.K C f) (F:FnOk X.prog X.w X.K X.mg X.base CX k f fd ps sp) (hr:Room (k+1) X.A) (hb:Binds X.K fd ps ds) (hd:Vals dvs ds)
  (hx:Passes CX X E) (I:Inv X pins σ H s) (r:Vals vs us)
  (h:∀ x dx,H x=none→H dx=none→dx≠x→sp (.ref x :: (vs++dvs)) (upd (upd H dx (.own x)) x (.ins C dx [])) (fun v H2=>v = .non∧Q (.ref x) H2) E) :
  wpAny (model X.prog X.w) X.A (call (.ref C) us) (EP X pins σ Q) X.xe s:=by
 have hq:=h (s.heap.objs.size+1) s.heap.objs.size (I.hok.fresh (Nat.le_succ _)) (I.hok.fresh (Nat.le_refl _)) (Nat.ne_of_lt (Nat.lt_succ_self _))
 have I2:=Inv.made (C:=C) I
 have r2:Vals (V.ref (s.heap.objs.size+1) :: (vs++dvs)) (Value.ref (s.heap.objs.size+1) :: (us++ds)):=.cons rfl (r.append hd)
 have hl:(Value.ref (s.heap.objs.size+1) :: us++ds).length=ps.length:=by
  have e:=r2.length
  rw[F.len _ _ _ _ hq] at e
  exact e.symm
 refine wpAny_call (make_map (f:=f) I.kIn M.makes M.init (beq_iff_eq.mp M.fn) (codeAny_mono (F.run _ X.stack _ _ ⟨Value.ref (s.heap.objs.size+1) :: us,[]⟩ (Value.ref (s.heap.objs.size+1) :: (us++ds)) _ _ E (hr.make C us [])
  (I2.env0.make C us []) (hb _ (Value.ref (s.heap.objs.size+1) :: us) I2.kIn hl) r2 hq) fun r s' hq'=>?_))
 cases r with
 | error e=>exact hx pins σ _ _ e s' I2 hq'
 | ok fl=>
  cases fl with
  | ret u=>
   obtain⟨v,H',I3,rv,ev,q3⟩:=I2.after hq'
   subst ev
   exact⟨rv,⟨V.ref (s.heap.objs.size+1),H',I3,rfl,q3⟩⟩
  | next=>exact False.elim hq'
  | brk=>exact False.elim hq'
  | cont=>exact False.elim hq'
theorem pe_make (M:Mk X.K C f) (F:FnOk X.prog X.w X.K X.mg X.base CX k f fd ps sp) (hr:Room (k+1) X.A) (hg:Gl X x) (hm:X.mg x=some (.ref C)) (hb:Binds X.K fd ps ds) (hd:Vals dvs ds) (hx:Passes CX X E)
  (ha:PA X (e :: es) t) (hdb:(x == ("__debug__" : Str))=false:=by decide) (he:starEach (e :: es) X.env=(false,eval e X.env) :: starEach es X.env:=by rfl) (hpl:(backTo pos (starEach es X.env)).any (·.1)=false:=by rfl) :
  PE X (.Call (.Name x p) (e :: es) [] pos) (tMake C sp dvs E t):=by
 intro pins s σ H Q I h
 refine wpAny_Call_Name_kw (ld_glob I hg hm ?_ hdb)
 refine PySem.W.callWith_K (h₀:=X.base) I.ok.mod.kin M.kp (thn (ha pos pins s σ H _ I h) fun us s1 ⟨vs,H1,I1,r,q⟩=>⟨I1.kIn,?_⟩) he hpl
 exact run_make M F hr hb hd hx I1 r q
end
section
variable {X:Cx} {CX:CXT} {k:Nat} {f C:Addr} {fd:FuncData} {ps ks:List Str} {sp:Sp} {E:XK} {x m:Str} {p pos apos kpos:Pos} {e o:Expr} {es:List Expr} {kws:List Keyword} {te ta:TE} {t tk:TA} {nm:Option Str}
variable {g:List Value→List Value→List Value} {gV:List V→List V→List V}
end
structure FnScope (N P:List Str) (sc:Scope):Prop where
 kind:sc.kind = .function
 co:sc.isCoroutine=false
 gen:sc.isGenerator=false
 nd:N.Nodup
 pre:N.take P.length=P
 par:∀ x∈P,sc.names.lookup x=some .local∨sc.names.lookup x=some .cell
 nofree:∀ y∈sc.names,y.2≠.free
theorem bindL_out {kindOf:Str→Option NameKind} {x:Str}:∀ {binds:List (Str × Value)} {m:Str→Option Value},(∀ v,(x,v)∉binds)→bindL kindOf binds m x=m x
 | [],_,_=>rfl
 | (n,v) :: r,m,h=>by
  unfold bindL
  rw[bindL_out fun w hw=>h w (List.mem_cons_of_mem _ hw)]
  split
  ·have:x≠n:=by rintro rfl; exact h v List.mem_cons_self
   simp[this]
  ·rfl
theorem bindC_out {kindOf:Str→Option NameKind} {x:Str}:∀ {binds:List (Str × Value)} {m:Str→Option Value},(∀ v,(x,v)∉binds)→bindC kindOf binds m x=m x
 | [],_,_=>rfl
 | (n,v) :: r,m,h=>by
  unfold bindC
  rw[bindC_out fun w hw=>h w (List.mem_cons_of_mem _ hw)]
  split
  ·rfl
  ·have:x≠n:=by rintro rfl; exact h v List.mem_cons_self
   simp[this]
theorem bindL_get {kindOf:Str→Option NameKind} {x:Str} {v:Value}:∀ {P:List Str} {vs:List Value} {i:Nat} {m:Str→Option Value},P.Nodup→P[i]? = some x→vs[i]? = some v→kindOf x=some .local →
  bindL kindOf (P.zip vs) m x=some v
 | [],_,_,_,_,h,_,_=>by simp at h
 | _ :: _,[],_,_,_,_,h,_=>by simp at h
 | p :: P,w :: vs,0,m,nd,h1,h2,hk=>by
  simp at h1 h2; subst h1; subst h2
  show bindL kindOf ((p,w) :: P.zip vs) m p=_
  unfold bindL
  rw[bindL_out fun v hv=>(List.nodup_cons.mp nd).1 (List.of_mem_zip hv).1,if_pos hk]
  simp
 | p :: P,w :: vs,i+1,m,nd,h1,h2,hk=>by
  show bindL kindOf ((p,w) :: P.zip vs) m x=_
  unfold bindL
  exact bindL_get (i:=i) (List.nodup_cons.mp nd).2 (by simpa using h1) (by simpa using h2) hk
theorem bindC_get {kindOf:Str→Option NameKind} {x:Str} {v:Value}:∀ {P:List Str} {vs:List Value} {i:Nat} {m:Str→Option Value},P.Nodup→P[i]? = some x→vs[i]? = some v→kindOf x≠some .local →
  bindC kindOf (P.zip vs) m x=some v
 | [],_,_,_,_,h,_,_=>by simp at h
 | _ :: _,[],_,_,_,_,h,_=>by simp at h
 | p :: P,w :: vs,0,m,nd,h1,h2,hk=>by
  simp at h1 h2; subst h1; subst h2
  show bindC kindOf ((p,w) :: P.zip vs) m p=_
  unfold bindC
  rw[bindC_out fun v hv=>(List.nodup_cons.mp nd).1 (List.of_mem_zip hv).1,if_neg hk]
  simp
 | p :: P,w :: vs,i+1,m,nd,h1,h2,hk=>by
  show bindC kindOf ((p,w) :: P.zip vs) m x=_
  unfold bindC
  exact bindC_get (i:=i) (List.nodup_cons.mp nd).2 (by simpa using h1) (by simpa using h2) hk
def start (N:List Str) (vs:List V):St:=vs.map some++List.replicate (N.length-vs.length) none
def cxOf (CX:CXT) (P:Program) (w:World) (K:PySem.W.Frag) (mg:Str→Option Value) (base:Heap) (N:List Str) (qual:Str) (scope:Scope) (f:Addr) (cd:Value) (A:Around) (outer:List Env) (s:Shared) (H:Hp) (E:XK):Cx where
 prog:=P
 w:=w
 K:=K
 mg:=mg
 base:=base
 A:=A.deeper (envOfC qual scope s.heap.objs.size f cd)
 N:=N
 s₀:=s
 H₀:=H
 env:=envOfC qual scope s.heap.objs.size f cd
 outer:=outer
 stack:=envOfC qual scope s.heap.objs.size f cd :: outer
 ex:=[]
 calm:=true
 fn:=fun _=>true
 pn:=[]
 xe:=fun e s'=>wpAny (model P w) (A.deeper (envOfC qual scope s.heap.objs.size f cd)) (leaving (envOfC qual scope s.heap.objs.size f cd) e) (fun _ s''=>CX outer H s E e s'') (fun e' s''=>CX outer H s E e' s'') s'
theorem cell_has {sc:Scope} {n:Nat} {x:Str} (h:sc.names.lookup x=some .cell):∃ c,(cellsFrom n sc.names []).lookup x=some c:=by
 have q:=PySem.W.cellsFrom_some sc.names n [] (.inl h)
 exact Option.isSome_iff_exists.mp q
theorem inv_start {CX:CXT} {P:Program} {w:World} {K:PySem.W.Frag} {mg:Str→Option Value} {base:Heap} {N ps:List Str} {qual:Str} {scope:Scope} {f:Addr} {cd:Value} {A:Around} {outer:List Env} {s s1:Shared} {H:Hp} {E:XK} {us:List Value} {vs:List V}
  (S:FnScope N ps scope) (hd:A.handled=none) (e0:Env0 P w K mg base A outer s H) (hl:vs.length=ps.length) (r:Vals vs us)
  (x:InCallC s s.heap.objs.size (bindL (envOfC qual scope s.heap.objs.size f cd).kindOf (ps.zip us) fun _=>none) (cellsFrom (s.heap.objs.size+1) scope.names []) (bindC (envOfC qual scope s.heap.objs.size f cd).kindOf (ps.zip us) fun _=>none) s1) :
  Inv (cxOf CX P w K mg base N qual scope f cd A outer s H E) [] (start N vs) H s1:=by
 have hpl:ps.length≤N.length:=by have:=congrArg List.length S.pre; rw[List.length_take] at this; omega
 obtain⟨h1,tk,rfl,hk⟩:=x.done
 have noA:∀ b:Addr,b∉(cxOf CX P w K mg base N qual scope f cd A outer s H E).ex:=fun b z=>absurd (show b∈([]:List Addr) from z) (by simp)
 refine⟨⟨e0.mod,S.kind,rfl,rfl,Nat.le_refl _,fun y z c h1 h2=>?_,fun y hy=>?_,fun y c _ h=>?_,fun _=>hd,Around.frames_deeper e0.frames,.inr ⟨rfl,rfl⟩,fun b z=>absurd z (noA b),e0.bs,e0.bsz,fun b _ _=>noA b,fun b z=>absurd z (noA b),e0.funs,e0.frf⟩,
  rfl,e0.bare,Un.kept hk,⟨_,x.toInCall.ns,fun i y v h1 h2 h3=>?_⟩,fun y c h=>⟨_,x.cell y c h⟩,e0.hok.fresh (Nat.le_refl _),fun y c h=>?_,fun p hp=>absurd (show p∈([]:List (Addr × Obj)) from hp) (by simp),e0.hok.kept hk,?_⟩
 ·exact name_of_addr x.apart (PySem.mem_of_lookup h1) (PySem.mem_of_lookup h2)
 ·have hy:scope.names.lookup y=some .cell∨scope.names.lookup y=some .free:=hy
  rcases hy with hy | hy
  ·exact cell_has hy
  ·exact absurd rfl (S.nofree _ (PySem.mem_of_lookup hy))
 ·exact Nat.le_of_lt (x.above y c (PySem.mem_of_lookup h))
 ·have hi:i<vs.length:=by
   unfold start at h2
   by_cases hi:i<vs.length
   ·exact hi
   ·rw[List.getElem?_append_right (by simpa using hi)] at h2
    rw[List.getElem?_replicate] at h2
    split at h2 <;> cases h2
  have ha:vs[i]? = some v:=by
   unfold start at h2
   rw[List.getElem?_append_left (by simpa using hi),List.getElem?_map] at h2
   cases e:vs[i]? with
   | none=>rw[e] at h2; cases h2
   | some a=>rw[e] at h2; cases h2; rfl
  obtain⟨u,hu,rv⟩:=r.get ha
  have hp:ps[i]? = some y:=by
   rw[← S.pre,List.getElem?_take_of_lt (by omega)]; exact h1
  have ndP:ps.Nodup:=by rw[← S.pre]; exact S.nd.sublist (List.take_sublist _ _)
  refine⟨u,rv,?_⟩
  rcases S.par y (List.mem_of_getElem? hp) with k | k
  ·exact .inl ⟨k,bindL_get ndP hp hu k⟩
  ·obtain⟨c,e⟩:=cell_has (n:=s.heap.objs.size+1) k
   refine .inr ⟨.inl k,c,e,?_⟩
   have q:=x.cell y c e
   rw[bindC_get ndP hp hu (by show scope.names.lookup y≠_; rw[k]; decide)] at q
   exact q
 ·exact e0.hok.fresh (Nat.le_of_lt (x.above y c (PySem.mem_of_lookup h)))
 ·unfold start
  show _=N.length
  rw[List.length_append,List.length_map,List.length_replicate]
  omega
theorem fn_of {CX:CXT} {P:Program} {w:World} {K:PySem.W.Frag} {mg:Str→Option Value} {base:Heap} {k:Nat} {f:Addr} {name qual:Str} {params:Arguments} {body:List Stmt} {scope:Scope} {dV kV doc pm cdv ct oc:Value} {an od:Option Addr}
  {osl:Array (Option Value)} {N ps:List Str} {sp:Sp} (lk:K.lookup f=some ⟨oc,od,.func (PySem.W.fnOf name qual params body scope dV kV doc pm an cdv ct),osl⟩) (hcd:PySem.W.codeIn K cdv qual=true) (S:FnScope N ps scope)
  (len:∀ vs H Q E,sp vs H Q E→vs.length=ps.length)
  (hbody:∀ (A:Around) (outer:List Env) (s:Shared) (H:Hp) (vs:List V) (Q:VK) (E:XK),Room k (A.deeper (envOfC qual scope s.heap.objs.size f cdv))→sp vs H Q E →
   ∃ t,PSs (cxOf CX P w K mg base N qual scope f cdv A outer s H E) body t∧t { nx:=fun _ H'=>Q .non H',rt:=Q } (start N vs) H) :
  FnOk P w K mg base CX (k+1) f (PySem.W.fnOf name qual params body scope dV kV doc pm an cdv ct) ps sp:=by
 refine⟨len,fun A outer s H args us vs Q E hr e0 hb r hsp=>?_⟩
 have hl:=len _ _ _ _ hsp
 have KX:K.In s.heap:=e0.mod.kin.keeps fun b o e=>(e0.bs b o e).1
 have lim:s.heap.NoLimit:=e0.mod.nolimit.keeps fun b o e=>(e0.bs b o e).1
 have hkind:∀ y∈ps.zip us,scope.names.lookup y.1=some .local∨(scope.names.lookup y.1=some .cell∧((cellsFrom (s.heap.objs.size+1) scope.names []).lookup y.1).isSome=true):=fun ⟨n,v⟩ hy=>by
  rcases S.par n (List.of_mem_zip hy).1 with q | q
  ·exact .inl q
  ·exact .inr ⟨q,PySem.W.cellsFrom_some _ _ _ (.inl q)⟩
 refine codeAny_call_function hr.depth (KX _ _ lk) rfl S.co S.gen rfl (PySem.W.codeRec_of KX hcd) (hb _ _ _ _ ?_)
 refine wpAny_newFunctionEnv_cells S.kind hkind fun env he s1 x=>?_
 subst he
 refine⟨lim.keeps x.toInCall.keep,codeAny_func ?_⟩
 obtain⟨t,ht,hq⟩:=hbody A outer s H vs Q E (hr.deeper _) hsp
 have I:Inv (cxOf CX P w K mg base N qual scope f cdv A outer s H E) [] (start N vs) H s1:=inv_start S hr.hd e0 hl r x
 refine wpAny_mono (ht [] s1 (start N vs) H _ I hq) (fun fl s' hs=>?_) fun e s' hs=>hs
 have fin:∀ {σ':St} {H':Hp} {v:V} {u:Value},Inv (cxOf CX P w K mg base N qual scope f cdv A outer s H E) [] σ' H' s'→RelV v u→Q v H'→CE outer P w H s Q u s':=
  fun {σ' H' v u} J rv q=>⟨v,H',J.os,J.bare,J.base,J.hok,rv,q⟩
 cases fl with
 | ret u=>
  obtain⟨v,σ',H',J,rv,q⟩:=hs
  exact fin J rv q
 | next=>
  obtain⟨σ',H',J,q⟩:=hs
  exact fin (v:=V.non) (u:=Value.none) J rfl q
 | brk=>
  obtain⟨_,_,_,q⟩:=hs
  exact False.elim q
 | cont=>
  obtain⟨_,_,_,q⟩:=hs
  exact False.elim q
end L2
namespace L2
open PySem PySem.Spec PyProof.Rows
section
variable {X:Cx} {x:Str} {p pos:Pos} {e:Expr} {es:List Expr} {t:TA} {id T:String} {r:List V→Hp→VK→Prop}
def tCB (r:List V→Hp→VK→Prop) (t:TA):TE:=fun σ H Q=>t σ H fun vs H1=>r vs H1 Q
theorem pe_callB (hc:CallR X (.builtin id) r) (hg:Gl X x) (hm:X.mg x=none) (hv:bootBuiltins x=some (.builtin id)) (ha:PA X (e :: es) t) (hn:x≠"__name__" :=by decide) (hdb:(x == ("__debug__" : Str))=false:=by decide)
  (he:starEach (e :: es) X.env=(false,eval e X.env) :: starEach es X.env:=by rfl) (hpl:(backTo pos (starEach es X.env)).any (·.1)=false:=by rfl):PE X (.Call (.Name x p) (e :: es) [] pos) (tCB r t):=by
 intro pins s σ H Q I h
 refine wpAny_Call_Name_kw (ld_blt I hg hm hv ?_ hn hdb)
 exact PyProof.Rows.callWith_builtin1 (thn (ha pos pins s σ H _ I h) fun us s1 ⟨vs,H1,I1,r1,q1⟩=>hc pins s1 σ H1 vs us Q I1 r1 q1) he hpl
theorem pe_callTy (hc:CallR X (.type T) r) (hg:Gl X x) (hm:X.mg x=none) (hv:bootBuiltins x=some (.type T)) (ha:PA X (e :: es) t) (hn:x≠"__name__" :=by decide) (hdb:(x == ("__debug__" : Str))=false:=by decide)
  (he:starEach (e :: es) X.env=(false,eval e X.env) :: starEach es X.env:=by rfl) (hpl:(backTo pos (starEach es X.env)).any (·.1)=false:=by rfl):PE X (.Call (.Name x p) (e :: es) [] pos) (tCB r t):=by
 intro pins s σ H Q I h
 refine wpAny_Call_Name_kw (ld_blt I hg hm hv ?_ hn hdb)
 exact PyProof.Rows.callWith_type1 (thn (ha pos pins s σ H _ I h) fun us s1 ⟨vs,H1,I1,r1,q1⟩=>hc pins s1 σ H1 vs us Q I1 r1 q1) he hpl
end
end L2
namespace HT
open PySem PyProof.Rows
section
open PySem.SeqAt
open PySem.AutoSeq1 (wpAny_loadPart')
open PySem.MeetsSeq PySem.MeetsSeq2 PySem.MeetsSeq3
end
section
variable {prog:Program} {w:World} {A:Around} {E:Value→Shared→Prop} {s:Shared}
def sIx (n d:Nat):Option Int→Nat
 | none=>d
 | some v=>if v<0 then (v+(n:Int)).toNat else min v.toNat n
theorem sIx_none (n d:Nat):sIx n d none=d:=rfl
theorem sIx_nat (n d k:Nat):sIx n d (some (k:Int))=min k n:=by
 show (if (k:Int)<0 then ((k:Int)+(n:Int)).toNat else min (k:Int).toNat n)=min k n
 rw[if_neg (by omega),Int.toNat_natCast]
theorem sIx_le (n d:Nat) (hd:d≤n) (o:Option Int):sIx n d o≤n:=by
 cases o with
 | none=>exact hd
 | some v=>
  show (if v<0 then (v+(n:Int)).toNat else min v.toNat n)≤n
  by_cases hv:v<0
  ·rw[if_pos hv]; omega
  ·rw[if_neg hv]; exact Nat.min_le_right _ _
theorem clip_eq (v:Int) (n d:Nat):(if v<0 then max (v+(n:Int)) 0 else min v (n:Int))=((sIx n d (some v):Nat):Int):=by
 show (if v<0 then max (v+(n:Int)) 0 else min v (n:Int))=(((if v<0 then (v+(n:Int)).toNat else min v.toNat n):Nat):Int)
 by_cases hv:v<0
 ·simp only [if_pos hv]; omega
 ·simp only [if_neg hv]; omega
theorem adjust_gen (lo hi:Option Int) (n:Nat):Builtin.Slice.sliceAdjust lo hi 1 (n:Int)=(((sIx n 0 lo:Nat):Int),((sIx n n hi:Nat):Int)):=by
 have h1:¬ ((1:Int)<0):=by omega
 unfold Builtin.Slice.sliceAdjust
 simp only [h1,if_false]
 refine Prod.ext ?_ ?_
 ·cases lo with
  | none=>rfl
  | some v=>exact clip_eq v n 0
 ·cases hi with
  | none=>rfl
  | some v=>exact clip_eq v n n
theorem places_gen (i j:Nat):Builtin.Slice.slicePlaces (i:Int) (j:Int) 1=j-i:=by
 unfold Builtin.Slice.slicePlaces
 have h1:(1:Int) > 0:=by omega
 simp only [h1,if_true,Int.ediv_one]
 split <;> omega
theorem slicePart_ {v:Value} {o:Option Int} {Q:Option Int→Shared→Prop} (p:IsPart v o) (h:Q o s):wpAny (model prog w) A (Builtin.Slice.slicePartIndex v) Q E s:=by
 cases p with
 | none=>exact slicePart_none h
 | int i t=>exact slicePart_int h
theorem sliceApplied_gen {sl:Addr} {vl vu:Value} {lo hi:Option Int} {n:Nat} {Q:Int × Int × Nat→Shared→Prop} (hs:s.heap.IsSliceOf sl vl vu .none) (pl:IsPart vl lo) (pu:IsPart vu hi)
  (h:Q (((sIx n 0 lo:Nat):Int),1,sIx n n hi-sIx n 0 lo) s):wpAny (model prog w) A (Builtin.Slice.sliceApplied (.ref sl) (pure (n:Int))) Q E s:=by
 obtain⟨os,hos,hcs,hds⟩:=id hs
 unfold Builtin.Slice.sliceApplied Builtin.Slice.sliceFields
 refine wpAny_bind (wpAny_bind (wpAny_field hos hds (x:=vl) rfl (wpAny_bind (wpAny_field hos hds (x:=vu) rfl (wpAny_bind (wpAny_field hos hds (x:=.none) rfl (wpAny_pure ?_)))))))
 refine wpAny_bind (slicePart_none ?_)
 show wpAny _ _ (if ((1:Int) == 0)=true then _ else _) _ _ s
 rw[if_neg (by decide)]
 refine wpAny_bind (slicePart_ pl (wpAny_bind (slicePart_ pu (wpAny_bind (wpAny_pure ?_)))))
 show wpAny _ _ (match Builtin.Slice.sliceAdjust lo hi 1 (n:Int) with | (lo,hi)=>pure (lo,(1:Int),Builtin.Slice.slicePlaces lo hi 1)) _ _ s
 rw[adjust_gen lo hi n]
 show wpAny _ _ (pure (((sIx n 0 lo:Nat):Int),(1:Int),Builtin.Slice.slicePlaces ((sIx n 0 lo:Nat):Int) ((sIx n n hi:Nat):Int) 1)) _ _ s
 rw[places_gen]
 exact wpAny_pure h
theorem pick_gen (xs:Array Value) (i k:Nat):((List.range k).filterMap fun (m:Nat)=>xs[((i:Int)+(m:Int)*1).toNat]?).toArray=((xs.toList.drop i).take k).toArray:=by
 have e:(fun (m:Nat)=>xs[((i:Int)+(m:Int)*1).toNat]?)=fun m=>xs[i+m]?:=by
  funext m
  have:((i:Int)+(m:Int)*1).toNat=i+m:=by omega
  rw[this]
 rw[e]
 have:=pick_run xs i k
 rw[List.filterMap_map] at this
 have e2:((fun x=>xs[x]?) ∘ fun x=>i+x)=fun m=>xs[i+m]?:=rfl
 rw[e2] at this
 rw[this]
theorem getItem_tuple_cut {t sl:Addr} {items:Array Value} {vl vu:Value} {lo hi:Option Int} {Q:Value→Shared→Prop} (ht:IsTup s.heap t items) (hs:s.heap.IsSliceOf sl vl vu .none) (pl:IsPart vl lo) (pu:IsPart vu hi)
  (hw:¬ (sIx items.size 0 lo=0∧sIx items.size items.size hi=items.size))
  (h:Q (.ref s.heap.objs.size) { s with heap:=s.heap.push { cls:=.type "tuple",data:=.seq ((items.toList.drop (sIx items.size 0 lo)).take (sIx items.size items.size hi-sIx items.size 0 lo)).toArray } })
  (hsz:items.size≤sizeLine):wpAny (model prog w) A (getItem (.ref t) (.ref sl)) Q E s:=by
 have htake:sizeOk (.seq ((items.toList.drop (sIx items.size 0 lo)).take (sIx items.size items.size hi-sIx items.size 0 lo)).toArray):=by
  show ((items.toList.drop (sIx items.size 0 lo)).take (sIx items.size items.size hi-sIx items.size 0 lo)).toArray.size≤sizeLine
  rw[List.size_toArray,List.length_take,List.length_drop,Array.length_toList]
  omega
 have hj:sIx items.size items.size hi≤items.size:=sIx_le _ _ (Nat.le_refl _) hi
 obtain⟨os,hos,hcs,hds⟩:=id hs
 have hTs:s.TypeIs (.ref sl) "slice" :=⟨os,hos,hcs⟩
 unfold getItem
 try with_reducible refine wpAny_holding ?_
 first | refine wpAny_bind (wpAny_pure ?_) | skip
 refine wpAny_bind (wpAny_sequenceKey ht.typeIs (by decide) ?_)
 refine wpAny_bind (wpAny_callSpecial?_slot (name:=Str.ofString "__getitem__") ht.typeIs PyProof.Rows.slot_tuple_getitem
  (wpAny_call_entry PyProof.Rows.slot_tuple_getitem ht.typeIs entry_tuple_getitem ?_ (args_tuple_getitem _ _)))
 show wpAny _ _ (Builtin.Tuple.tupleItemsOf (.ref t) >>= _) _ _ s
 refine wpAny_bind (tupleItemsOf_ ht ?_)
 refine wpAny_bind (wpAny_typeOf hTs ?_)
 rw[if_pos (by decide)]
 refine wpAny_bind (sliceApplied_gen hs pl pu ?_)
 have hno:¬ ((((sIx items.size 0 lo:Nat):Int) == 0 && (1:Int) == 1 && (sIx items.size items.size hi-sIx items.size 0 lo) == items.size)=true):=by
  intro q
  rw[Bool.and_eq_true,Bool.and_eq_true] at q
  have q1:((sIx items.size 0 lo:Nat):Int)=0:=eq_of_beq q.1.1
  have q2:sIx items.size items.size hi-sIx items.size 0 lo=items.size:=eq_of_beq q.2
  exact hw ⟨by omega,by omega⟩
 show wpAny _ _ (if (((sIx items.size 0 lo:Nat):Int) == 0 && (1:Int) == 1 && (sIx items.size items.size hi-sIx items.size 0 lo) == items.size)=true then _ else _) _ _ s
 rw[if_neg hno,pick_gen]
 first
  | exact wpAny_bind (m:=Builtin.Tuple.tupleExact _) (wpAny_newObj_type (wpAny_pure ⟨_,rfl,wpAny_pure h⟩) htake)
  | exact wpAny_bind (m:=Builtin.Tuple.tupleExact _) (wpAny_newObj_type (wpAny_bind (wpAny_pure (wpAny_pure ⟨_,rfl,wpAny_pure h⟩))) htake)
  | exact wpAny_bind (wpAny_bind (m:=Builtin.Tuple.tupleExact _) (wpAny_newObj_type (wpAny_pure (wpAny_pure ⟨_,rfl,wpAny_pure h⟩)) htake))
  | exact wpAny_bind (wpAny_bind (m:=Builtin.Tuple.tupleExact _) (wpAny_newObj_type (wpAny_pure ⟨_,rfl,wpAny_pure h⟩) htake))
end
end HT
namespace L2
open PySem PySem.Spec PyProof.Rows
abbrev TO:=St→Hp→(Option Int→Hp→Prop)→Prop
def PO (X:Cx) (e:Option Expr) (t:TO):Prop:=
 ∀ (pins:List (Addr × Obj)) (s:Shared) (σ:St) (H:Hp) (Q:Option Int→Hp→Prop),Inv X pins σ H s→t σ H Q →
  wpAny (model X.prog X.w) X.A (evalPart e X.env) (fun u s'=>∃ o H',Inv X pins σ H' s'∧IsPart u o∧Q o H') X.xe s
def tNoPart:TO:=fun _ H Q=>Q none H
def tPart (t:TE):TO:=fun σ H Q=>t σ H fun x H1=>∃ i,x = .int i∧Q (some i) H1
section
variable {X:Cx} {e:Expr} {te:TE} {lo hi:Option Expr} {tl th:TO} {pos p2:Pos}
theorem po_none:PO X none tNoPart:=by
 intro pins s σ H Q I h
 rw[evalPart_none]
 exact wpAny_pure ⟨none,H,I,.none,h⟩
theorem po_some (h:PE X e te):PO X (some e) (tPart te):=by
 intro pins s σ H Q I hw
 rw[evalPart_some]
 refine thn (h pins s σ H _ I hw) fun u s1 ⟨x,H1,I1,r1,q1⟩=>?_
 obtain⟨i,rfl,q⟩:=q1
 obtain⟨t,rfl⟩:=r1
 exact⟨some i,H1,I1,.int i t,q⟩
def SlR (X:Cx) (r:V→Option Int→Option Int→Hp→VK→Prop):Prop:=
 ∀ (pins:List (Addr × Obj)) (s:Shared) (σ:St) (H:Hp) (x:V) (v vl vu:Value) (lo hi:Option Int) (sl:Addr) (Q:VK),Inv X pins σ H s→RelV x v→s.heap.IsSliceOf sl vl vu .none→IsPart vl lo→IsPart vu hi→r x lo hi H Q →
  ∃ T id,typeLookup (.type T) "__getitem__" = pure (some (.builtin id))∧s.TypeIs v T∧wpAny (model X.prog X.w) X.A (getItem v (.ref sl)) (EP X pins σ Q) X.xe s
def tSl (r:V→Option Int→Option Int→Hp→VK→Prop) (te:TE) (tl th:TO):TE:=fun σ H Q=>te σ H fun x H1=>tl σ H1 fun l H2=>th σ H2 fun u H3=>r x l u H3 Q
theorem pe_slice {r:V→Option Int→Option Int→Hp→VK→Prop} (hr:SlR X r) (he:PE X e te) (hl:PO X lo tl) (hu:PO X hi th):PE X (.Subscript e (.Slice lo hi none p2) pos) (tSl r te tl th):=by
 intro pins s σ H Q I h
 refine Subscript_ (thn (he pins s σ H _ I h) fun v s1 ⟨x,H1,I1,r1,q1⟩=>?_)
 refine wpAny_Slice (thn (hl pins s1 σ H1 _ I1 q1) fun vl s2 ⟨l,H2,I2,pl,q2⟩=>thn (hu pins s2 σ H2 _ I2 q2) fun vu s3 ⟨u,H3,I3,pu,q3⟩=>?_)
 rw[evalPart_none]
 refine wpAny_pure ?_
 have I4:Inv X pins σ H3 { s3 with heap:=s3.heap.push { cls:=.type "slice",data:=.fields #[vl,vu,.none] } }:=I3.kept (t':=s3.toks) fun b ob q=>Heap.get?_push_of_some _ q
 obtain⟨T,id,hT,ht,hg⟩:=hr pins { s3 with heap:=s3.heap.push { cls:=.type "slice",data:=.fields #[vl,vu,.none] } } σ H3 x v vl vu l u s3.heap.objs.size Q I4 r1 (Heap.IsSliceOf.new ..) pl pu q3
 show wpAny (model X.prog X.w) X.A (subscriptTail e (.Slice lo hi none p2) v (.ref s3.heap.objs.size)) (EP X pins σ Q) X.xe { s3 with heap:=s3.heap.push { cls:=.type "slice",data:=.fields #[vl,vu,.none] } }
 exact tail_any (ops:=[.ref s3.heap.objs.size,v]) ht hT hg (by with_unfolding_all rfl)
def cutV (xs:List V) (lo hi:Option Int):List V:=(xs.drop (HT.sIx xs.length 0 lo)).take (HT.sIx xs.length xs.length hi-HT.sIx xs.length 0 lo)
theorem cutV_length (xs:List V) (lo hi:Option Int):(cutV xs lo hi).length≤xs.length:=by
 unfold cutV
 rw[List.length_take,List.length_drop]
 omega
def rSlT (K:PySem.W.Frag):V→Option Int→Option Int→Hp→VK→Prop:=fun x lo hi H Q=>∃ a xs,x = .ref a∧SqT K H a xs ∧
 ¬ (HT.sIx xs.length 0 lo=0∧HT.sIx xs.length xs.length hi=xs.length)∧∀ p,H p=none→Q (.ref p) (upd H p (.tup (cutV xs lo hi)))
theorem sl_tup:SlR X (rSlT X.K):=by
 intro pins s σ H x v vl vu lo hi sl Q I rx hs pl pu h
 obtain⟨a,xs,rfl,hx,hw,q⟩:=h
 cases rx
 obtain⟨its,r,ht,hz⟩:=I.tuple hx
 have hlen:its.toArray.size=xs.length:=by rw[List.size_toArray]; exact r.length.symm
 refine⟨"tuple",_,PyProof.Rows.slot_tuple_getitem.lookup,ht.typeIs,?_⟩
 refine HT.getItem_tuple_cut ht hs pl pu (by rw[hlen]; exact hw) ?_ (by rw[hlen]; exact hz)
 rw[hlen]
 refine⟨.ref s.heap.objs.size,_,I.laid (t':=s.toks) (o:=.tup (cutV xs lo hi)) (fun b ob q=>Heap.get?_push_of_some _ q) (Nat.le_refl _) ?_,rfl,q _ (I.hok.fresh (Nat.le_refl _))⟩
 exact⟨Nat.le_trans (cutV_length xs lo hi) hz,_,(r.drop (HT.sIx xs.length 0 lo)).take (HT.sIx xs.length xs.length hi-HT.sIx xs.length 0 lo),IsTup.new _ _⟩
end
end L2
namespace L2
open PySem PySem.Spec PyProof.Rows
def ixN (n:Nat) (i:Int):Option Nat:=if 0≤i then (if i<n then some i.toNat else none) else if -(n:Int)≤i then some (i+n).toNat else none
def atI {α:Type} (xs:List α) (i:Int):Option α:=(ixN xs.length i).bind fun j=>xs[j]?
theorem ixN_seq {n:Nat} {i:Int} {j:Nat} (h:ixN n i=some j):seqIndex? i n=some j∧j<n∧-(n:Int)≤i∧i<n:=by
 unfold ixN at h
 by_cases h0:0≤i
 ·rw[if_pos h0] at h
  by_cases h1:i<n
  ·rw[if_pos h1] at h
   have e:i.toNat=j:=Option.some.inj h
   exact⟨by rw[seqIndex_of h0 h1,e],by omega,by omega,h1⟩
  ·rw[if_neg h1] at h; cases h
 ·rw[if_neg h0] at h
  by_cases h1 : -(n:Int)≤i
  ·rw[if_pos h1] at h
   have e:(i+n).toNat=j:=Option.some.inj h
   exact⟨by rw[seqIndex_neg (by omega) h1,e],by omega,h1,by omega⟩
  ·rw[if_neg h1] at h; cases h
theorem atI_get {α:Type} {xs:List α} {i:Int} {v:α} (h:atI xs i=some v):∃ j,seqIndex? i xs.length=some j∧xs[j]? = some v∧j<xs.length∧-(xs.length:Int)≤i∧i<xs.length:=by
 unfold atI at h
 cases e:ixN xs.length i with
 | none=>rw[e] at h; cases h
 | some j=>
  rw[e] at h
  obtain⟨h1,h2,h3,h4⟩:=ixN_seq e
  exact⟨j,h1,h,h2,h3,h4⟩
theorem atI_nat {α:Type} {xs:List α} {j:Nat} {v:α} (h:xs[j]? = some v):atI xs (j:Int)=some v:=by
 have hj:j<xs.length:=(List.getElem?_eq_some_iff.mp h).1
 have e:ixN xs.length (j:Int)=some j:=by
  unfold ixN
  rw[if_pos (by omega),if_pos (by omega)]; simp
 unfold atI; rw[e]; exact h
def PlainIx (b:Expr):Prop:=∀ o i,subscripted b false o i=operate [o,i] (getItem o i)
def IxR (X:Cx) (r:R2):Prop:=
 ∀ (value slice:Expr) (pins:List (Addr × Obj)) (s:Shared) (σ:St) (H:Hp) (x y:V) (v u:Value) (Q:VK),Inv X pins σ H s→RelV x v→RelV y u→r x y H Q →
  subscripted slice false v u=operate [v,u] (getItem v u)→wpAny (model X.prog X.w) X.A (subscriptTail value slice v u) (EP X pins σ Q) X.xe s
def MtR (X:Cx) (id:String) (r:V→List V→Hp→VK→Prop):Prop:=
 ∀ (pins:List (Addr × Obj)) (s:Shared) (σ:St) (H:Hp) (x:V) (xs:List V) (v:Value) (us:List Value) (Q:VK),Inv X pins σ H s→RelV x v→Vals xs us→r x xs H Q →
  wpAny (model X.prog X.w) X.A (call (.builtin id) (v :: us)) (EP X pins σ Q) X.xe s
section
variable {X:Cx} {a b:Expr} {ta tb:TE} {pos:Pos}
theorem pe_ix {r:R2} (hr:IxR X r) (ha:PE X a ta) (hb:PE X b tb) (hs:PlainIx b):PE X (.Subscript a b pos) (tOp r ta tb):=by
 intro pins s σ H Q I h
 exact Subscript_ (binT ha hb I h fun v u s2 x y H2 I2 rx ry q=>hr a b pins s2 σ H2 x y v u Q I2 rx ry q (hs _ _))
def rIxL (K:PySem.W.Frag):R2:=fun x y H Q=>∃ p xs i v,x = .ref p∧y = .int i∧SqL K H p xs∧atI xs i=some v∧Q v H
def rIxT (K:PySem.W.Frag):R2:=fun x y H Q=>∃ p xs i v,x = .ref p∧y = .int i∧SqT K H p xs∧atI xs i=some v∧Q v H
theorem ix_list:IxR X (rIxL X.K):=by
 intro value slice pins s σ H x y v u Q I rx ry h hs
 obtain⟨p,xs,i,z,rfl,rfl,hq,he,q⟩:=h
 cases rx
 obtain⟨t,rfl⟩:=ry
 obtain⟨its,r,pl,hz⟩:=I.list hq
 obtain⟨j,h1,h2,h3,h4,h5⟩:=atI_get he
 obtain⟨w,ew,rw'⟩:=r.get h2
 have hl:=r.length
 have hn:=line63
 have fin:EP X pins σ Q w s:=⟨z,H,I,rw',q⟩
 by_cases h0:0≤i
 ·have hj:i.toNat=j:=by
   rw[seqIndex_of h0 h5] at h1
   exact Option.some.inj h1
  exact item_listR pl.isList h0 (by omega) (by rw[hj]; simpa using ew) fin hs
 ·have hj:(i+(its.toArray.size:Int)).toNat=j:=by
   rw[seqIndex_neg (by omega) h4] at h1
   rw[List.size_toArray,← hl]
   exact Option.some.inj h1
  exact subscriptTail_builtinR (x:=w) pl.isList.typeIs slot_list_getitem.lookup
   (wpAny_getItem_list_neg (Q:=fun r s'=>r=w∧EP X pins σ Q r s') pl.isList (by omega) (by rw[List.size_toArray] <;> omega) (by omega) (by rw[hj]; simpa using ew) ⟨rfl,fin⟩) hs
theorem ix_tup:IxR X (rIxT X.K):=by
 intro value slice pins s σ H x y v u Q I rx ry h hs
 obtain⟨p,xs,i,z,rfl,rfl,hq,he,q⟩:=h
 cases rx
 obtain⟨t,rfl⟩:=ry
 obtain⟨its,r,pl,hz⟩:=I.tuple hq
 obtain⟨j,h1,h2,h3,h4,h5⟩:=atI_get he
 obtain⟨w,ew,rw'⟩:=r.get h2
 have hl:=r.length
 have hn:=line63
 have fin:EP X pins σ Q w s:=⟨z,H,I,rw',q⟩
 exact subscriptTail_builtinR (x:=w) pl.typeIs slot_tuple_getitem.lookup
  (getItem_tuple (j:=j) (Q:=fun r s'=>r=w∧EP X pins σ Q r s') pl (by omega) (by omega) (by rw[List.size_toArray,← hl]; exact h1) (by simpa using ew) ⟨rfl,fin⟩) hs
theorem mapSeq_set (its:List Value) (n j:Nat) (u:Value):Obj.mapSeq (·.setIfInBounds j u) { cls:=.type "list",data:=.seq its.toArray n }={ cls:=.type "list",data:=.seq (its.set j u).toArray n }:=by
 simp[Obj.mapSeq]
theorem Inv.lst {pins:List (Addr × Obj)} {σ:St} {H:Hp} {s:Shared} {p:Addr} {xs:List V} (I:Inv X pins σ H s) (h:H p=some (.lst xs)) :
  ∃ (its:List Value) (n:Nat),Vals xs its∧s.heap.get? p=some { cls:=.type "list",data:=.seq its.toArray n }∧xs.length≤sizeLine:=by
 obtain⟨z,its,n,r,e⟩:=I.hok p _ h
 exact⟨its,n,r,e,z⟩
theorem Inv.lstUpd {pins:List (Addr × Obj)} {σ:St} {H:Hp} {s:Shared} {p:Addr} {xs ys:List V} {its its':List Value} {n n':Nat} {f:Obj→Obj} (I:Inv X pins σ H s) (h:H p=some (.lst xs))
  (ho:s.heap.get? p=some { cls:=.type "list",data:=.seq its.toArray n }) (hf:f { cls:=.type "list",data:=.seq its.toArray n }={ cls:=.type "list",data:=.seq its'.toArray n' }) (r:Vals ys its') (hz:ys.length≤sizeLine) (t:Nat) :
  Inv X pins σ (upd H p (.lst ys)) { s with heap:=s.heap.update p f,toks:=t }:=by
 have e:(s.heap.update p f).get? p=some { cls:=.type "list",data:=.seq its'.toArray n' }:=by
  rw[Heap.get?_update_self f ho (by rw[hf] <;> rfl),hf]
 refine I.write (x:=p) (e:=p) (by rw[h]; trivial) (.inl rfl) (fun b u hb q=>(Heap.get?_update_other _ _ (Ne.symm hb)).trans q) ⟨_,e⟩ ?_
 exact⟨hz,its',n',r,e⟩
def rSetL:V→V→V→Hp→(Hp→Prop)→Prop:=fun o i v H Q=>∃ p xs k j,o = .ref p∧i = .int k∧H p=some (.lst xs)∧ixN xs.length k=some j∧Q (upd H p (.lst (xs.set j v)))
theorem set_list:PSet X rSetL:=by
 intro pins s σ H o i v ov iv u Q I ro ri rv h
 obtain⟨p,xs,k,j,rfl,rfl,hp,hj,q⟩:=h
 cases ro
 obtain⟨t,rfl⟩:=ri
 obtain⟨its,n,r,ho,hz⟩:=I.lst hp
 obtain⟨h1,h2,h3,h4⟩:=ixN_seq hj
 have hl:=r.length
 have hn:=line63
 have I':Inv X pins σ (upd H p (.lst (xs.set j v))) { s with heap:=s.heap.update p (Obj.mapSeq (·.setIfInBounds j u)) }:=
  I.lstUpd hp ho (mapSeq_set its n j u) (r.set rv j) (by rw[List.length_set]; exact hz) s.toks
 by_cases h0:0≤k
 ·have hk:k.toNat=j:=by
   rw[seqIndex_of h0 h4] at h1
   exact Option.some.inj h1
  exact PySem.W.ki_setAt ho h0 (by omega) (by rw[List.size_toArray,← hl]; exact h4) (by rw[hk]; exact⟨_,I',q⟩)
 ·have hk:(k+(its.toArray.size:Int)).toNat=j:=by
   rw[seqIndex_neg (by omega) h3] at h1
   rw[List.size_toArray,← hl]
   exact Option.some.inj h1
  exact PySem.W.ki_setBack ho (by omega) (by rw[List.size_toArray,← hl]; exact h3) (by omega) (by rw[hk]; exact⟨_,I',q⟩)
theorem slice_bounds (lo hi:Option Int) (n:Nat):(sliceBounds lo hi none n).1=((HT.sIx n 0 lo:Nat):Int)∧(sliceBounds lo hi none n).2.1=((HT.sIx n n hi:Nat):Int)∧(sliceBounds lo hi none n).2.2=1:=by
 refine⟨?_,?_,rfl⟩
 ·cases lo with
  | none=>simp[sliceBounds,HT.sIx]
  | some i=>
   simp only [sliceBounds,HT.sIx,Option.getD_none,show (1:Int) > 0 by decide,if_true]
   by_cases h:i<0
   ·simp only [h,if_true] <;> omega
   ·simp only [h,if_false] <;> omega
 ·cases hi with
  | none=>simp[sliceBounds,HT.sIx]
  | some i=>
   simp only [sliceBounds,HT.sIx,Option.getD_none,show (1:Int) > 0 by decide,if_true]
   by_cases h:i<0
   ·simp only [h,if_true] <;> omega
   ·simp only [h,if_false] <;> omega
theorem slicePick_cut (its:List Value) (lo hi:Option Int):slicePick its.toArray lo hi none=((its.drop (HT.sIx its.length 0 lo)).take (HT.sIx its.length its.length hi-HT.sIx its.length 0 lo)).toArray:=by
 obtain⟨h1,h2,h3⟩:=slice_bounds lo hi its.toArray.size
 unfold slicePick
 rw[h1,h2,h3]
 simp only [sliceRange_one,pick_run,List.size_toArray] <;> rfl
def rSlL (K:PySem.W.Frag):V→Option Int→Option Int→Hp→VK→Prop:=fun x lo hi H Q=>∃ a xs,x = .ref a∧SqL K H a xs∧∀ p,H p=none→Q (.ref p) (upd H p (.lst (cutV xs lo hi)))
theorem sl_list:SlR X (rSlL X.K):=by
 intro pins s σ H x v vl vu lo hi sl Q I rx hs pl pu h
 obtain⟨a,xs,rfl,hx,q⟩:=h
 cases rx
 obtain⟨its,r,ht,hz⟩:=I.list hx
 have hlen:=r.length
 refine⟨"list",_,slot_list_getitem.lookup,ht.isList.typeIs,?_⟩
 refine wpAny_getItem_list_slice ht.isList hs pl pu .none (by simp) ?_ (by rw[List.size_toArray] <;> omega)
 rw[slicePick_cut,← hlen]
 refine⟨.ref s.heap.objs.size,_,I.laid (t':=s.toks) (o:=.lst (cutV xs lo hi)) (fun b ob q=>Heap.get?_push_of_some _ q) (Nat.le_refl _) ?_,rfl,q _ (I.hok.fresh (Nat.le_refl _))⟩
 exact⟨Nat.le_trans (cutV_length xs lo hi) hz,_,0,(r.drop (HT.sIx xs.length 0 lo)).take (HT.sIx xs.length xs.length hi-HT.sIx xs.length 0 lo),Heap.get?_push_size _ rfl⟩
theorem call_len_seq:CallR X (.builtin "len") (fun xs H Q=>∃ p ys,xs=[.ref p]∧(SqL X.K H p ys∨SqT X.K H p ys)∧Q (.int ys.length) H):=by
 intro pins s σ H xs us Q I r h
 obtain⟨p,ys,rfl,hq,q⟩:=h
 obtain⟨u,rfl,rx⟩:=vals1 r
 cases rx
 have hn:=line63
 rcases hq with hq | hq
 ·obtain⟨its,r',pl,hz⟩:=I.list hq
  have hlen:=r'.length
  exact Calls.call_len_list pl.isList (by simp only [List.size_toArray] <;> omega) ⟨.int ys.length,H,I.tok _,⟨s.toks+1,by rw[List.size_toArray,hlen]⟩,q⟩
 ·obtain⟨its,r',pl,hz⟩:=I.tuple hq
  have hlen:=r'.length
  exact len_tuple pl (by simp only [List.size_toArray] <;> omega) ⟨.int ys.length,H,I.tok _,⟨s.toks+1,by rw[List.size_toArray,hlen]⟩,q⟩
theorem call_list_of:CallR X (.type "list") (fun xs H Q=>∃ p ys,xs=[.ref p]∧(SqL X.K H p ys∨SqT X.K H p ys)∧∀ l,H l=none→Q (.ref l) (upd H l (.lst ys))):=by
 intro pins s σ H xs us Q I r h
 obtain⟨p,ys,rfl,hq,q⟩:=h
 obtain⟨u,rfl,rx⟩:=vals1 r
 cases rx
 have fin:∀ (its:List Value),Vals ys its→ys.length≤sizeLine→∀ (h':Heap) (c':Nat),(∀ b o',s.heap.get? b=some o'→h'.get? b=some o') →
   h'.get? s.heap.objs.size=some { cls:=.type "list",dict:=none,data:=.seq its.toArray c',slots:=#[] }→EP X pins σ Q (.ref s.heap.objs.size) { s with heap:=h' }:=fun its r' hz h' c' kp e=>
  ⟨.ref s.heap.objs.size,_,I.laid (t':=s.toks) kp (Nat.le_refl _) (show ObjOk X.prog X.w _ h' _ (.lst ys) from ⟨hz,its,c',r',e⟩),rfl,q _ (I.hok.fresh (Nat.le_refl _))⟩
 rcases hq with hq | hq
 ·obtain⟨its,r',pl,hz⟩:=I.list hq
  have hlen:=r'.length
  obtain⟨o,ho,hc,n,hd⟩:=pl.isList
  exact call_list_seq p (.inl rfl) ho hc hd (fun h' c' kp e=>fin its r' hz h' c' kp e) (by simp only [List.size_toArray] <;> omega)
 ·obtain⟨its,r',pl,hz⟩:=I.tuple hq
  have hlen:=r'.length
  obtain⟨o,ho,hc,n,hd⟩:=pl
  exact call_list_seq p (.inr rfl) ho hc hd (fun h' c' kp e=>fin its r' hz h' c' kp e) (by simp only [List.size_toArray] <;> omega)
theorem call_tuple_of:CallR X (.type "tuple") (fun xs H Q=>∃ p ys,xs=[.ref p]∧((SqL X.K H p ys∧∀ l,H l=none→Q (.ref l) (upd H l (.tup ys)))∨(SqT X.K H p ys∧Q (.ref p) H))):=by
 intro pins s σ H xs us Q I r h
 obtain⟨p,ys,rfl,h⟩:=h
 obtain⟨u,rfl,rx⟩:=vals1 r
 cases rx
 rcases h with⟨hq,q⟩ | ⟨hq,q⟩
 ·obtain⟨its,r',pl,hz⟩:=I.list hq
  have hlen:=r'.length
  refine call_tuple_list pl.isList (fun h' kp=>?_) (by simp only [List.size_toArray] <;> omega)
  have I1:Inv X pins σ H { s with heap:=h' }:=I.kept (t':=s.toks) kp
  have I2:Inv X pins σ (upd H h'.objs.size (.tup ys)) { s with heap:=h'.push { cls:=.type "tuple",data:=.seq its.toArray } }:=
   I1.laid (t':=s.toks) (fun b o e=>Heap.get?_push_of_some _ e) (Nat.le_refl _) (show ObjOk X.prog X.w _ _ _ (.tup ys) from ⟨hz,its,r',IsTup.new _ _⟩)
  exact⟨.ref h'.objs.size,_,I2,rfl,q _ (I1.hok.fresh (Nat.le_refl _))⟩
 ·obtain⟨its,r',pl,hz⟩:=I.tuple hq
  exact call_tuple_same pl ⟨.ref p,H,I,rfl,q⟩
def tyV (K:PySem.W.Frag) (T:String) (x:V) (H:Hp):Prop:=match x with
 | .str _=>T="str"
 | .int _=>T="int"
 | .ref p=>(T="list"∧∃ xs,SqL K H p xs)∨(T="tuple"∧∃ o,K.lookup p=some o∧o.cls = .type "tuple"∧o.dict=none) ∨
   (T="dict"∧((∃ kvs,H p=some (.dK kvs))∨∃ kvs,H p=some (.dT kvs)))∨(T="set"∧∃ S n,H p=some (.set S n))
 | _=>False
theorem tyV_is {pins:List (Addr × Obj)} {σ:St} {H:Hp} {s:Shared} {T:String} {x:V} {v:Value} (I:Inv X pins σ H s) (r:RelV x v) (ty:tyV X.K T x H) :
  s.TypeIs v T∧∀ a,v = .ref a→∃ ob,s.heap.get? a=some ob∧ob.dict=none:=by
 cases x with
 | str z=>
  obtain⟨t,rfl⟩:=r
  cases (show T="str" from ty)
  exact⟨typeIs_str s z t,fun _ e=>nomatch e⟩
 | int i=>
  obtain⟨t,rfl⟩:=r
  cases (show T="int" from ty)
  exact⟨typeIs_int s i t,fun _ e=>nomatch e⟩
 | ref p=>
  cases r
  rcases ty with⟨rfl,xs,hq⟩ | ⟨rfl,o,hk,hc,hd⟩ | ⟨rfl,hk⟩ | ⟨rfl,S,n,hk⟩
  ·obtain⟨its,_,pl,_⟩:=I.list hq
   refine⟨pl.isList.typeIs,fun a e=>?_⟩
   cases e
   obtain⟨o,n,e,c,hd,_⟩:=pl
   exact⟨o,e,hd⟩
  ·refine⟨⟨o,I.kIn p o hk,hc⟩,fun a e=>?_⟩
   cases e
   exact⟨o,I.kIn _ o hk,hd⟩
  ·have z:∃ o,s.heap.get? p=some o∧o.ExactDict:=by
    rcases hk with⟨kvs,hk⟩ | ⟨kvs,hk⟩
    ·obtain⟨_,_,_,_,o,_,_,e,ex,_⟩:=I.hok p _ hk
     exact⟨o,e,ex⟩
    ·obtain⟨_,_,_,_,o,_,_,e,ex,_⟩:=I.hok p _ hk
     exact⟨o,e,ex⟩
   obtain⟨o,e,ex⟩:=z
   refine⟨⟨o,e,ex.1⟩,fun a e2=>?_⟩
   cases e2
   exact⟨o,e,ex.2.1⟩
  ·obtain⟨o,_,_,_,e,ex,_⟩:=I.hok p _ hk
   refine⟨⟨o,e,ex.1⟩,fun a e2=>?_⟩
   cases e2
   exact⟨o,e,ex.2.1⟩
 | _=>exact False.elim ty
def tBM0 (K:PySem.W.Frag) (T:String) (r:V→List V→Hp→VK→Prop) (to:TE):TE:=fun σ H Q=>to σ H fun x H1=>tyV K T x H1∧r x [] H1 Q
def tBM (K:PySem.W.Frag) (T:String) (r:V→List V→Hp→VK→Prop) (to:TE) (t:TA):TE:=fun σ H Q=>to σ H fun x H1=>tyV K T x H1∧t σ H1 fun xs H2=>r x xs H2 Q
variable {o e:Expr} {es:List Expr} {to:TE} {t:TA} {name:Str} {apos cpos:Pos} {T id:String} {r:V→List V→Hp→VK→Prop}
theorem pe_bm0 (pa:PlainAttrs T) (slot:Slot T name id) (hty:typeOf (.builtin id)=pure (.type "method_descriptor")) (hm:MtR X id r) (ho:PE X o to)
  (hbase:attributeBase o name X.env (eval o X.env)=eval o X.env:=by rfl) (hline:(apos.endLine == cpos.line)=true:=by rfl):PE X (.Call (.Attribute o name apos) [] [] cpos) (tBM0 X.K T r to):=by
 intro pins s σ H Q I h
 refine wpAny_Call_method0_late hbase hline (thn (ho pins s σ H _ I h) fun v s1 ⟨x,H1,I1,r1,ty,q1⟩=>?_)
 obtain⟨h1,h2⟩:=tyV_is I1 r1 ty
 exact⟨T,id,pa,slot,hty,h1,h2,Calls.callWith_builtin rfl (PySem.evalArgs_none (hm pins s1 σ H1 x [] v [] Q I1 r1 .nil q1))⟩
theorem pe_bm (pa:PlainAttrs T) (slot:Slot T name id) (hty:typeOf (.builtin id)=pure (.type "method_descriptor")) (hm:MtR X id r) (ho:PE X o to) (ha:PA X (e :: es) t)
  (hbase:attributeBase o name X.env (eval o X.env)=eval o X.env:=by rfl)
  (hfew:((backTo cpos (starEach (e :: es) X.env)).all (fun x=>!x.1) && (backToKw cpos (keywordEach [] X.env)).all (fun x=>x.1.isSome)
   && decide ((e :: es).length+([]:List Keyword).length+(if ([]:List Keyword).isEmpty then 0 else 1)<30))=true:=by rfl)
  (hline:(apos.endLine == cpos.line)=true:=by rfl) (hs:starEach (e :: es) X.env=(false,eval e X.env) :: starEach es X.env:=by rfl) (hplain:(backTo cpos (starEach es X.env)).any (·.1)=false:=by rfl) :
  PE X (.Call (.Attribute o name apos) (e :: es) [] cpos) (tBM X.K T r to t):=by
 intro pins s σ H Q I h
 refine wpAny_Call_method_late hbase hfew hline rfl (thn (ho pins s σ H _ I h) fun v s1 ⟨x,H1,I1,r1,ty,q1⟩=>?_)
 obtain⟨h1,h2⟩:=tyV_is I1 r1 ty
 refine⟨T,id,pa,slot,hty,h1,h2,?_⟩
 have hA:=ha cpos pins s1 σ H1 _ I1 q1
 rw[hs] at hA ⊢
 refine Calls.callWith_builtin (by show (false || (backTo cpos (starEach es X.env)).any (·.1))=false; rw[hplain] <;> rfl) (Calls.evalArgs_plain ?_)
 exact thn hA fun us s2 ⟨vs,H2,I2,r2,q2⟩=>hm pins s2 σ H2 x vs v us Q I2 r1 r2 q2
end
end L2
namespace L2
open PySem PySem.Spec PyProof.Rows
def MtM (X:Cx) (id:String) (r:V→List V→Hp→VK→Prop):Prop:=
 ∀ (pins:List (Addr × Obj)) (s:Shared) (σ:St) (H:Hp) (x:V) (xs:List V) (v:Value) (us:List Value) (Q:VK),Inv X pins σ H s→RelV x v→Vals xs us→r x xs H Q →
  wpAny (model X.prog X.w) X.A (call (.builtin id) (v :: us)) (EP X pins σ Q) X.xe s
theorem Vals.one:∀ {x:V} {us:List Value},Vals [x] us→∃ u,us=[u]∧RelV x u
 | _,_,.cons r .nil=>⟨_,rfl,r⟩
theorem Vals.zero:∀ {us:List Value},Vals [] us→us=[]
 | _,.nil=>rfl
theorem Vals.dropLast {xs:List V} {us:List Value} (h:Vals xs us):Vals xs.dropLast us.dropLast:=by
 induction h with
 | nil=>exact .nil
 | cons r t ih=>
  cases t with
  | nil=>exact .nil
  | cons q t'=>exact .cons r ih
theorem Vals.rep {xs:List V} {us:List Value} (h:Vals xs us):∀ k:Nat,Vals (List.replicate k xs).flatten (List.replicate k us).flatten
 | 0=>.nil
 | k+1=>by
  rw[List.replicate_succ,List.replicate_succ,List.flatten_cons,List.flatten_cons]
  exact Vals.append h (Vals.rep h k)
theorem erase_last {α:Type} (l:List α):l.eraseIdx (l.length-1)=l.dropLast:=by
 induction l with
 | nil=>rfl
 | cons a r ih=>
  cases r with
  | nil=>rfl
  | cons b r=>
   have e:(a :: b :: r).length-1=((b :: r).length-1)+1:=by
    have h1:(a :: b :: r).length=r.length+2:=rfl
    have h2:(b :: r).length=r.length+1:=rfl
    omega
   rw[e,List.eraseIdx_cons_succ,ih]
   all_goals rfl
theorem foldl_rep (its:List Value):∀ (k:Nat) (acc:List Value),
  List.foldl (fun x1 x2=>x1++x2) acc.toArray (List.replicate k its.toArray)=(acc++(List.replicate k its).flatten).toArray
 | 0,acc=>by simp
 | k+1,acc=>by
  have e:acc.toArray++its.toArray=(acc++its).toArray:=by simp
  have e2:(acc++its)++(List.replicate k its).flatten=acc++(List.replicate (k+1) its).flatten:=by
   rw[List.replicate_succ,List.flatten_cons,List.append_assoc]
  rw[← e2,← foldl_rep its k (acc++its),← e,List.replicate_succ,List.foldl_cons]
section
variable {X:Cx} {pins:List (Addr × Obj)} {σ:St} {H:Hp} {s:Shared} {l b:Addr} {xs ys zs:List V}
theorem Inv.lset {its its':List Value} {n:Nat} {f:Array Value→Array Value} {t':Nat} (I:Inv X pins σ H s) (hH:H l=some (.lst xs))
  (e:s.heap.get? l=some { cls:=.type "list",data:=.seq its.toArray n }) (hf:f its.toArray=its'.toArray) (hv:Vals ys its') (hz:ys.length≤sizeLine) :
  Inv X pins σ (upd H l (.lst ys)) { s with heap:=s.heap.update l (Obj.mapSeq f),toks:=t' }:=by
 have q:=PySem.IsL.update e f
 rw[hf] at q
 refine I.write (x:=l) (e:=l) (by rw[hH]; exact trivial) (.inl rfl) (fun b' u hb hu=>(Heap.get?_update_other s.heap (Obj.mapSeq f) (Ne.symm hb)).trans hu) ⟨_,q⟩ ?_
 exact⟨hz,its',_,hv,q⟩
theorem Inv.lnew {its:List Value} {t':Nat} (I:Inv X pins σ H s) (hv:Vals ys its) (hz:ys.length≤sizeLine) :
  Inv X pins σ (upd H s.heap.objs.size (.lst ys)) { s with heap:=s.heap.push { cls:=.type "list",data:=.seq its.toArray },toks:=t' }:=
 I.laid (fun _ _ q=>Heap.get?_push_of_some _ q) (Nat.le_refl _) ⟨hz,its,0,hv,Heap.get?_push_size _ rfl⟩
theorem Inv.fresh (I:Inv X pins σ H s):H s.heap.objs.size=none:=I.hok.fresh (Nat.le_refl _)
theorem Inv.lstM (I:Inv X pins σ H s) (hH:H l=some (.lst xs)):xs.length≤sizeLine∧∃ (its:List Value) (n:Nat),Vals xs its∧xs.length=its.length∧s.heap.get? l=some { cls:=.type "list",data:=.seq its.toArray n }:=by
 obtain⟨z,its,n,r,e⟩:=I.hok l _ hH
 exact⟨z,its,n,r,r.length,e⟩
theorem notLongL {n:Nat} (h:n≤sizeLine):Builtin.List.listTooLong n=false:=by
 unfold Builtin.List.listTooLong
 exact decide_eq_false (by omega)
end
section
variable {X:Cx}
def rAppend:V→List V→Hp→VK→Prop:=fun x vs H Q=>∃ l xs y,x = .ref l∧vs=[y]∧H l=some (.lst xs)∧xs.length<sizeLine∧Q .non (upd H l (.lst (xs++[y])))
theorem mt_append:MtM X "list.append" rAppend:=by
 intro pins s σ H x vs v us Q I rx rv h
 obtain⟨l,xs,y,rfl,rfl,hH,hz,q⟩:=h
 cases rx
 obtain⟨u,rfl,ru⟩:=rv.one
 obtain⟨z,its,n,r,hl,e⟩:=I.lstM hH
 refine call_meets F.slot_list_append ⟨_,e,rfl⟩ F.entry_list_append (F.args_list_append_2 _ _) (PySem.list_append l its.toArray n u (by rw[List.size_toArray]; omega)) ⟨e,?_⟩
 refine⟨.non,_,I.lset (its':=its++[u]) hH e (by simp) (r.append (.cons ru .nil)) ?_,rfl,q⟩
 rw[List.length_append,List.length_singleton]
 omega
def rExtend:V→List V→Hp→VK→Prop:=fun x vs H Q=>∃ l b xs zs,x = .ref l∧vs=[.ref b]∧H l=some (.lst xs)∧H b=some (.lst zs)∧xs.length+zs.length≤sizeLine∧Q .non (upd H l (.lst (xs++zs)))
theorem mt_extend:MtM X "list.extend" rExtend:=by
 intro pins s σ H x vs v us Q I rx rv h
 obtain⟨l,b,xs,zs,rfl,rfl,hH,hB,hz,q⟩:=h
 cases rx
 obtain⟨u,rfl,ru⟩:=rv.one
 cases ru
 obtain⟨z,its,n,r,hl,e⟩:=I.lstM hH
 obtain⟨z2,its2,n2,r2,hl2,e2⟩:=I.lstM hB
 have hsz:its.toArray.size+its2.toArray.size≤sizeLine:=by rw[List.size_toArray,List.size_toArray]; omega
 have hlong:¬ (!its.toArray.isEmpty && Builtin.List.listTooLong (its.toArray.size+its2.toArray.size))=true:=by
  rw[notLongL hsz,Bool.and_false]
  exact Bool.false_ne_true
 refine call_meets F.slot_list_extend ⟨_,e,rfl⟩ F.entry_list_extend (F.args_list_extend_2 _ _)
  (AutoSeq1.list_extend_list_list_0 l its.toArray n b its2.toArray n2 hlong (by rw[List.size_toArray]; omega) (by omega)) ⟨e,e2,?_⟩
 refine⟨.non,_,I.lset (its':=its++its2) hH e (by simp) (r.append r2) ?_,rfl,q⟩
 rw[List.length_append]
 omega
def rPop:V→List V→Hp→VK→Prop:=fun x vs H Q=>∃ l xs y,x = .ref l∧vs=[]∧H l=some (.lst xs)∧xs[xs.length-1]? = some y∧Q y (upd H l (.lst xs.dropLast))
theorem mt_pop:MtM X "list.pop" rPop:=by
 intro pins s σ H x vs v us Q I rx rv h
 obtain⟨l,xs,y,rfl,rfl,hH,hy,q⟩:=h
 cases rx
 have hus:=rv.zero
 subst hus
 obtain⟨z,its,n,r,hl,e⟩:=I.lstM hH
 obtain⟨u,hu,ru⟩:=r.get hy
 have hy':its.toArray[its.toArray.size-1]? = some u:=by
  show its.toArray[its.length-1]? = some u
  rw[← Array.getElem?_toList,← hl]
  exact hu
 refine call_meets F.slot_list_pop ⟨_,e,rfl⟩ F.entry_list_pop (F.args_list_pop_1 _) (MeetsSeq.list_pop_last l its.toArray n u hy' (by rw[List.size_toArray]; omega)) ⟨e,?_⟩
 refine⟨y,_,I.lset (its':=its.dropLast) hH e ?_ r.dropLast ?_,ru,q⟩
 ·show its.toArray.eraseIdxIfInBounds (its.toArray.size-1)=its.dropLast.toArray
  rw[List.size_toArray,List.eraseIdxIfInBounds_toArray,erase_last]
 ·rw[List.length_dropLast]
  omega
def rCat:R2:=fun x y H Q=>∃ l b xs zs,x = .ref l∧y = .ref b∧H l=some (.lst xs)∧H b=some (.lst zs)∧xs.length+zs.length≤sizeLine∧∀ p,H p=none→Q (.ref p) (upd H p (.lst (xs++zs)))
theorem op_cat:OpR X (binaryOp .Add) rCat:=by
 intro pins s σ H x y v u Q I rx ry h
 obtain⟨l,b,xs,zs,rfl,rfl,hH,hB,hz,q⟩:=h
 cases rx
 cases ry
 obtain⟨z,its,n,r,hl,e⟩:=I.lstM hH
 obtain⟨z2,its2,n2,r2,hl2,e2⟩:=I.lstM hB
 refine PySem.P.add_list e e2 ?_ (by rw[List.size_toArray,List.size_toArray]; omega)
 have ea:its.toArray++its2.toArray=(its++its2).toArray:=by simp
 rw[ea]
 exact⟨.ref _,_,I.lnew (t':=s.toks) (r.append r2) (by rw[List.length_append]; omega),rfl,q _ I.fresh⟩
def rRep:R2:=fun x y H Q=>∃ l k xs,x = .ref l∧y = .int k∧H l=some (.lst xs)∧-(2 ^ 63)≤k∧k<2 ^ 63∧xs.length*k.toNat≤sizeLine ∧
 ∀ p,H p=none→Q (.ref p) (upd H p (.lst (List.replicate k.toNat xs).flatten))
theorem len_rep {α:Type} (xs:List α) (k:Nat):(List.replicate k xs).flatten.length=k*xs.length:=by
 induction k with
 | zero=>simp
 | succ k ih=>rw[List.replicate_succ,List.flatten_cons,List.length_append,ih,Nat.succ_mul,Nat.add_comm]
theorem op_rep:OpR X (binaryOp .Mult) rRep:=by
 intro pins s σ H x y v u Q I rx ry h
 obtain⟨l,k,xs,rfl,rfl,hH,h1,h2,hz,q⟩:=h
 cases rx
 obtain⟨t,rfl⟩:=ry
 obtain⟨z,its,n,r,hl,e⟩:=I.lstM hH
 have hlen:its.toArray.size*k.toNat≤sizeLine:=by rw[List.size_toArray,← hl]; exact hz
 have hcap:¬ its.toArray.size*k.toNat > (2 ^ 63-1) / 8:=by
  have:(sizeLine:Nat)≤(2 ^ 63-1) / 8:=by decide
  omega
 have hfit:¬ (!Builtin.List.listFitsIndex k)=true:=by
  rw[fitsIndex_both h1 h2]
  exact Bool.false_ne_true
 have hlong:¬ Builtin.List.listTooLong (its.toArray.size*k.toNat)=true:=by
  rw[notLongL hlen]
  exact Bool.false_ne_true
 have hnew:List.foldl (fun x1 x2=>x1++x2) #[] (List.replicate (if its.toArray.isEmpty=true then 0 else k.toNat) its.toArray)=(List.replicate k.toNat its).flatten.toArray:=by
  have f0:∀ m:Nat,List.foldl (fun x1 x2=>x1++x2) #[] (List.replicate m its.toArray)=(List.replicate m its).flatten.toArray:=fun m=>by
   have:=foldl_rep its m []
   rw[List.nil_append] at this
   exact this
  rw[f0]
  cases its with
  | nil=>simp
  | cons a r'=>rw[if_neg (by simp)]
 refine wpAny_binaryOp_repeat_ref (T:="list") (U:="int") (by decide) ⟨_,e,rfl⟩ (fun s'=>typeIs_int s' k t) noFill_list_mul F.fills_int_mul F.slot_int_rmul repeat_list F.slot_int_index.lookup
  (call_meets F.slot_int_rmul (typeIs_int s k t) F.entry_int_rmul (F.args_int_rmul_2 _ _) (int___rmul___int_list k t l its.toArray n)
   ⟨e,rfl,⟨_,e,rfl⟩,call_meets F.slot_list_mul ⟨_,e,rfl⟩ F.entry_list_mul (F.args_list_mul_2 _ _) (AutoListH.list___mul___list_int_3 l its.toArray n k t hfit hcap hlong) ⟨e,?_⟩⟩)
 rw[hnew]
 exact⟨.ref _,_,I.lnew (t':=s.toks) (r.rep k.toNat) (by rw[len_rep,Nat.mul_comm]; exact hz),rfl,q _ I.fresh⟩
end
section
variable {prog:Program} {w:World} {A:Around} {E:Value→Shared→Prop} {s:Shared}
end
section
variable {X:Cx}
end
end L2
namespace Att
open PySem PySem.W PySem.Calls PyProof.Rows
theorem ints_of_wellAll {P:Params} {h:Heap}:∀ (ns:List Int) (vs:List Value),WellAll P h vs (ns.map WData.int)→IntsAre vs ns:=by
 intro ns
 induction ns with
 | nil=>
  intro vs w
  rw[List.map_nil] at w
  cases w
  exact .nil
 | cons n ns ih=>
  intro vs w
  rw[List.map_cons] at w
  cases w with
  | cons a b=>
   cases a
   exact .cons _ _ (ih _ b)
theorem script_of {l:OpenLaw} {n:Nat} (hn:l.most=some n) {P:Params} {h:Heap} {args:List WData} {vals:List Value}
  (hpre:l.row.toRowW.claim.pre args=true) (hwl:WellAll P h vals args) :
  ∃ a vs ns,vals=[Value.ref a]∧args=[WData.list (ns.map WData.int)]∧h.get? a=some { cls:=.type "list",data:=.seq vs.toArray }∧IntsAre vs ns∧ns.length≤n:=by
 have hsh:WShape.hasAll [] args [.list .int]=true:=(pre_splitW hpre).1
 have hc:l.pre.holds [] { args:=args }=true:=(pre_splitW hpre).2
 obtain⟨d,r,rfl,h1,h2⟩:=hasAllW_cons hsh
 obtain rfl:=hasAllW_nil h2
 obtain⟨xs,rfl,h3⟩:=hasW_list h1
 obtain⟨ns,rfl⟩:=items_int h3
 have hlen:ns.length≤n:=by
  unfold OpenLaw.pre at hc
  have h4:(WTm.not (.lt (.lit (.int (n:Int))) (.len (.arg 0)))).holds [] { args:=[.list (ns.map .int)] }=true:=by
   have h4:=(holds_andW hc).1
   rw[hn] at h4
   exact h4
  have h5:=condW_of h4 (w_not (w_lt w_lit (w_len_list (w_arg rfl))))
  rw[List.length_map] at h5
  refine Nat.le_of_not_lt fun q=>?_
  have q':(n:Int)<((ns.length:Nat):Int):=by omega
  first
   | (rw[decide_eq_true q'] at h5; exact absurd h5 (by decide))
   | (simp at h5; omega)
 cases hwl with
 | cons w1 w2=>
  cases w2
  cases w1 with
  | list ho hall=>exact⟨_,_,ns,rfl,rfl,ho,ints_of_wellAll ns _ hall,hlen⟩
theorem post_true (l:OpenLaw) (args:List WData):l.row.toRowW.claim.post args (.bool true) args=true:=
 postW_of (r:=l.row.toRowW) (X:=(true == true))
  (show WShape.has [] (.bool true) .bool=true by first | rfl | decide | simp[WShape.has,WShape.arms,WShape.armsAll])
  (show (WTm.eq .res (.lit (.bool true))).value [] { args:=args,res:=some (.bool true),after:=args }=some (.bool (true == true)) from w_eq_bool (w_res rfl) w_lit) rfl
theorem attach_call {l:OpenLaw} {n:Nat} {q:Program} {loose:List Str} {XP:(Str→Option Value)→Heap→Prop} {YP:World→Heap→Prop} {d:DefRec}
  (hn:l.most=some n) (hdf:d.params.defaults=[])
  (call:∀ (w:World) (s₀ s₁:Shared) (mg mb:Str→Option Value) (fa:Addr) (o:Obj) (pm cd doc:Value) (a:Addr) (vs:List Value) (ns:List Int),
   Ground q loose [] XP w s₀ mg mb s₁.heap→YP w s₁.heap →
   s₁.heap.get? fa=some o→o.data = .func (docDef d.name d.params d.body d.scope pm cd doc)→s₁.heap.CodeRec cd d.name→mg d.name=some (.ref fa) →
   s₁.heap.get? a=some { cls:=.type "list",data:=.seq vs.toArray }→IntsAre vs ns→ns.length≤n→s₁.gens = #[] →
   codeAny (model l.prog w) callerA (.call (.ref fa) ⟨[.ref a],[]⟩) (fun r s'=>r = .ok (.ret (.bool true))∧OldK s₁.heap s'.heap∧s'.os=s₁.os∧AllBare s'.gens) s₁) :
  WalkO q loose XP YP l.row.toRowW d [] (fun f vs=>PySem.call f vs):=by
 intro w s₀ s₁ mg mb G Y fa o pm cd doc dV kV ho hd hcd hD hmg hg args vals as hpre hlay hrd hwl hlo
 obtain rfl:dV = .none:=Dflts.none hD hdf
 obtain rfl:kV = .none:=Dflts.noKw hD
 obtain⟨a,vs,ns,rfl,rfl,hobj,hints,hlen⟩:=script_of hn hpre hwl
 refine enter_call (codeAny_mono (call w s₀ s₁ mg mb fa o pm cd doc a vs ns G Y ho (fd_plain hd) hcd hmg hobj hints hlen hg) fun r s' hq=>?_)
 obtain⟨rfl,h2,h3,h4⟩:=hq
 exact⟨.inl ⟨.bool true,.bool true,[],rfl,fun _=>rfl,.bool true,post_true l _,fun _=>⟨List.Pairwise.nil,fun _ hm=>(nomatch hm)⟩⟩,h2,h3,h4⟩
section
variable {prog:Program} {w:World} {A:Around} {E:Value→Shared→Prop} {s:Shared} {K:Frag}
end
end Att
namespace L2
open PySem PySem.Spec PyProof.Rows
theorem vals_ints:∀ {vs:List Value} {ns:List Int},IntsAre vs ns→Vals (ns.map V.int) vs
 | _,_,.nil=>.nil
 | _,_,.cons n t h=>.cons ⟨t,rfl⟩ (vals_ints h)
end L2
namespace L2
open PySem PySem.Spec PyProof.Rows
end L2

namespace L2
open PySem PySem.Spec PyProof.Rows
def inClass (s:Stmt) (j:Nat):Stmt:=match s with
 | .ClassDef _ _ _ body _ _ _ _ _ _ _=>body.getD j (.Pass ⟨0,0,0,0⟩)
 | _=>.Pass ⟨0,0,0,0⟩
def defArgs (s:Stmt):Arguments:=match s with
 | .FunctionDef _ a _ _ _ _ _ _ _ _=>a
 | _=>{ posonlyargs:=[],args:=[],vararg:=none,kwonlyargs:=[],kw_defaults:=[],kwarg:=none,defaults:=[] }
def defBody (s:Stmt):List Stmt:=match s with
 | .FunctionDef _ _ b _ _ _ _ _ _ _=>b
 | _=>[]
def defScope (s:Stmt):Scope:=match s with
 | .FunctionDef _ _ _ _ _ _ sc _ _ _=>sc
 | _=>{ kind:=.function,names:=[],isGenerator:=false,isCoroutine:=false }
abbrev CX0:CXT:=fun _ _ _ _ _ _=>False
abbrev E0:XK:=fun _ _ _=>False
theorem pass0 {X:Cx}:Passes CX0 X E0:=fun _ _ _ _ _ _ _ h=>h.elim
structure Fun (K:PySem.W.Frag) (x qual:Str) (st:Stmt) (f:Addr) (fd:FuncData):Prop where
 ex:∃ (oc:Value) (od:Option Addr) (kV doc pm:Value) (an:Option Addr) (cdv ct:Value) (osl:Array (Option Value)),
  fd=PySem.W.fnOf x qual (defArgs st) (defBody st) (defScope st) .none kV doc pm an cdv ct∧K.lookup f=some ⟨oc,od,.func fd,osl⟩∧PySem.W.codeIn K cdv qual=true
 kp:PySem.W.keepIn K (.ref f)=true
section
variable {P:Program} {w:World} {K:PySem.W.Frag} {mg:Str→Option Value} {base:Heap}
theorem Fun.ok {x qual:Str} {st:Stmt} {f:Addr} {fd:FuncData} {N ps:List Str} {k:Nat} {sp:Sp} (F:Fun K x qual st f fd) (S:FnScope N ps (defScope st)) (len:∀ vs H Q E,sp vs H Q E→vs.length=ps.length)
  (hbody:∀ (cdv:Value) (A:Around) (outer:List Env) (s:Shared) (H:Hp) (vs:List V) (Q:VK) (E:XK),Room k (A.deeper (envOfC qual (defScope st) s.heap.objs.size f cdv))→sp vs H Q E →
   ∃ t,PSs (cxOf CX0 P w K mg base N qual (defScope st) f cdv A outer s H E).nox (defBody st) t∧t { nx:=fun _ H'=>Q .non H',rt:=Q } (start N vs) H):FnOk P w K mg base CX0 (k+1) f fd ps sp:=by
 obtain⟨oc,od,kV,doc,pm,an,cdv,ct,osl,rfl,lk,hcd⟩:=F.ex
 refine fn_of lk hcd S len fun A outer s H vs Q E hr hsp=>?_
 obtain⟨t,h,q⟩:=hbody cdv A outer s H vs Q E hr hsp
 exact⟨t,h.nox,q⟩
theorem Fun.binds {x qual:Str} {st:Stmt} {f:Addr} {fd:FuncData} {ps:List Str} (F:Fun K x qual st f fd)
  (h:∀ (kV doc pm:Value) (an:Option Addr) (cdv ct:Value) (us:List Value),us.length=ps.length→bindArgs (PySem.W.fnOf x qual (defArgs st) (defBody st) (defScope st) .none kV doc pm an cdv ct) ⟨us,[]⟩=pure (ps.zip us)):Binds K fd ps []:=by
 obtain⟨oc,od,kV,doc,pm,an,cdv,ct,osl,rfl,lk,hcd⟩:=F.ex
 exact .all (h kV doc pm an cdv ct)
theorem fun_mk {x qual:Str} {st:Stmt} {f:Addr} {oc:Value} {od an:Option Addr} {osl:Array (Option Value)} {kV doc pm cdv ct:Value} (l:K.lookup f=some ⟨oc,od,.func (PySem.W.fnOf x qual (defArgs st) (defBody st) (defScope st) .none kV doc pm an cdv ct),osl⟩)
  (c:PySem.W.codeIn K cdv qual=true) (k:PySem.W.keepIn K (.ref f)=true):Fun K x qual st f (PySem.W.fnOf x qual (defArgs st) (defBody st) (defScope st) .none kV doc pm an cdv ct):=⟨⟨oc,od,kV,doc,pm,an,cdv,ct,osl,rfl,l,c⟩,k⟩
end
theorem small1000 {n:Nat} (h:n≤1000):n<sizeLine:=Nat.lt_of_le_of_lt h (by decide)
section
variable {X:Cx}
theorem pv (i:Nat) {x:Str} {pos:Pos} (hN:X.N[i]? = some x:=by rfl) (hv:Vis X.env.scope x:=by first | exact Or.inl rfl | exact Or.inr (Or.inl rfl) | exact Or.inr (Or.inr rfl)) (hd:(x == ("__debug__" : Str))=false:=by decide)
  (hcd:(x == ("__classdict__" : Str))=false:=by decide):PE X (.Name x pos) (tVar i):=pe_var hN hv hd hcd
end
theorem iteF {A B:Prop} (h:B):if false=true then A else B:=by
 rw[if_neg Bool.false_ne_true]
 exact h
theorem iteT {A B:Prop} (h:A):if true=true then A else B:=by
 rw[if_pos rfl]
 exact h
theorem ite2 {c A B:Prop} [Decidable c] (h1:c→A) (h2:¬ c→B):if c then A else B:=by
 by_cases h:c
 ·rw[if_pos h]
  exact h1 h
 ·rw[if_neg h]
  exact h2 h
def Same (H H':Hp):Prop:=∀ b o,H b=some o→H' b=some o
theorem Same.refl (H:Hp):Same H H:=fun _ _ h=>h
theorem Same.trans {H H1 H2:Hp} (a:Same H H1) (b:Same H1 H2):Same H H2:=fun c o h=>b c o (a c o h)
theorem Same.free {H H':Hp} (e:Same H H') {l:Addr} (h:H' l=Option.none):H l=Option.none:=by
 cases q:H l with
 | none=>rfl
 | some o=>
  rw[e l o q] at h
  cases h
end L2
namespace L2
open PySem PySem.Spec PyProof.Rows
section
variable {κ:Type} [DecidableEq κ]
def valV (kvs:List (κ × V)) (k:κ):Option V:=(kvs.find? fun kv=>decide (kv.1=k)).map (·.2)
def putK (kvs:List (κ × V)) (k:κ) (v:V):List (κ × V):=
 if (kvs.any fun kv=>decide (kv.1=k))=true then kvs.map (fun kv=>if kv.1=k then (kv.1,v) else kv) else kvs++[(k,v)]
theorem valV_pos {p:κ × V} {r:List (κ × V)} {k:κ} (e:p.1=k):valV (p :: r) k=some p.2:=by simp[valV,List.find?_cons,e]
theorem valV_neg {p:κ × V} {r:List (κ × V)} {k:κ} (e:¬ p.1=k):valV (p :: r) k=valV r k:=by simp[valV,List.find?_cons,e]
theorem valV_any (k:κ):∀ kvs:List (κ × V),(kvs.any fun kv=>decide (kv.1=k))=(valV kvs k).isSome
 | []=>rfl
 | p :: r=>by
  rw[List.any_cons]
  by_cases e:p.1=k
  ·simp only [valV_pos e,decide_eq_true e,Bool.true_or,Option.isSome_some]
  ·rw[valV_neg e,decide_eq_false e,Bool.false_or]; exact valV_any k r
theorem valV_map (k j:κ) (y:V):∀ kvs:List (κ × V),valV (kvs.map fun kv=>if kv.1=k then (kv.1,y) else kv) j=(valV kvs j).map fun x=>if j=k then y else x
 | []=>rfl
 | p :: r=>by
  have ih:=valV_map k j y r
  rw[List.map_cons]
  by_cases h:p.1=k
  ·rw[if_pos h]
   by_cases e:p.1=j
   ·rw[valV_pos (p:=(p.1,y)) e,valV_pos e,Option.map_some,if_pos (e.symm.trans h)]
   ·rw[valV_neg (p:=(p.1,y)) e,valV_neg e,ih]
  ·rw[if_neg h]
   by_cases e:p.1=j
   ·rw[valV_pos (p:=p) e,valV_pos e,Option.map_some,if_neg (fun z=>h (e.trans z))]
   ·rw[valV_neg (p:=p) e,valV_neg e,ih]
theorem valV_snoc (k j:κ) (y:V):∀ kvs:List (κ × V),valV kvs k=none→valV (kvs++[(k,y)]) j=if j=k then some y else valV kvs j
 | [],_=>by
  by_cases e:k=j
  ·rw[if_pos e.symm]; exact valV_pos (p:=(k,y)) e
  ·rw[if_neg (fun z=>e z.symm)]; exact valV_neg (p:=(k,y)) e
 | p :: r,hn=>by
  rw[List.cons_append]
  have hk:¬ p.1=k:=fun z=>by rw[valV_pos z] at hn; cases hn
  rw[valV_neg hk] at hn
  have ih:=valV_snoc k j y r hn
  by_cases e:p.1=j
  ·rw[valV_pos e,valV_pos e,if_neg (fun z=>hk (e.trans z))]
  ·rw[valV_neg e,valV_neg e,ih]
theorem valV_put (kvs:List (κ × V)) (k j:κ) (y:V):valV (putK kvs k y) j=if j=k then some y else valV kvs j:=by
 unfold putK
 by_cases a:(kvs.any fun kv=>decide (kv.1=k))=true
 ·rw[if_pos a,valV_map]
  rw[valV_any] at a
  by_cases e:j=k
  ·obtain⟨x,hx⟩:=Option.isSome_iff_exists.mp a
   rw[if_pos e,e,hx,Option.map_some,if_pos rfl]
  ·rw[if_neg e]
   cases valV kvs j with
   | none=>rfl
   | some x=>rw[Option.map_some,if_neg e]
 ·rw[if_neg a]
  refine valV_snoc k j y kvs ?_
  rw[valV_any] at a
  cases q:valV kvs k with
  | none=>rfl
  | some x=>rw[q] at a; exact (a rfl).elim
theorem length_putK (kvs:List (κ × V)) (k:κ) (v:V):(putK kvs k v).length≤kvs.length+1:=by
 unfold putK
 split
 ·rw[List.length_map]; omega
 ·rw[List.length_append,List.length_cons,List.length_nil]; omega
theorem RelO.isSome_eq {o:Option V} {u:Option Value} (r:RelO o u):o.isSome=u.isSome:=by
 cases o with
 | none=>cases u with
  | none=>rfl
  | some _=>exact (show False from r).elim
 | some _=>cases u with
  | none=>exact (show False from r).elim
  | some _=>rfl
theorem RelO.getD {o:Option V} {u:Option Value} {d:V} {d':Value} (r:RelO o u) (rd:RelV d d'):RelV (o.getD d) (u.getD d'):=by
 cases o with
 | none=>cases u with
  | none=>exact rd
  | some _=>exact (show False from r).elim
 | some _=>cases u with
  | none=>exact (show False from r).elim
  | some _=>exact r
theorem KV.val {kvs:List (κ × V)} {vs:List (κ × Value)} (r:KV kvs vs) (k:κ):RelO (valV kvs k) (valueAt vs k):=by
 unfold KV at r
 induction r with
 | nil=>exact True.intro
 | @cons p q ps qs h t ih=>
  obtain⟨h1,h2⟩:=h
  by_cases e:p.1=k
  ·have e':q.1=k:=h1.symm.trans e
   have b:valueAt (q :: qs) k=some q.2:=by simp[valueAt,List.find?_cons,e']
   rw[valV_pos e,b]; exact h2
  ·have e':¬ q.1=k:=fun z=>e (h1.trans z)
   have b:valueAt (q :: qs) k=valueAt qs k:=by simp[valueAt,List.find?_cons,e']
   rw[valV_neg e,b]; exact ih
theorem KV.any {kvs:List (κ × V)} {vs:List (κ × Value)} (r:KV kvs vs) (k:κ):(kvs.any fun kv=>decide (kv.1=k))=vs.any fun kv=>decide (kv.1=k):=by
 unfold KV at r
 induction r with
 | nil=>rfl
 | cons h t ih=>rw[List.any_cons,List.any_cons,ih,h.1]
theorem KV.repl {kvs:List (κ × V)} {vs:List (κ × Value)} (r:KV kvs vs) (k:κ) {y:V} {u:Value} (ry:RelV y u) :
  KV (kvs.map fun kv=>if kv.1=k then (kv.1,y) else kv) (vs.map fun kv=>if kv.1=k then (kv.1,u) else kv):=by
 unfold KV at r ⊢
 induction r with
 | nil=>exact .nil
 | @cons p q ps qs h t ih=>
  rw[List.map_cons,List.map_cons]
  refine .cons ?_ ih
  obtain⟨h1,h2⟩:=h
  by_cases e:p.1=k
  ·rw[if_pos e,if_pos (h1.symm.trans e)]; exact⟨h1,ry⟩
  ·rw[if_neg e,if_neg (fun z=>e (h1.trans z))]; exact⟨h1,h2⟩
theorem KV.put {kvs:List (κ × V)} {vs:List (κ × Value)} (r:KV kvs vs) (k:κ) {y:V} {u:Value} (ry:RelV y u):KV (putK kvs k y) (stored vs k u):=by
 unfold putK stored
 rw[r.any k]
 by_cases e:(vs.any fun kv=>decide (kv.1=k))=true
 ·rw[if_pos e,if_pos e]; exact r.repl k ry
 ·rw[if_neg e,if_neg e]; exact Paired.snoc r ⟨rfl,ry⟩
theorem KV.length {kvs:List (κ × V)} {vs:List (κ × Value)} (r:KV kvs vs):kvs.length=vs.length:=Paired.length r
end
theorem kV_is {P:Program} {w:World} {k:Key} {u:Value} (r:RelV (kV k) u):(mixKind P w).is k u=true:=by
 cases k with
 | inl i=>obtain⟨t,e⟩:=(show ∃ t,u=Value.int i t from r); subst e; exact mixKind_int P w i t
 | inr x=>obtain⟨t,e⟩:=(show ∃ t,u=Value.str x t from r); subst e; exact mixKind_str P w x t
theorem items_are {P:Program} {w:World}:∀ {ks:List Key} {us:List Value},Vals (ks.map kV) us→ItemsAre (mixKind P w) ks us
 | [],_,r=>by rw[List.map_nil] at r; cases r; exact .nil
 | k :: ks,_,r=>by
  rw[List.map_cons] at r
  cases r with
  | cons h t=>exact .cons (kV_is h) (items_are t)
abbrev KT (H:Hp):List (List Key × V)→List (List Key × Addr × Value)→Prop:=Paired fun p q=>p.1=q.1∧H q.2.1=some (.tup (p.1.map kV))∧RelV p.2 q.2.2
theorem KT.val {H:Hp} {kvs:List (List Key × V)} {xs:List (List Key × Addr × Value)} (r:KT H kvs xs) (k:List Key):RelO (valV kvs k) ((atKey xs k).map (·.2)):=by
 induction r with
 | nil=>exact True.intro
 | @cons p q ps qs h t ih=>
  obtain⟨h1,_,h2⟩:=h
  by_cases e:p.1=k
  ·have e':q.1=k:=h1.symm.trans e
   have b:atKey (q :: qs) k=some q.2:=by simp[atKey,List.find?_cons,e']
   rw[valV_pos e,b]; exact h2
  ·have e':¬ q.1=k:=fun z=>e (h1.trans z)
   have b:atKey (q :: qs) k=atKey qs k:=by simp[atKey,List.find?_cons,e']
   rw[valV_neg e,b]; exact ih
theorem KT.repl {H:Hp} {kvs:List (List Key × V)} {xs:List (List Key × Addr × Value)} (r:KT H kvs xs) (k:List Key) {y:V} {u:Value} (ry:RelV y u) :
  KT H (kvs.map fun kv=>if kv.1=k then (kv.1,y) else kv) (xs.map (putAt k u)):=by
 induction r with
 | nil=>exact .nil
 | @cons p q ps qs h t ih=>
  rw[List.map_cons,List.map_cons]
  refine .cons ?_ ih
  obtain⟨h1,h2,h3⟩:=h
  unfold putAt
  by_cases e:p.1=k
  ·rw[if_pos e,if_pos (h1.symm.trans e)]; exact⟨h1,h2,ry⟩
  ·rw[if_neg e,if_neg (fun z=>e (h1.trans z))]; exact⟨h1,h2,h3⟩
theorem KT.put {H:Hp} {kvs:List (List Key × V)} {xs:List (List Key × Addr × Value)} (r:KT H kvs xs) (k:List Key) {b:Addr} {y:V} {u:Value} (hb:H b=some (.tup (k.map kV))) (ry:RelV y u) :
  KT H (putK kvs k y) (storedH xs k b u):=by
 have e:(kvs.any fun kv=>decide (kv.1=k))=(atKey xs k).isSome:=by
  rw[valV_any,(r.val k).isSome_eq,Option.isSome_map]
 unfold putK storedH
 rw[e]
 by_cases q:(atKey xs k).isSome=true
 ·rw[if_pos q,if_pos q]; exact r.repl k ry
 ·rw[if_neg q,if_neg q]; exact Paired.snoc r ⟨rfl,hb,ry⟩
theorem KT.keeps {H H':Hp} {kvs:List (List Key × V)} {xs:List (List Key × Addr × Value)} (r:KT H kvs xs) (ht:∀ b ys,H b=some (.tup ys)→H' b=some (.tup ys)):KT H' kvs xs:=
 Paired.mapP r fun _ _ z=>⟨z.1,ht _ _ z.2.1,z.2.2⟩
section
variable {P:Program} {w:World} {H:Hp} {h:Heap} {a:Addr}
theorem rd_of {u:HO} (ok:HOk P w H h) (e:Rd H a u):ObjOk P w H h a u:=e.ok ok
theorem dk_rd {kvs:List (Key × V)} (ok:HOk P w H h) (e:Rd H a (.dK kvs)):kvs.length≤sizeLine∧(a == sysModules)=false∧∃ vs,KV kvs vs∧h.DictOf (mixKind P w) a vs:=
 show ObjOk P w H h a (.dK kvs) from rd_of ok e
theorem dk_of {kvs:List (Key × V)} (ok:HOk P w H h) (e:H a=some (.dK kvs)):kvs.length≤sizeLine∧(a == sysModules)=false∧∃ vs,KV kvs vs∧h.DictOf (mixKind P w) a vs:=dk_rd ok (.inl e)
theorem key_of {ks:List Key} (ok:HOk P w H h) (e:H a=some (.tup (ks.map kV))):(tupleKind (mixKind P w)).is h ks a:=by
 obtain⟨_,its,r,o,h1,h2,n,h3⟩:=(show ObjOk P w H h a (.tup (ks.map kV)) from ok a _ e)
 exact⟨o,its.toArray,n,h1,h2,h3,by simpa using items_are r⟩
theorem dt_rd {kvs:List (List Key × V)} (ok:HOk P w H h) (e:Rd H a (.dT kvs)):kvs.length≤sizeLine∧(a == sysModules)=false ∧
  ∃ xs,KT H kvs xs∧h.DictOfH (tupleKind (mixKind P w)) a xs:=by
 obtain⟨z,y,xs,r,o,es,ep,h1,h2,h3,h4,h5⟩:=(show ObjOk P w H h a (.dT kvs) from rd_of ok e)
 refine⟨z,y,xs,r,o,es,ep,h1,h2,h3,h4,fun x hx=>?_,h5⟩
 have all:∀ {l:List (List Key × V)} {m:List (List Key × Addr × Value)},KT H l m→∀ x∈m,(tupleKind (mixKind P w)).is h x.1 x.2.1:=by
  intro l m q
  induction q with
  | nil=>intro x hx; exact nomatch hx
  | @cons p q ps qs hq t ih=>
   intro x hx
   rcases List.mem_cons.mp hx with e | hx
   ·subst e
    exact key_of ok (by rw[← hq.1]; exact hq.2.1)
   ·exact ih x hx
 exact all r x hx
theorem dt_of {kvs:List (List Key × V)} (ok:HOk P w H h) (e:H a=some (.dT kvs)):kvs.length≤sizeLine∧(a == sysModules)=false ∧
  ∃ xs,KT H kvs xs∧h.DictOfH (tupleKind (mixKind P w)) a xs:=dt_rd ok (.inl e)
end
def DGet (H:Hp) (a:Addr) (y:V) (r:Option V):Prop:=
 (∃ kvs k,Rd H a (.dK kvs)∧y=kV k∧r=valV kvs k)∨∃ kvs k b,Rd H a (.dT kvs)∧y = .ref b∧H b=some (.tup (k.map kV))∧r=valV kvs k
def DPut (H:Hp) (a:Addr) (y v:V) (H':Hp):Prop:=
 (∃ kvs k,H a=some (.dK kvs)∧y=kV k∧kvs.length<sizeLine∧H'=upd H a (.dK (putK kvs k v))) ∨
 ∃ kvs k b,H a=some (.dT kvs)∧y = .ref b∧H b=some (.tup (k.map kV))∧kvs.length<sizeLine∧H'=upd H a (.dT (putK kvs k v))
theorem DGet.k {H:Hp} {a:Addr} {kvs:List (Key × V)} {k:Key} (e:H a=some (.dK kvs)):DGet H a (kV k) (valV kvs k):=.inl ⟨kvs,k,.inl e,rfl,rfl⟩
section
variable {X:Cx} {pins:List (Addr × Obj)} {σ:St} {H:Hp} {s:Shared} {a:Addr} {y v:V} {u r:Value} {o:Option V} {A:Around} {E:Value→Shared→Prop}
theorem Inv.big (I:Inv X pins σ H s):sysModules<s.heap.objs.size:=by
 have h:mainGlobals<s.heap.objs.size:=(I.mod.glob.keeps I.bk).lt
 exact Nat.lt_trans (by decide) h
theorem d_write {h':Heap} {t':Nat} {ob:HO} (I:Inv X pins σ H s) (mu:Mut (H a)) (hs:Heap.SameBut a s.heap h') (he:∃ q,h'.get? a=some q) (new:ObjOk X.prog X.w (upd H a ob) h' a ob) :
  Inv X pins σ (upd H a ob) { s with heap:=h',toks:=t' }:=
 I.write (x:=a) (e:=a) mu (.inl rfl) (fun b q hb z=>(hs.2 b hb).trans z) he new
theorem dk_new {P:Program} {w:World} {H':Hp} {h':Heap} {kvs:List (Key × V)} {vs:List (Key × Value)} (z:kvs.length≤sizeLine) (hd:(a == sysModules)=false) (rel:KV kvs vs) (dd:h'.DictOf (mixKind P w) a vs) :
  ObjOk P w H' h' a (.dK kvs):=⟨z,hd,vs,rel,dd⟩
theorem d_setItem {H':Hp} {Q:Unit→Shared→Prop} (hu:A.units+1<cLine) (I:Inv X pins σ H s) (g:DPut H a y v H') (ry:RelV y u) (rv:RelV v r) (h:∀ s',Inv X pins σ H' s'→Q () s') :
  wpAny (model X.prog X.w) A (setItem (.ref a) u r) Q E s:=by
 rcases g with⟨kvs,k,e,ey,l,eH⟩ | ⟨kvs,k,b,e,ey,eb,l,eH⟩
 ·subst ey eH
  obtain⟨z,hd,vs,rel,dd⟩:=dk_of I.hok e
  have hz:vs.length≤sizeLine:=by rw[← rel.length]; exact z
  have hl:(putK kvs k v).length≤sizeLine:=by have:=length_putK kvs k v; omega
  refine wpAny_setItem_pairs (hsz:=hz) (kV_is ry) dd fun h' dd' hs=>h _ ?_
  have he:∃ q,h'.get? a=some q:=let ⟨q,_,_,hq,_⟩:=dd'; ⟨q,hq⟩
  exact d_write I (by rw[e]; exact True.intro) hs he (dk_new hl hd (rel.put k rv) dd')
 ·subst ey eH
  cases (show u=Value.ref b from ry)
  obtain⟨z,hd,xs,rel,dd⟩:=dt_of I.hok e
  have hz:xs.length≤sizeLine:=by rw[← Paired.length rel]; exact z
  have hl:(putK kvs k v).length≤sizeLine:=by have:=length_putK kvs k v; omega
  refine wpAny_setItem_heap (hsz:=hz) (tupleKind_room_in1 hu) (key_of I.hok eb) dd fun h' dd' hs=>h _ ?_
  obtain⟨q,es,ep,hq,h2,h3,h4,_,h5⟩:=dd'
  refine d_write I (by rw[e]; exact True.intro) hs ⟨q,hq⟩ ⟨hl,hd,_,(rel.put k eb rv).keeps fun c ys ec=>?_,q,es,ep,hq,h2,h3,h4,h5⟩
  rw[upd_ne (ne_of ec e (fun z=>nomatch z))]
  exact ec
end
section
variable {X:Cx} {pins:List (Addr × Obj)} {σ:St} {H:Hp} {s:Shared} {a:Addr} {kvs:List (Key × V)} {k:Key} {u:Value} {A:Around} {E:Value→Shared→Prop}
end
def sDPut (td ty tv:TE):TS:=fun D σ H=>tv σ H fun v H1=>td σ H1 fun x H2=>ty σ H2 fun y H3=>∃ a H4,x = .ref a∧DPut H3 a y v H4∧D.nx σ H4
section
variable {X:Cx} {o i e value:Expr} {pos pos' tpos:Pos} {td ty tv:TE}
theorem ps_dput (hu:X.A.units+1<cLine) (ho:PE X o td) (hi:PE X i ty) (hv:PE X value tv) (hs:swapsWith value (some (.Subscript o i pos')) pos.line X.env=pure false) :
  PS X (.Assign [.Subscript o i pos'] value pos) (sDPut td ty tv):=by
 intro pins s σ H D I h
 refine wpAny_Assign_Subscript (thn (hv pins s σ H _ I h) fun r s1 ⟨v,H1,I1,rv,q1⟩=>thn (ho pins s1 σ H1 _ I1 q1) fun u s2 ⟨x,H2,I2,rx,q2⟩=>thn (hi pins s2 σ H2 _ I2 q2) fun iv s3 ⟨y,H3,I3,ry,a,H4,ex,g,q3⟩=>?_) hs
 subst ex
 obtain rfl:u=Value.ref a:=rx
 exact d_setItem hu I3 g ry rv fun s4 I4=>⟨σ,H4,I4,q3⟩
end
section
variable {X:Cx} {pos:Pos}
end
structure M2 (X:Cx) (o:Expr) (m:Str) (apos:Pos) (e f:Expr) (cpos:Pos):Prop where
 base:attributeBase o m X.env (eval o X.env)=eval o X.env
 few:((backTo cpos (starEach [e,f] X.env)).all (fun x=>!x.1) && (backToKw cpos (keywordEach [] X.env)).all (fun x=>x.1.isSome)
  && decide (([e,f]:List Expr).length+([]:List Keyword).length+(if ([]:List Keyword).isEmpty then 0 else 1)<30))=true
 line:(apos.endLine == cpos.line)=true
 trees:backTo cpos (starEach [e,f] X.env)=[(false,eval e X.env),(false,eval f X.env)]
def IsD (H:Hp) (a:Addr):Prop:=(∃ kvs,Rd H a (.dK kvs))∨∃ kvs,Rd H a (.dT kvs)
theorem isD_at {X:Cx} {pins:List (Addr × Obj)} {σ:St} {H:Hp} {s:Shared} {a:Addr} (I:Inv X pins σ H s) (d:IsD H a) :
  s.TypeIs (.ref a) "dict"∧(∀ b,Value.ref a = .ref b→∃ ob,s.heap.get? b=some ob∧ob.dict=none)∧(a == sysModules)=false:=by
 rcases d with⟨kvs,e⟩ | ⟨kvs,e⟩
 ·obtain⟨_,hd,vs,_,dd⟩:=dk_rd I.hok e
  refine⟨dd.typeIs,fun b q=>?_,hd⟩
  cases q
  obtain⟨ob,_,_,h1,h2,_⟩:=dd
  exact⟨ob,h1,h2.2.1⟩
 ·obtain⟨_,hd,xs,_,dd⟩:=dt_rd I.hok e
  refine⟨dd.typeIs,fun b q=>?_,hd⟩
  cases q
  obtain⟨ob,_,_,h1,h2,_⟩:=dd
  exact⟨ob,h1,h2.2.1⟩
section
variable {X:Cx} {pins:List (Addr × Obj)} {σ:St} {H:Hp} {s:Shared} {a:Addr} {y d:V} {u r:Value} {o:Option V} {A:Around} {E:Value→Shared→Prop}
theorem d_get2 {Q:Value→Shared→Prop} (hu:A.units+1<cLine) (I:Inv X pins σ H s) (g:DGet H a y o) (ry:RelV y u) (rd:RelV d r) (h:∀ w' s',Inv X pins σ H s'→RelV (o.getD d) w'→Q w' s') :
  wpAny (model X.prog X.w) A (call (.builtin "dict.get") [.ref a,u,r]) Q E s:=by
 rcases g with⟨kvs,k,e,ey,l⟩ | ⟨kvs,k,b,e,ey,eb,l⟩
 ·subst ey
  obtain⟨z,hd,vs,rel,dd⟩:=dk_rd I.hok e
  refine call_meetsIn PySem.F.slot_dict_get dd.typeIs PySem.F.entry_dict_get (PySem.F.args_dict_get_3 _ _ _) (meets_dict_get_default (mixKind X.prog X.w) a (kV_is ry) hd r) ⟨_,dd.mapOf,h _ _ (I.tok _) ?_⟩
  rw[l]
  exact (rel.val k).getD rd
 ·subst ey
  cases (show u=Value.ref b from ry)
  obtain⟨z,hd,xs,rel,dd⟩:=dt_rd I.hok e
  refine call_meetsIn PySem.F.slot_dict_get dd.typeIs PySem.F.entry_dict_get (PySem.F.args_dict_get_3 _ _ _) (meetsH_dict_get_default (tupleKind (mixKind X.prog X.w)) a b hd r) ⟨tupleKind_room_in1 hu,k,xs,key_of I.hok eb,dd,h _ _ (I.tok _) ?_⟩
  rw[l]
  exact (rel.val k).getD rd
end
def tDGet2 (td ty tx:TE):TE:=fun σ H Q=>td σ H fun x H1=>∃ a,x = .ref a∧IsD H1 a∧ty σ H1 fun y H2=>tx σ H2 fun z H3=>∃ o,DGet H3 a y o∧Q (o.getD z) H3
section
variable {X:Cx} {o e f:Expr} {apos cpos:Pos} {td ty tx:TE}
theorem pe_dget2 (hu:X.A.units+1<cLine) (ho:PE X o td) (he:PE X e ty) (hf:PE X f tx) (m:M2 X o "get" apos e f cpos):PE X (.Call (.Attribute o "get" apos) [e,f] [] cpos) (tDGet2 td ty tx):=by
 intro pins s σ H Q I h
 refine wpAny_Call_method m.base m.few m.line PySem.F.plainAttrs_dict PySem.F.slot_dict_get PySem.F.type_dict_get (thn (ho pins s σ H _ I h) fun u s1 ⟨x,H1,I1,rx,a,ex,d,q1⟩=>?_)
 subst ex
 obtain rfl:u=Value.ref a:=rx
 obtain⟨t1,t2,_⟩:=isD_at I1 d
 refine⟨t1,t2,?_⟩
 rw[m.trees]
 refine Calls.callWith_builtin rfl (Calls.evalArgs_plain (Calls.spliced_cons (thn (he pins s1 σ H1 _ I1 q1) fun iv s2 ⟨y,H2,I2,ry,q2⟩=>
  Calls.spliced_cons (thn (hf pins s2 σ H2 _ I2 q2) fun fv s3 ⟨z,H3,I3,rz,ov,g,q3⟩=>Calls.spliced_nil ?_))))
 exact d_get2 hu I3 g ry rz fun w' s4 I4 rw'=>⟨_,H3,I4,rw',q3⟩
end
section
variable {X:Cx} {pins:List (Addr × Obj)} {σ:St} {H:Hp} {s:Shared} {a:Addr} {kvs:List (Key × V)} {A:Around} {E:Value→Shared→Prop}
end
section
variable {X:Cx} {pins:List (Addr × Obj)} {σ:St} {H:Hp} {s:Shared} {a:Addr} {y:V} {u:Value} {A:Around} {E:Value→Shared→Prop}
end
end L2
namespace L2
open PySem PySem.Spec PyProof.Rows
theorem ObjOk.is {P:Program} {w:World} {H:Hp} {h:Heap} {a:Addr} {o:HO} (x:ObjOk P w H h a o):∃ ob,h.get? a=some ob:=by
 cases o with
 | lst xs=>obtain⟨_,_,_,_,e⟩:=x; exact⟨_,e⟩
 | tup xs=>obtain⟨_,_,_,ob,e,_⟩:=x; exact⟨_,e⟩
 | dK kvs=>obtain⟨_,_,_,_,ob,_,_,e,_⟩:=x; exact⟨_,e⟩
 | dT kvs=>obtain⟨_,_,_,_,ob,_,_,e,_⟩:=x; exact⟨_,e⟩
 | set S n=>obtain⟨ob,_,_,_,e,_⟩:=x; exact⟨_,e⟩
 | ins C dx fs=>obtain⟨_,_,_,e,_⟩:=x; exact⟨_,e⟩
 | own y=>exact x
 | xd fs=>obtain⟨_,⟨ob,_,_,e,_⟩,_⟩:=x; exact⟨_,e⟩
 | rng lo hi=>obtain⟨_,_,_,e⟩:=x; exact⟨_,e⟩
 | frz ob u=>obtain⟨e,_⟩:=x; exact⟨_,e⟩
 | tbl ps=>exact⟨_,(show h.get? a=some _ from x)⟩
 | met f y=>exact⟨_,(show h.get? a=some _ from x)⟩
 | ext φ=>obtain⟨_,e,_⟩:=x; exact e
def Big (fs:List Addr) (h h1 B:Heap):Prop:=∀ b o o',h.get? b=some o→b∉fs→h1.get? b=some o'→B.get? b=some o'
def BigH (H':Hp) (h1 B:Heap):Prop:=∀ b u o,H' b=some u→h1.get? b=some o→B.get? b=some o
theorem Big.on {fs:List Addr} {h h1 h2 B:Heap} (b1:Big fs h h1 B) (there:∀ b o,h.get? b=some o→∃ o',h1.get? b=some o') (st:B.StaysIn h2):Big fs h h2 B:=fun b o o' q hb e=>by
 obtain⟨o1,e1⟩:=there b o q
 have e2:=b1 b o o1 q hb e1
 have e3:=st b o1 e2
 rw[e] at e3; cases e3
 exact e2
theorem BigH.on {P:Program} {w:World} {H':Hp} {h1 h2 B:Heap} (b1:BigH H' h1 B) (hok:HOk P w H' h1) (st:B.StaysIn h2):BigH H' h2 B:=fun b u o q e=>by
 obtain⟨o1,e1⟩:=(hok b u q).is
 have e2:=b1 b u o1 q e1
 have e3:=st b o1 e2
 rw[e] at e3; cases e3
 exact e2
theorem Un.move {fs:List Addr} {H H':Hp} {h h1 h2 B:Heap} (u:Un fs [] H H' h h1) (st:B.StaysIn h2) (up:h1.UpToSlots h2) (fr:∀ b∈fs,∃ o,h1.get? b=some o∧∀ vs,o.data≠.fields vs) (big:Big fs h h1 B):Un fs [] H H' h h2 where
 keep:=fun b o q n hb hx=>st b o (big b o o q hb (u.keep b o q n hb hx))
 slot:=fun b o q n hb hx=>by
  obtain⟨sl,e⟩:=u.slot b o q n hb hx
  obtain⟨o1,e1,nf⟩:=fr b hb
  rw[e] at e1; cases e1
  obtain⟨sl2,e2⟩:=up b _ e nf
  exact⟨sl2,e2⟩
 free:=u.free
 there:=fun b o q hx=>by
  obtain⟨o1,e⟩:=u.there b o q hx
  by_cases hb:b∈fs
  ·obtain⟨o2,e2,nf⟩:=fr b hb
   obtain⟨sl,e3⟩:=up b o2 e2 nf
   exact⟨_,e3⟩
  ·exact⟨o1,st b o1 (big b o o1 q hb e)⟩
 tups:=u.tups
 frzs:=u.frzs
 tbls:=u.tbls
theorem HOk.move {P:Program} {w:World} {H':Hp} {h1 h2 B:Heap} (x:HOk P w H' h1) (st:B.StaysIn h2) (big:BigH H' h1 B):HOk P w H' h2:=fun a o e=>
 (x a o e).stay (fun b u hb q=>by
  rcases hb with rfl | hb
  ·exact st b u (big b _ u e q)
  ·exact st b u (big b _ u hb q)) (fun _ q=>q) fun _ _ q=>q
structure Fly (P:Program) (w:World) (outer:List Env) (H:Hp) (s:Shared) (ea:Addr) (cls:Value) (H':Hp) (s':Shared):Prop where
 os:s'.os=s.os
 bare:AllBare s'.gens
 un:Un (frs outer) [] H H' s.heap s'.heap
 hok:HOk P w H' s'.heap
 fl:∃ B a0,Heap.FlyingW B outer ea cls a0 s'.heap∧Big (frs outer) s.heap s'.heap B∧BigH H' s'.heap B
def CXE (P:Program) (w:World):CXT:=fun outer H s E e s'=>∃ (ea:Addr) (cls:Value) (H':Hp),e = .ref ea∧E cls none H'∧Fly P w outer H s ea cls H' s'
structure Top (X:Cx):Prop where
 stk:X.stack=X.env :: X.outer
 frame:X.env.frame=some X.env.locals
 ex:X.ex=[]
section
variable {X:Cx} {pins:List (Addr × Obj)} {σ:St} {H H':Hp} {s s':Shared} {ea:Addr} {cls:Value}
theorem Inv.low (I:Inv X pins σ H s) (t:Top X) {b:Addr} {o:Obj} (q:X.s₀.heap.get? b=some o) (hb:b∉X.fs):b∉frs X.stack:=fun z=>by
 rcases List.mem_cons.mp (I.stkSub b z) with e | z
 ·subst e
  exact absurd (Nat.lt_of_lt_of_le (Heap.lt_size q) I.ok.above) (Nat.lt_irrefl _)
 ·exact hb z
theorem Inv.base0 (I:Inv X pins σ H s) (t:Top X):Un X.fs [] X.H₀ H X.s₀.heap s.heap:=by
 have u:=I.base
 rw[t.ex] at u
 exact u
theorem Inv.frames1 (I:Inv X pins σ H s) (t:Top X):X.A.frames=some (X.env :: X.outer):=by rw[← t.stk]; exact I.ok.frames
theorem leave_made {h':Heap} {vs:List Value} {R:Unit→Shared→Prop} {E:Value→Shared→Prop} (I:Inv X pins σ H s) (t:Top X) (hm:Heap.MadeExcOf s.heap h' ea cls vs)
  (k:∀ s2,Fly X.prog X.w X.outer X.H₀ X.s₀ ea cls H s2→R () s2):wpAny (model X.prog X.w) X.A (leaving X.env (.ref ea)) R E { s with heap:=h' }:=by
 have fr1:s.heap.FunFrames X.base (X.env :: X.outer):=by rw[← t.stk]; exact I.stack
 have hin:∀ env∈(X.env :: X.outer),∀ a,env.frame=some a→a∈frs (X.env :: X.outer):=fun env he a ha=>List.mem_filterMap.mpr ⟨env,he,ha⟩
 refine wpAny_leaves_madeW (base:=PySem.W.hideAll s.heap (frs (X.env :: X.outer))) (h:=s.heap) (I.frames1 t) t.frame (fun b o q=>PySem.W.of_hideAll _ q) (PySem.W.funFrames_hide fr1 hin) hm fun h2 tp fl _ _ up=>?_
 have u0:=I.base0 t
 have u1:Un X.fs [] X.H₀ H X.s₀.heap h':=u0.trans (Un.kept hm.keeps)
 have b1:Big X.fs X.s₀.heap h' (PySem.W.hideAll s.heap (frs (X.env :: X.outer))):=fun b o o' q hb e=>by
  obtain⟨o1,e1⟩:=u0.there b o q (by simp)
  have e2:=hm.keeps b o1 e1
  rw[e] at e2; cases e2
  refine PySem.W.hideAll_get _ e1 fun z=>I.low t q hb ?_
  rw[t.stk]; exact z
 have b2:BigH H h' (PySem.W.hideAll s.heap (frs (X.env :: X.outer))):=fun b u o q e=>by
  obtain⟨o1,e1⟩:=(I.hok b u q).is
  have e2:=hm.keeps b o1 e1
  rw[e] at e2; cases e2
  refine PySem.W.hideAll_get _ e1 fun z=>?_
  have z2:=I.stkFree b (by rw[t.stk]; exact z)
  rw[q] at z2; cases z2
 have fr:∀ b∈X.fs,∃ o,h'.get? b=some o∧∀ vs,o.data≠.fields vs:=fun b hb=>by
  obtain⟨_,o,ho,nf⟩:=I.funs.mem hb
  exact⟨o,hm.keeps b o ho,nf⟩
 have ok1:HOk X.prog X.w H h':=I.hok.kept hm.keeps
 exact k _ ⟨I.os,I.bare,u1.move fl.1 up fr b1,ok1.move fl.1 b2,_,_,fl,b1.on (fun b o q=>u1.there b o q (by simp)) fl.1,b2.on ok1 fl.1⟩
end
theorem top_of {P:Program} {w:World} {K:PySem.W.Frag} {mg:Str→Option Value} {base:Heap} {N:List Str} {qual:Str} {scope:Scope} {f:Addr} {cd:Value} {A:Around} {outer:List Env} {s:Shared} {H:Hp} {E:XK} {CX:CXT} :
  Top (cxOf CX P w K mg base N qual scope f cd A outer s H E):=⟨rfl,rfl,rfl⟩
structure Err (K:PySem.W.Frag) (mg:Str→Option Value) (x:Str) (C:Addr) (bmB:List Value) (newId:String):Prop where
 nm:PySem.W.nsIn K mainGlobals x=some (some (.ref C))
 ex:PySem.W.excIn K C bmB newId=true
theorem own_of {K:PySem.W.Frag} {h:Heap} {mg:Str→Option Value} {x:Str} {C:Addr} {bmB:List Value} {newId:String} (X:K.In h) (G:h.Ns mainGlobals mg) (Z:Err K mg x C bmB newId):OwnCls x C bmB newId mg h:=by
 have q:=Z.ex
 refine⟨PySem.W.mg_of X G Z.nm,?_⟩
 unfold PySem.W.excIn at q
 split at q
 next dd cd sl ho=>
  split at q
  next C' bm k0 k1 k2 k3 n k5 hm hs=>
   simp only [Bool.and_eq_true,beq_iff_eq,Bool.not_eq_true'] at q
   obtain⟨⟨⟨⟨⟨e1,e2⟩,hdel⟩,ht⟩,hok⟩,hni⟩:=q
   subst e1 e2
   cases cd with
   | mk nm bs mro ns qn hd sn sub ab col del=>
    have hm':mro = .ref C' :: bm:=hm
    have hdel':del=false:=hdel
    subst hm' hdel'
    cases sl with
    | mk l=>
     have hs':l=[k0,k1,k2,k3,some (.builtin n),k5]:=hs
     subst hs'
     exact⟨bm,ns,nm,qn,bs,hd,sn,sub,ab,col,dd,k0,k1,k2,k3,k5,_,X _ _ ho,.of_isNs (PySem.W.isNs_of_in X hok),PySem.W.nsMap_none_of_in X hok hni,PySem.W.tail_of_in X ht⟩
  next=>cases q
 next=>cases q
def tRaise (E:XK) (C:Addr) (ta:TA):TS:=fun _ σ H=>ta σ H fun vs H1=>vs.length≤sizeLine∧E (.ref C) none H1
theorem ps_raise {P:Program} {w:World} {K:PySem.W.Frag} {mg:Str→Option Value} {base:Heap} {N:List Str} {qual:Str} {scope:Scope} {f:Addr} {cd:Value} {A:Around} {outer:List Env} {s:Shared} {H:Hp} {E:XK}
  {x:Str} {C:Addr} {bmB:List Value} {newId B initId:String} {np cpos pos:Pos} {e0:Expr} {rest:List Expr} {ta:TA}
  (Z:Err K mg x C bmB newId) (FB:ExcBaseFacts B newId initId bmB) (ha:PA (cxOf (CXE P w) P w K mg base N qual scope f cd A outer s H E) (e0 :: rest) ta) (hg:Gl (cxOf (CXE P w) P w K mg base N qual scope f cd A outer s H E) x)
  (he:starEach (e0 :: rest) (envOfC qual scope s.heap.objs.size f cd)=(false,eval e0 (envOfC qual scope s.heap.objs.size f cd)) :: starEach rest (envOfC qual scope s.heap.objs.size f cd):=by rfl)
  (hpl:(backTo cpos (starEach rest (envOfC qual scope s.heap.objs.size f cd))).any (·.1)=false:=by rfl) (hdb:(x == ("__debug__" : Str))=false:=by decide) :
  PS (cxOf (CXE P w) P w K mg base N qual scope f cd A outer s H E) (.Raise (some (.Call (.Name x np) (e0 :: rest) [] cpos)) none pos) (tRaise E C ta):=by
 intro pins s1 σ H1 D I h
 have O:=own_of I.mod.kin I.mod.glob Z
 obtain⟨tl,N',nm,q,bs,hdct,sn,sub,ab,col,dd,k0,k1,k2,k3,k5,mN,hC,hN,hni,T⟩:=O.obj
 refine wpAny_Raise_call_subT (C:=C) (nm:=nm) (q:=q) (N:=N') (bs:=bs) (bm:=tl) (hdct:=hdct) (sn:=sn) (sub:=sub) (ab:=ab) (col:=col) (dd:=dd) (k0:=k0) (k1:=k1) (k2:=k2) (k3:=k3) (k5:=k5) FB (mN:=mN) (T.hasType FB.hasBase) (I.ok.hd rfl) ?_ hni (ld_glob I hg O.bound ⟨rfl,?_⟩ hdb)
 ·show (backTo cpos (starEach (e0 :: rest) (envOfC qual scope s.heap.objs.size f cd))).any (·.1)=false
  rw[he]
  show (false || (backTo cpos (starEach rest (envOfC qual scope s.heap.objs.size f cd))).any (·.1))=false
  rw[hpl]
  rfl
 ·have hw:=ha cpos pins s1 σ H1 _ I h
  show wpAny _ _ (evalArgs (.ref C) true (backTo cpos (starEach (e0 :: rest) (envOfC qual scope s.heap.objs.size f cd))) []) _ _ s1
  have hw':wpAny (model P w) (A.deeper (envOfC qual scope s.heap.objs.size f cd)) (spliced (backTo cpos (starEach (e0 :: rest) (envOfC qual scope s.heap.objs.size f cd)))) (AP (cxOf (CXE P w) P w K mg base N qual scope f cd A outer s H E) pins σ fun vs H1=>vs.length≤sizeLine∧E (.ref C) none H1) (cxOf (CXE P w) P w K mg base N qual scope f cd A outer s H E).xe s1:=hw
  rw[he] at hw' ⊢
  refine Calls.evalArgs_plain (thn hw' fun us s2 ⟨vs,H2,I2,r,z,e⟩=>⟨rfl,?_,?_,?_,?_,fun h' ea hm=>?_⟩)
  ·rw[← r.length]; exact z
  ·exact I2.bk _ _ hC
  ·exact hN.keeps I2.bk
  ·exact T.keeps I2.bk
  ·exact leave_made I2 top_of hm fun s3 f3=>⟨ea,_,H2,rfl,e,f3⟩
section
variable {X:Cx} {pins pn':List (Addr × Obj)} {σ:St} {H:Hp} {s:Shared}
end
section
variable {X:Cx} {x n:Str} {c:Value} {E:XK} {body suite:List Stmt} {b0:Stmt} {np hpos pos:Pos} {tb th:TS}
end
section
variable {X:Cx}
end
section
variable {P:Program} {w:World} {K:PySem.W.Frag} {mg:Str→Option Value} {base:Heap}
theorem Fun.okE {x qual:Str} {st:Stmt} {f:Addr} {fd:FuncData} {N ps:List Str} {k:Nat} {sp:Sp} (F:Fun K x qual st f fd) (S:FnScope N ps (defScope st)) (len:∀ vs H Q E,sp vs H Q E→vs.length=ps.length)
  (hbody:∀ (cdv:Value) (A:Around) (outer:List Env) (s:Shared) (H:Hp) (vs:List V) (Q:VK) (E:XK),Room k (A.deeper (envOfC qual (defScope st) s.heap.objs.size f cdv))→sp vs H Q E →
   ∃ t,PSs (cxOf (CXE P w) P w K mg base N qual (defScope st) f cdv A outer s H E) (defBody st) t∧t { nx:=fun _ H'=>Q .non H',rt:=Q } (start N vs) H):FnOk P w K mg base (CXE P w) (k+1) f fd ps sp:=by
 obtain⟨oc,od,kV,doc,pm,an,cdv,ct,osl,rfl,lk,hcd⟩:=F.ex
 exact fn_of lk hcd S len fun A outer s H vs Q E hr hsp=>hbody cdv A outer s H vs Q E hr hsp
theorem FnOk.toE {k:Nat} {f:Addr} {fd:FuncData} {ps:List Str} {sp:Sp} (F:FnOk P w K mg base CX0 k f fd ps sp):FnOk P w K mg base (CXE P w) k f fd ps sp:=
 ⟨F.len,fun A outer s H args us vs Q E hr e0 hb r h=>codeAny_mono (F.run A outer s H args us vs Q E hr e0 hb r h) fun res s' q=>by
  cases res with
  | ok fl=>cases fl <;> exact q
  | error e=>exact (show False from q).elim⟩
end
end L2
namespace FM
theorem gcd_turn {a b:Int} (ha:0≤a) (hb:0<b):Int.gcd b (a % b)=Int.gcd a b:=by
 obtain⟨m,rfl⟩:=Int.eq_ofNat_of_zero_le ha
 obtain⟨n,rfl⟩:=Int.eq_ofNat_of_zero_le (Int.le_of_lt hb)
 rw[← Int.natCast_emod,Int.gcd_natCast_natCast,Int.gcd_natCast_natCast,Nat.gcd_comm m n,Nat.gcd_comm n (m % n)]
 exact (Nat.gcd_rec n m).symm
theorem gcd_abs (a b:Int):Int.gcd (if a<0 then -a else a) (if b<0 then -b else b)=Int.gcd a b:=by
 have h:∀ x:Int,(if x<0 then -x else x).natAbs=x.natAbs:=fun x=>by split <;> omega
 unfold Int.gcd
 rw[h,h]
theorem gcd_abs1 (a b:Int):Int.gcd (if a<0 then -a else a) b=Int.gcd a b:=by
 have h:∀ x:Int,(if x<0 then -x else x).natAbs=x.natAbs:=fun x=>by split <;> omega
 unfold Int.gcd
 rw[h]
def dv (t b:Int):Int:=if b<0 then -((Int.gcd t b:Nat):Int) else ((Int.gcd t b:Nat):Int)
theorem gcd_pos {t b:Int} (hb:b≠0):0<Int.gcd t b:=Int.gcd_pos_of_ne_zero_right t hb
theorem dv_ne {t b:Int} (hb:b≠0):dv t b≠0:=by
 have:=gcd_pos (t:=t) hb
 unfold dv; split <;> omega
theorem dv_abs (t b:Int):(dv t b).natAbs=Int.gcd t b:=by unfold dv; split <;> omega
theorem dv_dvd_l (t b:Int):dv t b ∣ t:=by
 unfold dv; split
 ·exact Int.neg_dvd.mpr (Int.gcd_dvd_left ..)
 ·exact Int.gcd_dvd_left ..
theorem dv_dvd_r (t b:Int):dv t b ∣ b:=by
 unfold dv; split
 ·exact Int.neg_dvd.mpr (Int.gcd_dvd_right ..)
 ·exact Int.gcd_dvd_right ..
theorem fdiv_exact {d x q:Int} (hd:d≠0) (h:x=d*q):x.fdiv d=q:=by
 subst h; exact Int.mul_fdiv_cancel_left q hd
theorem num_eq {t b:Int} (hb:b≠0):t.fdiv (dv t b)=(Rat.divInt t b).num:=by
 obtain⟨q,hq⟩:=dv_dvd_l t b
 rw[fdiv_exact (dv_ne hb) hq,Rat.num_divInt]
 have g0:=gcd_pos (t:=t) hb
 rw[Int.gcd_comm b t]
 rcases Int.lt_or_lt_of_ne hb with h | h
 ·have e:dv t b = -((Int.gcd t b:Nat):Int):=if_pos h
  rw[e] at hq
  rw[Int.sign_eq_neg_one_of_neg h]
  generalize hg:((Int.gcd t b:Nat):Int)=g at hq ⊢
  have e2 : -1*t=g*q:=by rw[hq]; grind
  rw[e2,Int.mul_ediv_cancel_left _ (by omega)]
 ·have e:dv t b=((Int.gcd t b:Nat):Int):=if_neg (by omega)
  rw[e] at hq
  rw[Int.sign_eq_one_of_pos h,Int.one_mul]
  generalize hg:((Int.gcd t b:Nat):Int)=g at hq ⊢
  rw[hq,Int.mul_ediv_cancel_left _ (by omega)]
theorem den_eq {t b:Int} (hb:b≠0):b.fdiv (dv t b)=((Rat.divInt t b).den:Int):=by
 obtain⟨q,hq⟩:=dv_dvd_r t b
 rw[fdiv_exact (dv_ne hb) hq,Rat.den_divInt,if_neg hb]
 have g0:=gcd_pos (t:=t) hb
 rw[Int.gcd_comm b t]
 have hn:b.natAbs=Int.gcd t b*q.natAbs:=by rw[← dv_abs t b,← Int.natAbs_mul,← hq]
 rw[hn,Nat.mul_div_cancel_left _ g0]
 have hs:0<q:=by
  rcases Int.lt_or_lt_of_ne hb with h | h
  ·have e:dv t b = -((Int.gcd t b:Nat):Int):=if_pos h
   rw[e] at hq
   rcases Int.lt_or_le 0 q with z | z
   ·exact z
   ·have:0≤-((Int.gcd t b:Nat):Int)*q:=Int.mul_nonneg_of_nonpos_of_nonpos (by omega) z
    omega
  ·have e:dv t b=((Int.gcd t b:Nat):Int):=if_neg (by omega)
   rw[e] at hq
   rcases Int.lt_or_le 0 q with z | z
   ·exact z
   ·have:((Int.gcd t b:Nat):Int)*q≤0:=Int.mul_nonpos_of_nonneg_of_nonpos (by omega) z
    omega
 omega
theorem add_is (r s:Rat):Rat.divInt (r.num*s.den+s.num*r.den) (r.den*s.den)=r+s:=by
 rw[Rat.add_def',← Int.natCast_mul,Rat.divInt_ofNat]
theorem mul_is (r s:Rat):Rat.divInt (r.num*s.num) (r.den*s.den)=r*s:=by
 rw[Rat.mul_def',← Int.natCast_mul,Rat.divInt_ofNat]
theorem div_is (r s:Rat):Rat.divInt (r.num*s.den) (r.den*s.num)=r / s:=by
 rw[Rat.div_def,Rat.inv_def]
 conv=>rhs; rw[← Rat.num_divInt_den r]
 rw[Rat.divInt_mul_divInt]
theorem den_pos (r:Rat):(0:Int)<r.den:=by have:=r.den_pos; omega
theorem num_zero (r:Rat):r.num=0↔r=0:=Rat.num_eq_zero
theorem gcd_one (r:Rat):Int.gcd r.num r.den=1:=by
 unfold Int.gcd
 rw[Int.natAbs_natCast]
 exact r.reduced
theorem gcd_one_abs (r:Rat):Int.gcd (if r.num<0 then -r.num else r.num) r.den=1:=by rw[gcd_abs1]; exact gcd_one r
def Sm (n:Nat) (r:Rat):Prop:=r.num.natAbs<2 ^ n∧r.den<2 ^ n
theorem num_le {t b:Int} (hb:b≠0):(Rat.divInt t b).num.natAbs≤t.natAbs:=by
 rw[← num_eq hb]
 obtain⟨p,hp⟩:=dv_dvd_l t b
 rw[fdiv_exact (dv_ne hb) hp]
 conv=>rhs; rw[hp]
 rw[Int.natAbs_mul,dv_abs]
 exact Nat.le_mul_of_pos_left _ (gcd_pos hb)
theorem den_le {t b:Int} (hb:b≠0):(Rat.divInt t b).den≤b.natAbs:=by
 have h:=den_eq (t:=t) hb
 obtain⟨p,hp⟩:=dv_dvd_r t b
 rw[fdiv_exact (dv_ne hb) hp] at h
 have e:(Rat.divInt t b).den=p.natAbs:=by omega
 rw[e]
 conv=>rhs; rw[hp]
 rw[Int.natAbs_mul,dv_abs]
 exact Nat.le_mul_of_pos_left _ (gcd_pos hb)
theorem gcd_le {t b:Int} (hb:b≠0):Int.gcd t b≤b.natAbs:=Nat.le_of_dvd (by omega) (Nat.gcd_dvd_right ..)
theorem mul_lt {a b:Int} {m n:Nat} (ha:a.natAbs<2 ^ m) (hb:b.natAbs<2 ^ n):(a*b).natAbs<2 ^ (m+n):=by
 rw[Int.natAbs_mul,Nat.pow_add]
 exact Nat.mul_lt_mul'' ha hb
theorem add_lt {a b:Int} {m:Nat} (ha:a.natAbs<2 ^ m) (hb:b.natAbs<2 ^ m):(a+b).natAbs<2 ^ (m+1):=by
 have:=Int.natAbs_add_le a b
 rw[Nat.pow_succ]
 omega
theorem lt_mono {a m n:Nat} (h:a<2 ^ m) (hmn:m≤n):a<2 ^ n:=Nat.lt_of_lt_of_le h (Nat.pow_le_pow_right (by decide) hmn)
end FM
namespace L2
open PySem PySem.Spec PyProof.Rows
section
variable {X:Cx}
theorem op_mulB:OpR X (binaryOp .Mult) (rI IntMulOk fun i j=>.int (i*j)):=opI fun _ _ _ _ _ _ _ hc q=>mul_int q hc
theorem lg_small {j:Int} (h0:j≠0) (h:j.natAbs<2 ^ 9000):j.natAbs.log2<9000:=(Nat.log2_lt (by omega)).mpr h
theorem op_fdivB:OpR X (binaryOp .FloorDiv) (rI (fun _ j=>j≠0∧j.natAbs<2 ^ 9000) fun i j=>.int (i.fdiv j)):=opI fun i j _ _ _ _ _ hc q=>floordiv_int hc.1 q (.inl (PyProof.noPylong_of_log2 (lg_small hc.1 hc.2)))
theorem op_eqL:OpR X (compareOp .Eq) (fun x y H Q=>∃ p q xs,x = .ref p∧y = .ref q∧SqL X.K H p xs∧SqL X.K H q []∧X.A.units<cLine∧Q (.bl xs.isEmpty) H):=by
 intro pins s σ H x y v u Q I rx ry h
 obtain⟨p,q,xs,rfl,rfl,hp,hq,hu,k⟩:=h
 cases (show v=Value.ref p from rx)
 cases (show u=Value.ref q from ry)
 obtain⟨its,r,pl,hz⟩:=I.list hp
 obtain⟨its2,r2,pl2,_⟩:=I.list hq
 cases r2
 cases xs with
 | nil=>
  cases r
  exact SeqAt.eq_listAt pl.isList pl2.isList rfl hu (e:=fun _=>true) (fun j h1=>absurd h1 (by simp)) ⟨.bl true,H,I,rfl,k⟩
 | cons x0 xr=>
  have hl:=r.length
  refine SeqAt.eq_list_lengthsAt pl.isList pl2.isList ?_ hu ⟨.bl false,H,I,rfl,k⟩
  cases its with
  | nil=>simp at hl
  | cons a b=>rfl
end
def frV (r:Rat):List V:=[.int r.num,.int (r.den:Int)]
theorem Same.tup {K:PySem.W.Frag} {H H':Hp} {a:Addr} {xs:List V} (e:Same H H') (h:SqT K H a xs):SqT K H' a xs:=by
 rcases h with (h | ⟨o,h⟩) | h
 ·exact .inl (.inl (e _ _ h))
 ·exact .inl (.inr ⟨o,e _ _ h⟩)
 ·exact .inr h
theorem same_new {H:Hp} {p:Addr} (h:H p=none) (o:HO):Same H (upd H p o):=fun b u q=>by rw[upd_ne (ne_of_none q h)]; exact q
theorem fr_top (r:Rat):atI (frV r) 0=some (.int r.num):=rfl
theorem fr_bot (r:Rat):atI (frV r) 1=some (.int (r.den:Int)):=rfl
theorem ne_of_test {y z:Int} (c:(!decide (V.int y=V.int z))=true):y≠z:=by simpa using c
theorem eq_of_ntest {y z:Int} (c:¬ (!decide (V.int y=V.int z))=true):y=z:=by simpa using c
theorem eq_of_test {y z:Int} (c:decide (V.int y=V.int z)=true):y=z:=by simpa using c
theorem ne_of_ntest {y z:Int} (c:¬ decide (V.int y=V.int z)=true):y≠z:=by simpa using c
theorem menu {xs:List Int} {i:Int} (h0:0≤i) (h1:i<xs.length):∃ v∈xs,atI (xs.map V.int) i=some (.int v):=by
 obtain⟨n,rfl⟩:=Int.eq_ofNat_of_zero_le h0
 have hn:n<xs.length:=by omega
 exact⟨xs[n],List.getElem_mem hn,atI_nat (by rw[List.getElem?_map,List.getElem?_eq_getElem hn]; rfl)⟩
theorem bt_int:bootBuiltins "int" = some (.type "int"):=by decide +kernel
theorem bt_bool:bootBuiltins "bool" = some (.type "bool"):=by decide +kernel
theorem bt_str:bootBuiltins "str" = some (.type "str"):=by decide +kernel
theorem bt_tuple:bootBuiltins "tuple" = some (.type "tuple"):=by decide +kernel
section
variable {K:PySem.W.Frag}
theorem kit_same {T:String}:PySem.W.kitOne K (.type T) (.type T)=some true:=if_pos (by simp)
end
theorem bits_of {x:Int} {n:Nat} (h:x.natAbs<2 ^ n):Builtin.Int.intBits x≤n:=PySem.intBits_le_iff.mpr h
theorem mulOk {x y:Int} {m n:Nat} (h:x.natAbs<2 ^ m) (k:y.natAbs<2 ^ n) (z:m+n≤134217728):IntMulOk x y:=PySem.IntMulOk.of_le (bits_of h) (bits_of k) z
theorem pass_no {P:Program} {w:World} {X:Cx}:Passes (CXE P w) X E0:=fun _ _ _ _ _ _ _ c=>by
 obtain⟨_,_,_,_,z,_⟩:=c
 exact z.elim
end L2
namespace L2
open PySem PySem.Spec PyProof.Rows
def clOf (env:Env):List (Str × NameKind)→List (Str × Addr)→List (Str × Addr)
 | [],acc=>acc
 | (n,k) :: r,acc=>clOf env r (if (k == .free)=true then (n,(env.cells.lookup n).getD 0) :: acc else acc)
theorem clOf_sub {env:Env}:∀ (l:List (Str × NameKind)) (acc:List (Str × Addr)),(∀ x∈l,x.2 = .free→∃ c,env.cells.lookup x.1=some c)→(∀ n c,acc.lookup n=some c→env.cells.lookup n=some c) →
  ∀ n c,(clOf env l acc).lookup n=some c→env.cells.lookup n=some c
 | [],acc,_,ha,n,c,e=>ha n c e
 | (m,k) :: r,acc,hl,ha,n,c,e=>by
  refine clOf_sub r _ (fun x hx=>hl x (List.mem_cons_of_mem _ hx)) (fun n' c' e'=>?_) n c e
  by_cases hk:(k == NameKind.free)=true
  ·rw[if_pos hk,List.lookup_cons] at e'
   cases hb:n' == m with
   | true=>
    rw[hb] at e'
    have em:n'=m:=by simpa using hb
    obtain⟨d,hd⟩:=hl (m,k) List.mem_cons_self (by simpa using hk)
    have hd':env.cells.lookup m=some d:=hd
    rw[hd'] at e'
    have e2:d=c':=by simpa using e'
    rw[em,hd',e2]
   | false=>
    rw[hb] at e'
    exact ha n' c' e'
  ·rw[if_neg hk] at e'
   exact ha n' c' e'
theorem clOf_old {env:Env}:∀ (l:List (Str × NameKind)) (acc:List (Str × Addr)) (n:Str),(∃ c,acc.lookup n=some c)→∃ c,(clOf env l acc).lookup n=some c
 | [],_,_,h=>h
 | (m,k) :: r,acc,n,h=>by
  refine clOf_old r _ n ?_
  by_cases hk:(k == NameKind.free)=true
  ·rw[if_pos hk,List.lookup_cons]
   cases hb:n == m with
   | true=>exact⟨_,rfl⟩
   | false=>exact h
  ·rw[if_neg hk]; exact h
theorem clOf_has {env:Env}:∀ (l:List (Str × NameKind)) (acc:List (Str × Addr)) (n:Str),(n,NameKind.free)∈l→∃ c,(clOf env l acc).lookup n=some c
 | (m,k) :: r,acc,n,h=>by
  rcases List.mem_cons.mp h with e | h
  ·have e1:n=m:=congrArg Prod.fst e
   have e2:k = .free:=(congrArg Prod.snd e).symm
   subst e1 e2
   refine clOf_old r _ n ⟨(env.cells.lookup n).getD 0,?_⟩
   rw[if_pos (by simp),List.lookup_cons]
   simp
  ·exact clOf_has r _ n h
theorem lookup_rel {env:Env} {x:Str}:∀ {names:List (Str × NameKind)},(names.map fun (n,k)=>if (k == NameKind.free && env.scope.kind == .function && env.kindOf n == some .cell) then (n,NameKind.cell) else (n,k)).lookup x=some .cell ∨
   (names.map fun (n,k)=>if (k == NameKind.free && env.scope.kind == .function && env.kindOf n == some .cell) then (n,NameKind.cell) else (n,k)).lookup x=some .free→(∀ y∈names,y.2≠.cell)→(x,NameKind.free)∈names
 | [],h,_=>by rcases h with h | h <;> cases h
 | (n,k) :: r,h,hc=>by
  rw[List.map_cons,List.lookup_cons] at h
  have e0:(if (k == NameKind.free && env.scope.kind == .function && env.kindOf n == some .cell)=true then (n,NameKind.cell) else (n,k)).1=n:=by split <;> rfl
  rw[e0] at h
  cases hb:x == n with
  | false=>
   rw[hb] at h
   exact List.mem_cons_of_mem _ (lookup_rel (names:=r) h fun y hy=>hc y (List.mem_cons_of_mem _ hy))
  | true=>
   have ex:x=n:=by simpa using hb
   subst ex
   rw[hb] at h
   have hk:k = .free:=by
    by_cases hq:(k == NameKind.free && env.scope.kind == .function && env.kindOf x == some .cell)=true
    ·simp only [Bool.and_eq_true,beq_iff_eq] at hq
     exact hq.1.1
    ·rw[if_neg hq] at h
     rcases h with h | h
     ·exact absurd (Option.some.inj h) (hc (x,k) List.mem_cons_self)
     ·exact Option.some.inj h
   subst hk
   exact List.mem_cons_self
theorem rel_free {env:Env} {x:Str}:∀ {names:List (Str × NameKind)},names.lookup x=some .free →
  (names.map fun (n,k)=>if (k == NameKind.free && env.scope.kind == .function && env.kindOf n == some .cell) then (n,NameKind.cell) else (n,k)).lookup x=some .cell ∨
   (names.map fun (n,k)=>if (k == NameKind.free && env.scope.kind == .function && env.kindOf n == some .cell) then (n,NameKind.cell) else (n,k)).lookup x=some .free
 | [],h=>by cases h
 | (n,k) :: r,h=>by
  rw[List.map_cons,List.lookup_cons]
  rw[List.lookup_cons] at h
  have e0:(if (k == NameKind.free && env.scope.kind == .function && env.kindOf n == some .cell)=true then (n,NameKind.cell) else (n,k)).1=n:=by split <;> rfl
  rw[e0]
  cases hb:x == n with
  | false=>
   rw[hb] at h
   exact rel_free (names:=r) h
  | true=>
   rw[hb] at h
   have hk:k = .free:=Option.some.inj h
   by_cases hq:(k == NameKind.free && env.scope.kind == .function && env.kindOf n == some .cell)=true
   ·rw[if_pos hq]; exact .inl rfl
   ·rw[if_neg hq,hk]; exact .inr rfl
abbrev Cx.blk (X:Cx) (scope:Scope) (C:Addr) (Nb:List Str) (s0:Shared) (H0:Hp) (fp:List Addr) (pn':List (Addr × Obj)):Cx:=
 { X with N:=Nb,s₀:=s0,H₀:=H0,env:=compEnvC scope (clOf X.env scope.names []) C X.env,outer:=X.stack,stack:=X.stack,ex:=fp,fn:=fun _=>false,pn:=pn',xe:=fun _ _=>False }
section
variable {X:Cx} {scope:Scope} {x:Str} {Nb:List Str} {js:List Nat} {pins:List (Addr × Obj)} {σ:St} {H:Hp} {s:Shared}
theorem Inv.unblock (I:Inv X pins σ H s) {fp:List Addr} (hf:∀ b∈fp,FpOk X pins H b) {C:Addr} (hC:C=s.heap.objs.size) {pn' pins':List (Addr × Obj)} {σ':St} {H':Hp} {s':Shared} {h2:Heap}
  (J:Inv (X.blk scope C Nb s H fp pn') pins' σ' H' s') (sb:Heap.SameBut C s'.heap h2):Inv X pins σ H' { s' with heap:=h2 }:=by
 subst hC
 have u:Un (frs X.stack) fp H H' s.heap s'.heap:=J.base
 have ne:∀ b o,s.heap.get? b=some o→b≠s.heap.objs.size:=fun b o e=>Nat.ne_of_lt (Heap.lt_size e)
 have u2:Un (frs X.stack) fp H H' s.heap h2:=⟨fun b o e n hb hx=>(sb.2 b (ne b o e)).trans (u.keep b o e n hb hx),fun b o e n hb hx=>let ⟨sl,q⟩:=u.slot b o e n hb hx; ⟨sl,(sb.2 b (ne b o e)).trans q⟩,u.free,
  fun b o e hx=>let ⟨o',q⟩:=u.there b o e hx; ⟨o',(sb.2 b (ne b o e)).trans q⟩,u.tups,u.frzs,u.tbls⟩
 have hok:HOk X.prog X.w H' h2:=fun b o e=>(J.hok b o e).stay (fun c v hc q=>(sb.2 c (fun z=>by
  subst z
  have fr:H' s.heap.objs.size=none:=J.free
  rcases hc with hc | hc
  ·rw[← hc,fr] at e; cases e
  ·rw[fr] at hc; cases hc)).trans q) (fun _ q=>q) fun _ _ q=>q
 exact I.call' (s':={ s' with heap:=h2 }) (ch:=fp) J.os u2 hok J.bare fun b hb=>let ⟨_,f1,_,f3,f4,f5⟩:=hf b hb; ⟨f3,f1,f4,f5⟩
end
def Wc (Pv:Nat→Hp→Prop) (n:Nat):Nat→Nat→Hp→Prop:=fun i m H=>i≤n∧m=n-i∧Pv i H
end L2
namespace L2
open PySem PySem.Spec PyProof.Rows
section
variable {X:Cx}
end
section
variable {X:Cx} {tg:Expr}
end
end L2
namespace L2
open PySem PySem.Spec PyProof.Rows
section
variable {X:Cx}
end
end L2
namespace L2
open PySem PySem.Spec PyProof.Rows
structure CompT (X:Cx) (scope:Scope) (n:Nat) (Nb:List Str) (js:List Nat):Prop where
 kind:scope.kind = .function
 cell:∀ y∈scope.names,y.2≠.cell
 loc:∀ y∈scope.names,y.2 = .local→scope.names.lookup y.1=some .local
 nb:Nb.drop n=js.map fun j=>X.N.getD j ("" : Str)
 nl:n≤Nb.length
 nd:Nb.Nodup
 cap:∀ y∈scope.names,y.2 = .free→X.env.kindOf y.1=some .cell∨X.env.kindOf y.1=some .free
 capf:∀ j∈js,scope.names.lookup (X.N.getD j ("" : Str))=some .free
 clos:closureFor scope X.env=pure (clOf X.env scope.names [])
def captN (n:Nat) (js:List Nat) (σ:St):St:=List.replicate n none++js.map fun j=>(σ[j]?).join
section
variable {X:Cx} {scope:Scope} {nt:Nat} {Nb:List Str} {js:List Nat} {pins:List (Addr × Obj)} {σ:St} {H:Hp} {s:Shared}
theorem CompT.cells (S:CompT X scope nt Nb js) (ok:X.Ok):∀ n c,(clOf X.env scope.names []).lookup n=some c→X.env.cells.lookup n=some c:=
 clOf_sub scope.names [] (fun y hy hk=>ok.has y.1 (S.cap y hy hk)) fun n c e=>by cases e
theorem Inv.blockG (I:Inv X pins σ H s) (S:CompT X scope nt Nb js) {fp:List Addr} (hf:∀ b∈fp,FpOk X pins H b) (hex:∀ b∈fp,b<s.heap.objs.size) {h':Heap} {t':Nat} (ns:h'.Ns s.heap.objs.size fun _=>none)
  (kp:∀ b o,s.heap.get? b=some o→h'.get? b=some o):Inv (X.blk scope s.heap.objs.size Nb s H fp (X.pn++pins)) [] (captN nt js σ) H { s with heap:=h',toks:=t' }:=by
 have cls:=S.cells I.ok
 have nst:∀ b∈fp,b∉frs X.stack:=fun b hb z=>by
  obtain⟨_,f1,f2,_⟩:=hf b hb
  rcases List.mem_cons.mp (I.stkSub b z) with e | e
  ·exact f1 e
  ·exact f2 e
 refine⟨⟨I.ok.mod,S.kind,I.ok.glob,I.ok.blt,Nat.le_refl _,fun y z c h1 h2=>I.ok.inj y z c (cls _ _ h1) (cls _ _ h2),fun y hy=>?_,fun y c hy hc=>?_,I.ok.hd,I.ok.frames,.inl rfl,fun b hb=>?_,fun b o e=>I.bs b o e,Nat.le_trans I.ok.bsz I.sz,fun b o e hb=>?_,fun b hb=>nst b hb,I.stack,I.stkFree⟩,
  rfl,I.bare,Un.kept kp,⟨_,ns,fun i y v h1 h2 h3=>?_⟩,fun y c e=>?_,I.hok.fresh (Nat.le_refl _),fun y c e=>I.freeC y c (cls y c e),fun p hp=>?_,I.hok.kept kp,?_⟩
 ·exact clOf_has scope.names [] y (lookup_rel hy S.cell)
 ·exact absurd hy (by simp)
 ·obtain⟨f0,f1,f2,f3,f4,f5⟩:=hf b hb
  refine⟨fun e=>?_,fun y c e=>f4 y c (cls y c e)⟩
  have e':b=s.heap.objs.size:=e
  exact absurd e' (Nat.ne_of_lt (hex b hb))
 ·obtain⟨f0,f1,f2,f3,f4,f5⟩:=hf b hb
  rcases f3 with z | z
  ·exact I.ok.noex b o e z
  ·exact absurd (Nat.lt_of_lt_of_le (Heap.lt_size e) (Nat.le_trans I.ok.bsz z)) (Nat.lt_irrefl _)
 ·rcases Nat.lt_or_ge i nt with hi | hi
  ·have h2':(List.replicate nt (none:Option V)++js.map fun j=>(σ[j]?).join)[i]? = some (some v):=h2
   rw[List.getElem?_append_left (by simpa using hi),List.getElem?_replicate,if_pos hi] at h2'
   cases h2'
  ·obtain⟨i,rfl⟩:∃ i',i=nt+i':=⟨i-nt,by omega⟩
   obtain⟨m,hn,hl⟩:=I.loc
   have h1':(js.map fun j=>X.N.getD j ("" : Str))[i]? = some y:=by
    rw[← S.nb,List.getElem?_drop]
    exact h1
   have h2':(js.map fun j=>(σ[j]?).join)[i]? = some (some v):=by
    have h2':(List.replicate nt (none:Option V)++js.map fun j=>(σ[j]?).join)[nt+i]? = some (some v):=h2
    rw[List.getElem?_append_right (by simp)] at h2'
    simpa using h2'
   rw[List.getElem?_map] at h1' h2'
   cases hj:js[i]? with
   | none=>rw[hj] at h2'; cases h2'
   | some j=>
    rw[hj] at h1' h2'
    have ey:X.N.getD j ("" : Str)=y:=Option.some.inj h1'
    have ev:(σ[j]?).join=some v:=Option.some.inj h2'
    have hσ:σ[j]? = some (some v):=by
     cases q:σ[j]? with
     | none=>rw[q] at ev; cases ev
     | some z=>rw[q] at ev; have:z=some v:=ev; rw[this]
    have hjl:j<X.N.length:=by rw[← I.len]; exact (List.getElem?_eq_some_iff.mp hσ).1
    have hN:X.N[j]? = some y:=by
     rw[List.getElem?_eq_getElem hjl]
     have:X.N.getD j ("" : Str)=X.N[j]:=by simp[List.getD,List.getElem?_eq_getElem hjl]
     rw[← this,ey]
    have hfr:=S.capf j (List.mem_of_getElem? hj)
    rw[ey] at hfr
    have hmem:(y,NameKind.free)∈scope.names:=mem_of_lookup hfr
    have hk:=S.cap _ hmem rfl
    have hvis:Vis X.env.scope y:=hk.elim (fun z=>.inr (.inl z)) fun z=>.inr (.inr z)
    obtain⟨u,ru,lu⟩:=hl j y v hN hσ hvis
    refine⟨u,ru,.inr ⟨rel_free hfr,?_⟩⟩
    obtain⟨c,hc⟩:=clOf_has (env:=X.env) scope.names [] y hmem
    refine⟨c,hc,?_⟩
    rcases lu with⟨k1,_⟩ | ⟨_,c',hc',q⟩
    ·rcases hk with k2 | k2 <;> (rw[k1] at k2; cases k2)
    ·rw[cls y c hc] at hc'
     cases hc'
     exact q.keeps kp
 ·obtain⟨v,q⟩:=I.cell y c (cls y c e)
  exact⟨v,q.keeps kp⟩
 ·obtain⟨e,n,ne,nf,d⟩:=I.pin p (by simpa using hp)
  refine⟨kp _ _ e,n,Nat.ne_of_lt (Heap.lt_size e),fun z=>?_,d⟩
  rcases List.mem_cons.mp (I.stkSub _ z) with w1 | w1
  ·exact ne w1
  ·exact nf w1
 ·show (captN nt js σ).length=Nb.length
  have e:=congrArg List.length S.nb
  have z:=S.nl
  simp only [List.length_drop,List.length_map] at e
  show (List.replicate nt (none:Option V)++js.map fun j=>(σ[j]?).join).length=Nb.length
  simp
  omega
end
section
variable {X:Cx} {scope:Scope} {nt:Nat} {Nb:List Str} {js:List Nat}
def KeepS (σ σ':St):Prop:=σ'.length=σ.length∧∀ (i:Nat) v,σ[i]? = some (some v)→σ'[i]? = some (some v)
def Own (n:Nat) (g:TG):Prop:=∀ (js:List Nat) (σ:St) v H (Q:St→Hp→Prop),g v (captN n js σ) H Q→g v (captN n js σ) H fun σ2 H2=>Q σ2 H2∧KeepS (captN n js σ) σ2
theorem own_name:Own 1 (gName 0):=fun js σ v H Q h=>⟨h,by simp[captN],fun i u e=>by
 cases i with
 | zero=>cases e
 | succ i=>exact e⟩
theorem own_pair {K:PySem.W.Frag} {n:Nat}:Own 2 (gTup K n (gCons (gName 0) (gCons (gName 1) gNil))):=fun js σ v H Q h=>by
 obtain⟨a,xs,e,hq,hl,v1,r,e1,v2,r2,e2,e3,q⟩:=h
 refine⟨a,xs,e,hq,hl,v1,r,e1,v2,r2,e2,e3,q,by simp[captN],fun i u e=>?_⟩
 match i,e with
 | i+2,e=>exact e
def PTs (X:Cx) (ifs:List Expr) (t:TT):Prop:=
 ∀ (pins:List (Addr × Obj)) (s:Shared) (σ:St) (H:Hp) (Q:Bool→Hp→Prop),Inv X pins σ H s→t σ H Q →
  wpAny (model X.prog X.w) X.A (forIn ifs true fun c r=>if r=true then do let ok ← isTrue c X.env (eval c X.env); pure (ForInStep.yield ok) else pure (ForInStep.yield r)) (TP X pins σ Q) X.xe s
def tNoTest:TT:=fun _ H Q=>Q true H
theorem pts_none {X:Cx}:PTs X [] tNoTest:=fun _ _ _ H _ I h=>wpAny_tests_nil ⟨H,I,h⟩
theorem pts_one {X:Cx} {c:Expr} {t:TT} (hc:PT X c t):PTs X [c] t:=fun pins s σ H Q I h=>wpAny_tests_one (hc pins s σ H Q I h)
theorem comp_loopG {prog:Program} {w:World} {A:Around} {R:Result→Shared→Prop} {s:Shared} {elt target iter:Expr} {ifs:List Expr} {scope:Scope} {pos:Pos} {it acc:Value} {env:Env} (I:Nat→Shared→Prop)
  (turn:∀ n s,I n s→wpAny (model prog w) A (pyNext it) (fun r s1=>match r with
   | none=>R (.ok .next) s1
   | some v=>wpAny (model prog w) A (letOwnedTupleGo target it v) (fun _ s2=>wpAny (model prog w) A (assign target env v) (fun _ s3=>
     wpAny (model prog w) A (forIn ifs true fun c r=>if r=true then do let ok ← isTrue c env (eval c env); pure (ForInStep.yield ok) else pure (ForInStep.yield r)) (fun ok s4=>
      if ok=true then wpAny (model prog w) A (eval elt env) (fun y s5=>wpAny (model prog w) A (call (.builtin "list.append") [acc,y]) (fun _ s6=>∃ m,m<n∧I m s6) (fun _ _=>False) s5) (fun _ _=>False) s4
      else ∃ m,m<n∧I m s4) (fun _ _=>False) s3) (fun _ _=>False) s2) (fun _ _=>False) s1) (fun _ _=>False) s)
  (n:Nat) (h:I n s):codeAny (model prog w) A (.compLoop (.ListComp elt [⟨target,iter,ifs,0⟩] scope pos) 0 it acc env) R s:=by
 refine codeAny_loop rfl I (fun n s hI=>?_) n h
 show wpAny _ _ ((compTurn (.ListComp elt [⟨target,iter,ifs,0⟩] scope pos) 0 it acc env).onRaise (fun x=>do noteFrame x env; theTreesLotGoes x)) _ _ s
 refine wpAny_noted (wpAny_noRaise ?_)
 rw[compTurn_list]
 refine wpAny_bind (wpAny_standAt (wpAny_bind (thn (turn n s hI) fun r s1 h1=>?_)))
 cases r with
 | none=>exact wpAny_pure h1
 | some v=>
  refine wpAny_bind (thn h1 fun _ s2 h2=>wpAny_bind (thn h2 fun _ s3 h3=>wpAny_bind (thn h3 fun ok s4 h4=>?_)))
  cases ok with
  | false=>exact wpAny_pure ⟨rfl,h4⟩
  | true=>exact wpAny_bind (wpAny_bind (thn h4 fun y s5 h5=>wpAny_bind (thn h5 fun _ s6 h6=>wpAny_pure (wpAny_pure ⟨rfl,h6⟩))))
def tCompG (n:Nat) (js:List Nat) (wi:TI) (g:TG) (tc:TT) (te:TE):TE:=fun σ H Q=>wi σ H fun J H1=>∀ p,H1 p=none→∃ W:Nat→Nat→Hp→Prop,(∃ m,W 0 m (upd H1 p (.lst [])))∧∀ i m H,W i m H →
 (J.stop i H∧Q (.ref p) H)∨(J.go i H∧∀ v H',J.yld i H v H'→g v (captN n js σ) H' fun σ2 H2=>tc σ2 H2 fun b H3=>if b=true then te σ2 H3 (fun y H4=>∃ ys,H4 p=some (.lst ys)∧ys.length<sizeLine∧∃ m',m'<m∧W (i+1) m' (upd H4 p (.lst (ys++[y])))) else ∃ m',m'<m∧W (i+1) m' H3)
theorem pe_compG {elt iter tg:Expr} {ifs:List Expr} {pos:Pos} {wi:TI} {g:TG} {tc:TT} {te:TE} (hc:X.calm=true) (S:CompT X scope nt Nb js) (hi:PI X tg iter wi)
  (hg:∀ (C:Addr) (s0:Shared) (H0:Hp) (fp:List Addr) (pn':List (Addr × Obj)),PG (X.blk scope C Nb s0 H0 fp pn') tg g) (ho:Own nt g)
  (ht:∀ (C:Addr) (s0:Shared) (H0:Hp) (fp:List Addr) (pn':List (Addr × Obj)),PTs (X.blk scope C Nb s0 H0 fp pn') ifs tc)
  (he:∀ (C:Addr) (s0:Shared) (H0:Hp) (fp:List Addr) (pn':List (Addr × Obj)),PE (X.blk scope C Nb s0 H0 fp pn') elt te)
  (hs:∀ v,foldedSetIterable iter X.env v=pure v:=by intro _; rfl) :
  PE X (.ListComp elt [⟨tg,iter,ifs,0⟩] scope pos) (tCompG nt js wi g tc te):=by
 intro pins s σ H Q I h
 rw[eval_ListComp]
 refine wpAny_comprehension_free (use:=none) rfl hs S.clos S.kind S.loc (thn (hi pins s σ H _ I h) fun v s1 h1=>thn h1 fun itv s2 h2=>?_)
 obtain⟨it,fp,tn,J,H2,e,I2,T,st2,f2,r2⟩:=h2
 subst e
 have hp0:H2 s2.heap.objs.size=none:=I2.hok.fresh (Nat.le_refl _)
 obtain⟨W,⟨m0,w0⟩,turn⟩:=r2 s2.heap.objs.size hp0
 unfold newList
 refine wpAny_newObj_type ?_
 have I3:Inv X pins σ (upd H2 s2.heap.objs.size (.lst [])) { s2 with heap:=s2.heap.push { cls:=.type "list",dict:=none,data:=.seq ([]:List Value).toArray } }:=
  I2.laid (t':=s2.toks) (fun b u e=>Heap.get?_push_of_some _ e) (Nat.le_refl _) ⟨by show 0≤sizeLine; decide,[],0,.nil,Heap.get?_push_size _ rfl⟩
 generalize hs3:({ s2 with heap:=s2.heap.push { cls:=.type "list",dict:=none,data:=.seq ([]:List Value).toArray } }:Shared)=s3 at I3 ⊢
 have lt3:∀ b o,s2.heap.get? b=some o→s3.heap.get? b=some o:=fun b o e=>by rw[← hs3]; exact Heap.get?_push_of_some _ e
 have fpN:∀ b∈fp,b<s2.heap.objs.size:=fun b hb=>by obtain⟨o,e,_⟩:=T.obj _ _ st2 b hb; exact Heap.lt_size e
 have f3:∀ b∈fp,FpOk X pins (upd H2 s2.heap.objs.size (.lst [])) b:=fun b hb=>⟨by rw[upd_ne (Nat.ne_of_lt (fpN b hb))]; exact (f2 b hb).1,(f2 b hb).2⟩
 have fp3:∀ b∈fp,b<s3.heap.objs.size:=fun b hb=>by obtain⟨o,e,_⟩:=T.obj _ _ st2 b hb; exact Heap.lt_size (lt3 b o e)
 have st3:tn 0 s3.heap:=T.keep _ _ _ st2 fun b _ o e=>lt3 b o e
 refine wpAny_newFunctionEnv S.cell (by intro y hy; cases hy) (fun h4 ns4 sb4=>?_) S.kind
 have kp4:∀ b o,s3.heap.get? b=some o→h4.get? b=some o:=fun b o e=>(sb4.2 b (Nat.ne_of_lt (Heap.lt_size e))).trans (Heap.get?_push_of_some _ e)
 have I4:Inv (X.blk scope s3.heap.objs.size Nb s3 (upd H2 s2.heap.objs.size (.lst [])) fp (X.pn++pins)) [] (captN nt js σ) (upd H2 s2.heap.objs.size (.lst [])) { s3 with heap:=h4,toks:=s3.toks+([]:List (Str × Value)).length }:=I3.blockG S f3 fp3 ns4 kp4
 have st4:tn 0 h4:=T.keep _ _ _ st3 fun b _ o e=>kp4 b o e
 have stat:∀ {H':Hp},(∀ b∈fp,H' b=none)→∀ b∈fp,FpOk (X.blk scope s3.heap.objs.size Nb s3 (upd H2 s2.heap.objs.size (.lst [])) fp (X.pn++pins)) [] H' b:=fun {H'} hn b hb=>by
  obtain⟨_,g1,g2,g3,g4,g5⟩:=f3 b hb
  refine⟨hn b hb,Nat.ne_of_lt (fp3 b hb),fun z=>?_,.inl hb,fun y c e=>g4 y c (S.cells I.ok y c e),fun p hp=>g5 p (by simpa using hp)⟩
  rcases List.mem_cons.mp (I3.stkSub b z) with w1 | w1
  ·exact g1 w1
  ·exact g2 w1
 have loop:codeAny (model X.prog X.w) X.A (.compLoop (.ListComp elt [⟨tg,iter,ifs,0⟩] scope pos) 0 (.ref it) (.ref s2.heap.objs.size) (compEnvC scope (clOf X.env scope.names []) s3.heap.objs.size X.env))
   (compPost (model X.prog X.w) X.A X.xe none (EP X pins σ Q) (.ref s2.heap.objs.size) s3.heap.objs.size) { s3 with heap:=h4,toks:=s3.toks+([]:List (Str × Value)).length }:=by
  refine comp_loopG (fun n s'=>∃ i H',Inv (X.blk scope s3.heap.objs.size Nb s3 (upd H2 s2.heap.objs.size (.lst [])) fp (X.pn++pins)) [] (captN nt js σ) H' s'∧tn i s'.heap∧(∀ b∈fp,H' b=none)∧W i n H') ?_ m0 ⟨0,_,I4,st4,fun b hb=>(f3 b hb).1,w0⟩
  rintro n s5 ⟨i,H5,I5,st5,fr5,w5⟩
  rcases turn i n H5 w5 with⟨stop,q⟩ | ⟨go,step⟩
  ·refine (thn (T.done (X.blk scope s3.heap.objs.size Nb s3 (upd H2 s2.heap.objs.size (.lst [])) fp (X.pn++pins)) rfl rfl rfl hc i [] s5 (captN nt js σ) H5 (fun _ _=>False) I5 (stat fr5) st5 stop) fun r s6 ⟨hr,I6⟩=>?_)
   subst hr
   obtain⟨m,hn,_⟩:=id I6.loc
   exact⟨m,hn,fun h7 sb=>⟨.ref s2.heap.objs.size,H5,I3.unblock f3 rfl I6 sb,rfl,q⟩⟩
  ·refine (thn (T.item (X.blk scope s3.heap.objs.size Nb s3 (upd H2 s2.heap.objs.size (.lst [])) fp (X.pn++pins)) rfl rfl rfl hc i [] s5 (captN nt js σ) H5 (fun _ _=>False) I5 (stat fr5) st5 go) fun r s6 ⟨u,hr,h6⟩=>?_)
   subst hr
   refine thn h6 fun _ s7 ⟨v7,H7,I7,r7,y7,st7,fr7⟩=>?_
   have I7':=I7.pinned (stat fr7) (T.obj _ _ st7)
   refine thn (hg s3.heap.objs.size s3 _ fp (X.pn++pins) _ s7 _ H7 v7 u _ I7' r7 (ho js σ v7 H7 _ (step v7 H7 y7))) fun _ s8 ⟨σ8,H8,I8,q8,k8⟩=>?_
   refine thn (ht s3.heap.objs.size s3 _ fp (X.pn++pins) _ s8 σ8 H8 _ I8 q8) fun ok s9 ⟨H9,I9,q9⟩=>?_
   have back:∀ {H10:Hp} {s10:Shared} {m':Nat},Inv (X.blk scope s3.heap.objs.size Nb s3 (upd H2 s2.heap.objs.size (.lst [])) fp (X.pn++pins)) ([]++pinsAt fp s7.heap) σ8 H10 s10→m'<n→W (i+1) m' H10→∃ m,m<n∧∃ i H',Inv (X.blk scope s3.heap.objs.size Nb s3 (upd H2 s2.heap.objs.size (.lst [])) fp (X.pn++pins)) [] (captN nt js σ) H' s10∧tn i s10.heap∧(∀ b∈fp,H' b=none)∧W i m H':=fun {H10 s10 m'} I10 hm w10=>by
    refine⟨m',hm,i+1,_,(I10.weak k8.1.symm k8.2).unpinned,T.keep _ _ _ st7 fun b hb o e=>(I10.pin (b,o) (List.mem_append_right _ (List.mem_append_right _ (mem_pinsAt hb e)))).1,fun b hb=>?_,w10⟩
    obtain⟨o,e,d⟩:=T.obj _ _ st7 b hb
    exact (I10.pin (b,o) (List.mem_append_right _ (List.mem_append_right _ (mem_pinsAt hb e)))).2.1
   cases ok with
   | false=>
    obtain⟨m',hm,w9⟩:=q9
    exact back I9 hm w9
   | true=>
    refine thn (he s3.heap.objs.size s3 _ fp (X.pn++pins) _ s9 _ H9 _ I9 q9) fun y s10 ⟨yv,H10,I10,ry,ys,hy,hz,m',hm,w10⟩=>?_
    refine thn (mt_append (X:=X.blk scope s3.heap.objs.size Nb s3 (upd H2 s2.heap.objs.size (.lst [])) fp (X.pn++pins)) _ s10 _ H10 (.ref s2.heap.objs.size) [yv] (.ref s2.heap.objs.size) [y] (fun _ Hn=>Hn=upd H10 s2.heap.objs.size (.lst (ys++[yv]))) I10 rfl (.cons ry .nil) ⟨s2.heap.objs.size,ys,yv,rfl,rfl,hy,hz,rfl⟩) fun _ s11 ⟨_,H11,I11,_,e11⟩=>?_
    subst e11
    exact back I11 hm w10
 exact codeAny_compStart_list loop (T.self _ 0 _ _ _ st4 loop)
end
end L2
namespace L2
open PySem PySem.Spec PyProof.Rows
theorem compt_of {X:Cx} {scope:Scope} {n:Nat} {Nb:List Str} {js:List Nat}
  (h:(((((scope.kind == .function && scope.names.all fun y=>y.2 != .cell) && scope.names.all fun y=>y.2 != .local || scope.names.lookup y.1 == some .local) &&
   scope.names.all fun y=>y.2 != .free || (X.env.kindOf y.1 == some .cell || X.env.kindOf y.1 == some .free)) && js.all fun j=>scope.names.lookup (X.N.getD j ("" : Str)) == some .free))=true)
  (nb:Nb.drop n=js.map fun j=>X.N.getD j ("" : Str)) (nd:Nb.Nodup) (nl:n≤Nb.length) (clos:closureFor scope X.env=pure (clOf X.env scope.names [])):CompT X scope n Nb js:=by
 simp only [Bool.and_eq_true,beq_iff_eq,List.all_eq_true,Bool.or_eq_true,bne_iff_ne,ne_eq] at h
 obtain⟨⟨⟨⟨h1,h2⟩,h3⟩,h5⟩,h6⟩:=h
 exact⟨h1,h2,fun y hy e=>(h3 y hy).resolve_left (fun z=>z e),nb,nl,nd,fun y hy e=>(h5 y hy).resolve_left (fun z=>z e),h6,clos⟩
end L2
namespace L2
open PySem PySem.Spec PyProof.Rows
section
variable {X:Cx} {pins:List (Addr × Obj)} {σ:St} {H:Hp} {s:Shared}
theorem Inv.turnedT {ch:List Addr} {h':Heap} {t':Nat} {T:Addr} {xs:List V} (I:Inv X pins σ H s) (k:∀ b o,b∉ch→s.heap.get? b=some o→h'.get? b=some o) (hf:∀ b∈ch,FpOk X pins H b) (hT:s.heap.objs.size≤T)
  (new:ObjOk X.prog X.w (upd H T (.tup xs)) h' T (.tup xs)):Inv X pins σ (upd H T (.tup xs)) { s with heap:=h',toks:=t' }:=by
 have hn:H T=none:=I.hok.fresh hT
 have nch:∀ b u,H b=some u→b∉ch:=fun b u e z=>by rw[(hf b z).1] at e; cases e
 refine I.call' (s':={ s with heap:=h',toks:=t' }) (ch:=ch) rfl ⟨fun b o e _ _ hx=>k b o hx e,fun b o e _ _ hx=>⟨o.slots,k b o hx e⟩,fun b o e n _=>?_,fun b o e hx=>⟨o,k b o hx e⟩,fun b ys e=>?_,fun b o u e=>?_,fun b ps e=>⟨#[],?_⟩⟩ (fun b u e=>?_) I.bare
  fun b hb=>let ⟨_,f1,_,f3,f4,f5⟩:=hf b hb; ⟨f3,f1,f4,f5⟩
 ·rw[upd_ne (Nat.ne_of_lt (Nat.lt_of_lt_of_le (Heap.lt_size e) hT))]; exact n
 ·rw[upd_ne (ne_of_none e hn)]; exact e
 ·rw[upd_ne (ne_of_none e hn)]; exact e
 ·rw[upd_ne (ne_of_none e hn),e]; simp
 ·by_cases hb:b=T
  ·subst hb; rw[upd_same] at e; cases e; exact new
  ·rw[upd_ne hb] at e
   refine (I.hok b u e).stay (fun c v hc q=>k c v ?_ q) (fun c q=>by rw[upd_ne (ne_of_none q hn)]; exact q) fun c ys q=>by rw[upd_ne (ne_of_none q hn)]; exact q
   rcases hc with z | z
   ·rw[z]; exact nch b u e
   ·exact nch c _ z
theorem Inv.turnedL {ch:List Addr} {h':Heap} {t':Nat} (I:Inv X pins σ H s) (k:∀ b o,b∉ch→s.heap.get? b=some o→h'.get? b=some o) (hf:∀ b∈ch,FpOk X pins H b):Inv X pins σ H { s with heap:=h',toks:=t' }:=by
 have nch:∀ b u,H b=some u→b∉ch:=fun b u e z=>by rw[(hf b z).1] at e; cases e
 refine I.call' (s':={ s with heap:=h',toks:=t' }) (ch:=ch) rfl ⟨fun b o e _ _ hx=>k b o hx e,fun b o e _ _ hx=>⟨o.slots,k b o hx e⟩,fun b o e n _=>n,fun b o e hx=>⟨o,k b o hx e⟩,fun b ys e=>e,fun b o u e=>e,fun b ps e=>⟨#[],by rw[e]; simp⟩⟩ (fun b u e=>?_) I.bare
  fun b hb=>let ⟨_,f1,_,f3,f4,f5⟩:=hf b hb; ⟨f3,f1,f4,f5⟩
 refine (I.hok b u e).stay (fun c v hc q=>k c v ?_ q) (fun c q=>q) fun c ys q=>q
 rcases hc with z | z
 ·rw[z]; exact nch b u e
 ·exact nch c _ z
end
def Itz (K:PySem.W.Frag) (a b:Addr):It:=
  ⟨fun i H=>∃ xs ys x y,SqL K H a xs∧SqL K H b ys∧xs[i]? = some x∧ys[i]? = some y,
   fun i H v H'=>∃ T x y,H T=none∧v = .ref T∧(∀ xs,SqL K H a xs→xs[i]? = some x)∧(∀ ys,SqL K H b ys→ys[i]? = some y)∧H'=upd H T (.tup [x,y]),
   fun i H=>∃ xs ys,SqL K H a xs∧SqL K H b ys∧(xs.length≤i∨ys.length≤i)⟩
def Ite (K:PySem.W.Frag) (a:Addr):It:=
  ⟨fun i H=>∃ xs x,SqL K H a xs∧xs[i]? = some x,
   fun i H v H'=>∃ T x,H T=none∧v = .ref T∧(∀ xs,SqL K H a xs→xs[i]? = some x)∧H'=upd H T (.tup [.int (i:Nat),x]),
   fun i H=>∃ xs,SqL K H a xs∧xs.length≤i⟩
theorem two_le:([V.non,V.non]:List V).length≤sizeLine:=by decide
theorem turn_zip {P:Program} {w:World} {K:PySem.W.Frag} {es:List Expr} {kt:Nat} {tp:Pos} {z TI TO i1 i2 a b:Addr} (D:ZipApart z TI TO i1 i2 a b) :
  Turn P w K (.Tuple es kt tp) (Itz K a b) [z,TI,TO,i1,i2] z (fun i h=>IsZip h z TI TO .none∧IsPair h TI (.ref i1) (.ref i2)∧(∃ x y,IsPair h TO x y)∧h.IsListIter i1 a i∧h.IsListIter i2 b i) where
 mem:=by simp
 obj:=fun i h st c hc=>by
  obtain⟨hz,hTI,⟨x,y,hTO⟩,⟨o1,e1,c1,d1⟩,⟨o2,e2,c2,d2⟩⟩:=st
  simp only [List.mem_cons,List.not_mem_nil,or_false] at hc
  rcases hc with rfl | rfl | rfl | rfl | rfl
  ·exact⟨_,hz,fun v q=>by cases q⟩
  ·exact⟨_,hTI,fun v q=>by cases q⟩
  ·exact⟨_,hTO,fun v q=>by cases q⟩
  ·exact⟨o1,e1,fun v q=>by rw[d1] at q; cases q⟩
  ·exact⟨o2,e2,fun v q=>by rw[d2] at q; cases q⟩
 keep:=fun i h h' st k=>by
  obtain⟨hz,hTI,⟨x,y,hTO⟩,h1,h2⟩:=st
  exact⟨k z (by simp) _ hz,k TI (by simp) _ hTI,⟨x,y,k TO (by simp) _ hTO⟩,h1.at fun o e=>k i1 (by simp) o e,h2.at fun o e=>k i2 (by simp) o e⟩
 item:=by
  intro X hP hw hK hc i pins s σ H E I hf st hg
  subst hP hw hK
  obtain⟨xs,ys,x,y,hqa,hqb,hx,hy⟩:=hg
  obtain⟨hz,hTI,⟨x0,y0,hTO⟩,h1,h2⟩:=st
  obtain⟨its,rv,p,hl⟩:=I.list hqa
  obtain⟨its2,rv2,p2,hl2⟩:=I.list hqb
  obtain⟨u,hu,ru⟩:=rv.get hx
  obtain⟨u2,hu2,ru2⟩:=rv2.get hy
  refine wpAny_pyNext_zip_item D hz hTI hTO h1 h2 p.isList p2.isList (x:=u) (y:=u2) (by simpa using hu) (by simpa using hu2) fun h' z' TO' a1 a2 T' sz' k'=>?_
  refine⟨_,rfl,wpAny_letOwnedTupleGo_zip z' fun h2' z2 sb2=>?_⟩
  have kz:∀ c o,c≠z→h'.get? c=some o→h2'.get? c=some o:=fun c o hc e=>sb2.extBut _ _ hc e
  have hzl:z<s.heap.objs.size:=Heap.lt_size hz
  have hTn:H s.heap.objs.size=none:=I.hok.fresh (Nat.le_refl _)
  have I1:Inv X pins σ (upd H s.heap.objs.size (.tup [x,y])) { s with heap:=h2' }:=I.turnedT (t':=s.toks) (ch:=[z,TI,TO,i1,i2]) (fun c o hc e=>by
    simp only [List.mem_cons,List.not_mem_nil,or_false,not_or] at hc
    exact kz c o hc.1 (k' c o hc.1 hc.2.2.1 hc.2.2.2.1 hc.2.2.2.2 e)) hf (Nat.le_refl _)
   ⟨two_le,[u,u2],.cons ru (.cons ru2 .nil),⟨_,kz _ _ (Nat.ne_of_gt hzl) T',rfl,_,rfl⟩⟩
  refine⟨.ref s.heap.objs.size,_,I1,rfl,⟨_,x,y,hTn,rfl,fun zs hq=>by rw[I.list_inj hq hqa]; exact hx,fun zs hq=>by rw[I.list_inj hq hqb]; exact hy,rfl⟩,
   ⟨z2,kz _ _ D.TIz (k' _ _ D.TIz D.TITO D.TIi1 D.TIi2 hTI),⟨_,_,kz _ _ D.TOz TO'⟩,a1.at fun o e=>kz i1 o D.i1z e,a2.at fun o e=>kz i2 o D.i2z e⟩,fun c hc=>?_⟩
  have hcl:c≠s.heap.objs.size:=by
   have lt:∀ {o},s.heap.get? c=some o→c≠s.heap.objs.size:=fun e=>Nat.ne_of_lt (Heap.lt_size e)
   obtain⟨o1,e1,_⟩:=h1
   obtain⟨o2,e2,_⟩:=h2
   simp only [List.mem_cons,List.not_mem_nil,or_false] at hc
   rcases hc with rfl | rfl | rfl | rfl | rfl
   ·exact lt hz
   ·exact lt hTI
   ·exact lt hTO
   ·exact lt e1
   ·exact lt e2
  rw[upd_ne hcl]
  exact (hf c hc).1
 done:=by
  intro X hP hw hK hc i pins s σ H E I hf st hg
  subst hP hw hK
  obtain⟨xs,ys,hqa,hqb,hx⟩:=hg
  obtain⟨hz,hTI,⟨x0,y0,hTO⟩,h1,h2⟩:=st
  obtain⟨its,rv,p,hl⟩:=I.list hqa
  obtain⟨its2,rv2,p2,hl2⟩:=I.list hqb
  have e1:=rv.length
  have e2:=rv2.length
  refine wpAny_pyNext_zip_end (I.ok.hd hc) D hz hTI hTO h1 h2 p.isList p2.isList (hx.imp (fun z=>by simp; omega) fun z=>by simp; omega) fun h' k'=>⟨rfl,I.turnedL (t':=s.toks) (ch:=[z,TI,TO,i1,i2]) (fun c o hc e=>?_) hf⟩
  simp only [List.mem_cons,List.not_mem_nil,or_false,not_or] at hc
  exact k' c o hc.1 hc.2.2.1 hc.2.2.2.1 hc.2.2.2.2 e
 self:=fun _ _ _ _ _ st h=>wpAny_pyIter_zip st.1 h
theorem turn_enum {P:Program} {w:World} {K:PySem.W.Frag} {es:List Expr} {kt:Nat} {tp:Pos} {e it a:Addr} (hei:e≠it) :
  Turn P w K (.Tuple es kt tp) (Ite K a) [e,it] e (fun i h=>(∃ old,IsEnum h e it i old)∧h.IsListIter it a i) where
 mem:=by simp
 obj:=fun i h st c hc=>by
  obtain⟨⟨old,he⟩,⟨o1,e1,c1,d1⟩⟩:=st
  simp only [List.mem_cons,List.not_mem_nil,or_false] at hc
  rcases hc with rfl | rfl
  ·exact⟨_,he,fun v q=>by cases q⟩
  ·exact⟨o1,e1,fun v q=>by rw[d1] at q; cases q⟩
 keep:=fun i h h' st k=>by
  obtain⟨⟨old,he⟩,h1⟩:=st
  exact⟨⟨old,k e (by simp) _ he⟩,h1.at fun o q=>k it (by simp) o q⟩
 item:=by
  intro X hP hw hK hc i pins s σ H E I hf st hg
  subst hP hw hK
  obtain⟨xs,x,hqa,hx⟩:=hg
  obtain⟨⟨old,he⟩,h1⟩:=st
  obtain⟨its,rv,p,hl⟩:=I.list hqa
  obtain⟨u,hu,ru⟩:=rv.get hx
  refine wpAny_pyNext_enum_item he h1 p.isList (x:=u) (by simpa using hu) hei fun h' o' a1 T' sz' k'=>?_
  refine⟨_,rfl,wpAny_letOwnedTupleGo_enum o' fun h2' e2 sb2=>?_⟩
  have kz:∀ c o,c≠e→h'.get? c=some o→h2'.get? c=some o:=fun c o hc q=>(sb2.2 c hc).trans q
  have hzl:e<s.heap.objs.size:=Heap.lt_size he
  have hTn:H s.heap.objs.size=none:=I.hok.fresh (Nat.le_refl _)
  have I1:Inv X pins σ (upd H s.heap.objs.size (.tup [.int (i:Nat),x])) { s with heap:=h2',toks:=s.toks+1 }:=I.turnedT (t':=s.toks+1) (ch:=[e,it]) (fun c o hc q=>by
    simp only [List.mem_cons,List.not_mem_nil,or_false,not_or] at hc
    exact kz c o hc.1 (k' c o hc.1 hc.2 q)) hf (Nat.le_refl _)
   ⟨two_le,[.int i s.toks,u],.cons ⟨_,rfl⟩ (.cons ru .nil),⟨_,kz _ _ (Nat.ne_of_gt hzl) T',rfl,_,rfl⟩⟩
  refine⟨.ref s.heap.objs.size,_,I1,rfl,⟨_,x,hTn,rfl,fun zs hq=>by rw[I.list_inj hq hqa]; exact hx,rfl⟩,⟨⟨_,e2⟩,a1.at fun o q=>kz it o hei.symm q⟩,fun c hc=>?_⟩
  have hcl:c≠s.heap.objs.size:=by
   have lt:∀ {o},s.heap.get? c=some o→c≠s.heap.objs.size:=fun e=>Nat.ne_of_lt (Heap.lt_size e)
   obtain⟨o1,e1,_⟩:=h1
   simp only [List.mem_cons,List.not_mem_nil,or_false] at hc
   rcases hc with rfl | rfl
   ·exact lt he
   ·exact lt e1
  rw[upd_ne hcl]
  exact (hf c hc).1
 done:=by
  intro X hP hw hK hc i pins s σ H E I hf st hg
  subst hP hw hK
  obtain⟨xs,hqa,hx⟩:=hg
  obtain⟨⟨old,he⟩,h1⟩:=st
  obtain⟨its,rv,p,hl⟩:=I.list hqa
  have e1:=rv.length
  refine wpAny_pyNext_enum_end (I.ok.hd hc) he h1 p.isList (by simp; omega) fun h' k'=>⟨rfl,I.turnedL (t':=s.toks) (ch:=[e,it]) (fun c o hc q=>?_) hf⟩
  simp only [List.mem_cons,List.not_mem_nil,or_false,not_or] at hc
  exact k' c o hc.2 q
 self:=fun _ _ _ _ _ st h=>by
  obtain⟨⟨old,he⟩,_⟩:=st
  exact wpAny_pyIter_enum he h
section
variable {X:Cx}
def iZip (K:PySem.W.Frag) (ta:TA):TI:=fun σ H R=>ta σ H fun vs H1=>∃ a b xs ys,vs=[.ref a,.ref b]∧SqL K H1 a xs∧SqL K H1 b ys∧R (Itz K a b) H1
def iEnum (K:PySem.W.Frag) (ta:TA):TI:=fun σ H R=>ta σ H fun vs H1=>∃ a xs,vs=[.ref a]∧H1 a=some (.lst xs)∧R (Ite K a) H1
theorem pi_zip {es:List Expr} {kt:Nat} {tp:Pos} {a b:Expr} {ta:TA} {p pos:Pos} (hg:Gl X "zip") (hm:X.mg "zip" = none) (ha:PA X [a,b] ta) (hs:starEach [a,b] X.env=[(false,eval a X.env),(false,eval b X.env)]:=by rfl) (hs2:starEach [b] X.env=[(false,eval b X.env)]:=by rfl) :
  PI X (.Tuple es kt tp) (.Call (.Name "zip" p) [a,b] [] pos) (iZip X.K ta):=by
 intro pins s σ H R I h
 refine Call_ (ld_blt I hg hm boot_zip (PyProof.Rows.callWith_type1 (thn (ha pos pins s σ H _ I h) fun us s1 ⟨vs,H1,I1,r1,q1⟩=>?_) (by rw[hs,hs2]) (by rw[hs2]; rfl)))
 obtain⟨l1,l2,xs,ys,e,h1,h2,q⟩:=q1
 subst e
 cases r1 with
 | cons r rr=>
  cases rr with
  | cons r' rr=>
   cases rr
   cases (show _=Value.ref l1 from r)
   cases (show _=Value.ref l2 from r')
   obtain⟨its,rv,p1,_⟩:=I1.list h1
   obtain⟨its2,rv2,p2,_⟩:=I1.list h2
   have a1:l1<s1.heap.objs.size:=by obtain⟨_,e,_⟩:=p1.isList; exact Heap.lt_size e
   have a2:l2<s1.heap.objs.size:=by obtain⟨_,e,_⟩:=p2.isList; exact Heap.lt_size e
   refine call_zip_2 p1.isList p2.isList fun h' hz hTI hTO hi1 hi2 hsz hk=>?_
   refine wpAny_pyIter_zip (s:={ s1 with heap:=h' }) hz ?_
   refine⟨_,_,_,_,H1,rfl,I1.kept (t':=s1.toks) hk,turn_zip (zipApart_new a1 a2),⟨hz,hTI,⟨_,_,hTO⟩,hi1,hi2⟩,fun c hc=>?_,q⟩
   have hge:s1.heap.objs.size≤c:=by
    simp only [List.mem_cons,List.not_mem_nil,or_false] at hc
    rcases hc with rfl | rfl | rfl | rfl | rfl
    ·exact Nat.le_add_right _ 4
    ·exact Nat.le_add_right _ 2
    ·exact Nat.le_add_right _ 3
    ·exact Nat.le_refl _
    ·exact Nat.le_add_right _ 1
   exact I1.fpOk hge (I1.hok.fresh hge)
theorem pi_enum {es:List Expr} {kt:Nat} {tp:Pos} {a:Expr} {ta:TA} {p pos:Pos} (hg:Gl X "enumerate") (hm:X.mg "enumerate" = none) (ha:PA X [a] ta) (hs:starEach [a] X.env=[(false,eval a X.env)]:=by rfl) :
  PI X (.Tuple es kt tp) (.Call (.Name "enumerate" p) [a] [] pos) (iEnum X.K ta):=by
 intro pins s σ H R I h
 refine Call_ (ld_blt I hg hm boot_enumerate (PyProof.Rows.callWith_type1 (thn (ha pos pins s σ H _ I h) fun us s1 ⟨vs,H1,I1,r1,q1⟩=>?_) hs rfl))
 obtain⟨l1,xs,e,h1,q⟩:=q1
 subst e
 cases r1 with
 | cons r rr=>
  cases rr
  cases (show _=Value.ref l1 from r)
  obtain⟨_,its,n,rv,_,ho'⟩:=I1.lstM h1
  refine call_enumerate_1 ho' fun h' he hit hsz hk=>?_
  refine wpAny_pyIter_enum (s:={ s1 with heap:=h' }) he ?_
  refine⟨_,_,_,_,H1,rfl,I1.kept (t':=s1.toks) hk,turn_enum (a:=l1) (Nat.succ_ne_self _),⟨⟨_,he⟩,hit⟩,fun c hc=>?_,q⟩
  have hge:s1.heap.objs.size≤c:=by
   simp only [List.mem_cons,List.not_mem_nil,or_false] at hc
   rcases hc with rfl | rfl
   ·exact Nat.le_add_right _ 1
   ·exact Nat.le_refl _
  exact I1.fpOk hge (I1.hok.fresh hge)
end
end L2
namespace L2
open PySem PySem.Spec PyProof.Rows
inductive Tr where
 | int (i:Int) | str (x:Str) | lst (ts:List Tr) | tup (ts:List Tr)
inductive At (K:PySem.W.Frag) (M:Hp):Tr→V→Prop where
 | int {i:Int}:At K M (.int i) (.int i)
 | str {x:Str}:At K M (.str x) (.str x)
 | lst {ts:List Tr} {xs:List V} {a:Addr} (h:M a=some (.lst xs)) (hl:ts.length=xs.length) (hi:∀ (i:Nat) (t:Tr) (x:V),ts[i]? = some t→xs[i]? = some x→At K M t x):At K M (.lst ts) (.ref a)
 | tup {ts:List Tr} {xs:List V} {a:Addr} (h:SqT K M a xs) (hl:ts.length=xs.length) (hi:∀ (i:Nat) (t:Tr) (x:V),ts[i]? = some t→xs[i]? = some x→At K M t x):At K M (.tup ts) (.ref a)
def Ats (K:PySem.W.Frag) (M:Hp) (ts:List Tr) (xs:List V):Prop:=ts.length=xs.length∧∀ (i:Nat) (t:Tr) (x:V),ts[i]? = some t→xs[i]? = some x→At K M t x
section
variable {K:PySem.W.Frag} {M M':Hp} {ts us:List Tr} {xs ys:List V} {t:Tr} {v:V}
theorem At.mono (e:Same M M') (h:At K M t v):At K M' t v:=by
 induction h with
 | int=>exact .int
 | str=>exact .str
 | lst h hl _ ih=>exact .lst (e _ _ h) hl ih
 | tup h hl _ ih=>exact .tup (e.tup h) hl ih
theorem Ats.mono (e:Same M M') (h:Ats K M ts xs):Ats K M' ts xs:=⟨h.1,fun i t x a b=>(h.2 i t x a b).mono e⟩
theorem Ats.nil:Ats K M [] []:=⟨rfl,fun i t x a=>by simp at a⟩
theorem Ats.cons (h:At K M t v) (r:Ats K M ts xs):Ats K M (t :: ts) (v :: xs):=⟨by simp[r.1],fun i u x a b=>by
 cases i with
 | zero=>simp at a b; subst a b; exact h
 | succ i=>exact r.2 i u x (by simpa using a) (by simpa using b)⟩
theorem Ats.snoc (r:Ats K M ts xs) (h:At K M t v):Ats K M (ts++[t]) (xs++[v]):=⟨by simp[r.1],fun i u x a b=>by
 rcases Nat.lt_or_ge i ts.length with q | q
 ·rw[List.getElem?_append_left q] at a
  rw[List.getElem?_append_left (by rw[← r.1]; exact q)] at b
  exact r.2 i u x a b
 ·rw[List.getElem?_append_right q] at a
  rw[List.getElem?_append_right (by rw[← r.1]; exact q),← r.1] at b
  cases hj:i-ts.length with
  | zero=>rw[hj] at a b; simp at a b; subst a b; exact h
  | succ j=>rw[hj] at a; simp at a⟩
theorem Ats.app (r:Ats K M ts xs) (q:Ats K M us ys):Ats K M (ts++us) (xs++ys):=⟨by simp[r.1,q.1],fun i u x a b=>by
 rcases Nat.lt_or_ge i ts.length with z | z
 ·rw[List.getElem?_append_left z] at a
  rw[List.getElem?_append_left (by rw[← r.1]; exact z)] at b
  exact r.2 i u x a b
 ·rw[List.getElem?_append_right z] at a
  rw[List.getElem?_append_right (by rw[← r.1]; exact z),← r.1] at b
  exact q.2 _ u x a b⟩
theorem Ats.set (r:Ats K M ts xs) (h:At K M t v) (j:Nat):Ats K M (ts.set j t) (xs.set j v):=⟨by simp[r.1],fun i u x a b=>by
 rw[List.getElem?_set] at a b
 split at a
 ·rename_i e
  subst e
  rw[if_pos rfl] at b
  split at a
  ·rename_i z
   rw[if_pos (by rw[← r.1]; exact z)] at b
   cases a; cases b; exact h
  ·cases a
 ·rename_i e
  rw[if_neg e] at b
  exact r.2 i u x a b⟩
theorem Ats.get (r:Ats K M ts xs) {i:Nat} (h:ts[i]? = some t):∃ x,xs[i]? = some x∧At K M t x:=by
 have hi:i<xs.length:=by rw[← r.1]; exact (List.getElem?_eq_some_iff.mp h).1
 exact⟨xs[i],List.getElem?_eq_getElem hi,r.2 i t _ h (List.getElem?_eq_getElem hi)⟩
theorem Ats.get' (r:Ats K M ts xs) {i:Nat} {x:V} (h:xs[i]? = some x):∃ t,ts[i]? = some t∧At K M t x:=by
 have hi:i<ts.length:=by rw[r.1]; exact (List.getElem?_eq_some_iff.mp h).1
 exact⟨ts[i],List.getElem?_eq_getElem hi,r.2 i _ x (List.getElem?_eq_getElem hi) h⟩
theorem Ats.take (r:Ats K M ts xs) (n:Nat):Ats K M (ts.take n) (xs.take n):=⟨by simp[r.1],fun i u x a b=>by
 rw[List.getElem?_take] at a b
 split at a
 ·rename_i z
  rw[if_pos z] at b
  exact r.2 _ u x a b
 ·cases a⟩
theorem At.lst_inv (h:At K M (.lst ts) v):∃ a xs,v = .ref a∧M a=some (.lst xs)∧Ats K M ts xs:=by
 cases h with
 | lst h hl hi=>exact⟨_,_,rfl,h,hl,hi⟩
theorem At.tup_inv (h:At K M (.tup ts) v):∃ a xs,v = .ref a∧SqT K M a xs∧Ats K M ts xs:=by
 cases h with
 | tup h hl hi=>exact⟨_,_,rfl,h,hl,hi⟩
theorem At.int_inv {i:Int} (h:At K M (.int i) v):v = .int i:=by cases h; rfl
theorem At.str_inv {x:Str} (h:At K M (.str x) v):v = .str x:=by cases h; rfl
theorem Ats.lst {a:Addr} (r:Ats K M ts xs) (h:M a=some (.lst xs)):At K M (.lst ts) (.ref a):=.lst h r.1 r.2
theorem Ats.tup {a:Addr} (r:Ats K M ts xs) (h:SqT K M a xs):At K M (.tup ts) (.ref a):=.tup h r.1 r.2
theorem Ats.ints (ns:List Int):Ats K M (ns.map Tr.int) (ns.map V.int):=⟨by simp,fun i t x a b=>by
 rw[List.getElem?_map] at a b
 cases q:ns[i]? with
 | none=>rw[q] at a; cases a
 | some n=>rw[q] at a b; cases a; cases b; exact .int⟩
theorem Ats.ints_inv {ns:List Int} (h:Ats K M (ns.map Tr.int) xs):xs=ns.map V.int:=by
 apply List.ext_getElem?
 intro i
 cases q:xs[i]? with
 | none=>
  have:xs.length≤i:=List.getElem?_eq_none_iff.mp q
  exact (List.getElem?_eq_none_iff.mpr (by rw[← h.1] at this; simpa using this)).symm
 | some x=>
  obtain⟨t,ht,a⟩:=h.get' q
  rw[List.getElem?_map] at ht ⊢
  cases z:ns[i]? with
  | none=>rw[z] at ht; cases ht
  | some n=>rw[z] at ht; cases ht; rw[a.int_inv]; rfl
end
def NT:HO→Prop
 | .tbl _=>False
 | _=>True
def lamQ:Str:="least_place.<locals>.<lambda>"
def TabOk (P:Addr) (M H:Hp):Prop:=M P=none∧∃ ps,H P=some (.tbl ps)∧TriplesOk ps.toList∧∀ pos cv,codeAmong pos ps.toList=some cv→∃ c' o vs t,cv = .ref c'∧H c'=some (.frz o (.own 0))∧o.data = .fields vs∧vs[1]? = some (.str lamQ t)
structure Gr (M H M' H':Hp):Prop where
 mm:Same M M'
 mh:Same M' H'
 hn:∀ b o,H b=some o→NT o→H' b=some o
 ht:∀ b ps,H b=some (.tbl ps)→∃ qs,H' b=some (.tbl qs)
 fr:∀ p o,H p=some o→M p=none→M' p=none
 tt:∀ P,TabOk P M H→TabOk P M' H'
section
variable {K:PySem.W.Frag} {M H M1 H1 M2 H2:Hp} {p:Addr} {o o':HO}
theorem Gr.hh (g:Gr M H M1 H1) (b:Addr) (o:HO) (e:H b=some o) (nt:NT o:=by trivial):H1 b=some o:=g.hn b o e nt
theorem Gr.some (g:Gr M H M1 H1) (e:H p=some o):∃ o',H1 p=some o':=by
 cases o with
 | tbl ps=>obtain⟨qs,q⟩:=g.ht p ps e; exact⟨_,q⟩
 | _=>exact⟨_,g.hn _ _ e trivial⟩
theorem Gr.hfree (g:Gr M H M1 H1) (e:H1 p=none):H p=none:=by
 cases q:H p with
 | none=>rfl
 | some u=>obtain⟨o',z⟩:=g.some q; rw[z] at e; cases e
theorem Gr.hseq {a:Addr} {xs:List V} (g:Gr M H M1 H1) (h:SqL K H a xs):SqL K H1 a xs:=by
 rcases h with (h | ⟨o,h⟩) | h
 ·exact .inl (.inl (g.hh _ _ h))
 ·exact .inl (.inr ⟨o,g.hh _ _ h⟩)
 ·exact .inr h
theorem Gr.htup {a:Addr} {xs:List V} (g:Gr M H M1 H1) (h:SqT K H a xs):SqT K H1 a xs:=by
 rcases h with (h | ⟨o,h⟩) | h
 ·exact .inl (.inl (g.hh _ _ h))
 ·exact .inl (.inr ⟨o,g.hh _ _ h⟩)
 ·exact .inr h
theorem Gr.refl (h:Same M H):Gr M H M H:=⟨Same.refl _,h,fun _ _ e _=>e,fun _ ps e=>⟨ps,e⟩,fun _ _ _ e=>e,fun _ t=>t⟩
theorem Gr.trans (a:Gr M H M1 H1) (b:Gr M1 H1 M2 H2):Gr M H M2 H2:=⟨a.mm.trans b.mm,b.mh,fun p o e n=>b.hn p o (a.hn p o e n) n,fun p ps e=>by
  obtain⟨qs,q⟩:=a.ht p ps e
  exact b.ht p qs q,fun p o e n=>by
  obtain⟨o',q⟩:=a.some e
  exact b.fr p o' q (a.fr p o e n),fun P t=>b.tt P (a.tt P t)⟩
theorem TabOk.upd_ {P:Addr} (t:TabOk P M H) (h1:p≠P) (h2:∀ ob,H p≠some (.frz ob (.own 0))):TabOk P M (upd H p o):=by
 obtain⟨mp,ps,hp,tr,k⟩:=t
 refine⟨mp,ps,by rw[upd_ne h1.symm]; exact hp,tr,fun pos cv e=>?_⟩
 obtain⟨c',ob,vs,t,r1,r2,r3⟩:=k pos cv e
 exact⟨c',ob,vs,t,r1,by rw[upd_ne (fun z=>by subst z; exact h2 ob r2)]; exact r2,r3⟩
theorem Gr.new (g:Gr M H M1 H1) (e:H1 p=none):Gr M H M1 (upd H1 p o):=
 ⟨g.mm,g.mh.trans (same_new e o),fun b u q n=>same_new e o b u (g.hn b u q n),fun b ps q=>by
  obtain⟨qs,z⟩:=g.ht b ps q
  exact⟨qs,same_new e o _ _ z⟩,g.fr,fun P t=>(g.tt P t).upd_ (fun z=>by
   obtain⟨_,ps,hp,_⟩:=g.tt P t
   rw[← z,e] at hp; cases hp) fun ob z=>by rw[e] at z; cases z⟩
theorem Gr.put {ys:List V} (g:Gr M H M1 H1) (e:H p=none) (n:M1 p=none) (q:H1 p=Option.some (.lst ys)):Gr M H M1 (upd H1 p o):=
 ⟨g.mm,fun b u q=>by rw[upd_ne (ne_of_none q n)]; exact g.mh b u q,fun b u q nt=>by rw[upd_ne (ne_of_none q e)]; exact g.hn b u q nt,fun b ps z=>by rw[upd_ne (ne_of_none z e)]; exact g.ht b ps z,g.fr,
  fun P t=>(g.tt P t).upd_ (fun z=>by
   obtain⟨_,ps,hp,_⟩:=t
   rw[← z,e] at hp; cases hp) fun ob z=>by rw[q] at z; cases z⟩
theorem Gr.putK {kvs:List (Key × V)} (g:Gr M H M1 H1) (e:H p=none) (n:M1 p=none) (q:H1 p=Option.some (.dK kvs)):Gr M H M1 (upd H1 p o):=
 ⟨g.mm,fun b u q=>by rw[upd_ne (ne_of_none q n)]; exact g.mh b u q,fun b u q nt=>by rw[upd_ne (ne_of_none q e)]; exact g.hn b u q nt,fun b ps z=>by rw[upd_ne (ne_of_none z e)]; exact g.ht b ps z,g.fr,
  fun P t=>(g.tt P t).upd_ (fun z=>by
   obtain⟨_,ps,hp,_⟩:=t
   rw[← z,e] at hp; cases hp) fun ob z=>by rw[q] at z; cases z⟩
theorem Gr.frz (g:Gr M H M1 H1) (e:H p=none) (n:M1 p=none) (q:H1 p=Option.some o):Gr M H (upd M1 p o) H1:=
 ⟨g.mm.trans (same_new n o),fun b u z=>by
   by_cases hb:b=p
   ·subst hb; rw[upd_same] at z; cases z; exact q
   ·rw[upd_ne hb] at z; exact g.mh b u z,g.hn,g.ht,fun b u z m=>by
   have hb:b≠p:=ne_of_none z e
   rw[upd_ne hb]; exact g.fr b u z m,fun P t=>by
   obtain⟨_,ps0,hp0,_⟩:=id t
   obtain⟨mp,ps,hp,tr,k⟩:=g.tt P t
   exact⟨by rw[upd_ne (ne_of_none hp0 e)]; exact mp,ps,hp,tr,k⟩⟩
theorem Gr.add (g:Gr M H M1 H1) (e:H1 p=none):Gr M H (upd M1 p o) (upd H1 p o):=
 (g.new e).frz (g.hfree e) (g.mh.free e) upd_same
end
def Cw (K:PySem.W.Frag) (M H1:Hp) (p:Addr) (F:Nat→Tr) (i:Nat) (H:Hp):Prop:=∃ Mi ys,Gr M H1 Mi H∧Mi p=none∧H p=some (.lst ys)∧Ats K Mi ((List.range i).map F) ys
theorem noT {σ:St} {H:Hp} {A B:Hp→Prop} (h:A H):tNoTest σ H (fun b H3=>if b=true then A H3 else B H3):=by
 show if true=true then A H else B H
 exact iteT h
theorem noG {i:Nat} {v:V} {σ:St} {H:Hp} {A B:St→Hp→Prop} (h:A (σ.set i (some v)) H):gName i v σ H fun σ2 H2=>tNoTest σ2 H2 (fun b H3=>if b=true then A σ2 H3 else B σ2 H3):=noT (σ:=σ.set i (some v)) (A:=A (σ.set i (some v))) (B:=B (σ.set i (some v))) h
section
variable {K:PySem.W.Frag} {M H1:Hp} {p:Addr} {F:Nat→Tr}
theorem cw_start (hs:Same M H1) (hp:H1 p=none):Cw K M H1 p F 0 (upd H1 p (.lst [])):=⟨M,[],(Gr.refl hs).new hp,hs.free hp,upd_same,Ats.nil⟩
theorem cw_next {n i:Nat} {H H4:Hp} {Mi M4:Hp} {ys:List V} {y:V} (hn:n≤1000) (hi:i<n) (hp:H1 p=none) (g:Gr M H1 Mi H) (mp:Mi p=none) (hy:H p=some (.lst ys)) (a:Ats K Mi ((List.range i).map F) ys) (g4:Gr Mi H M4 H4) (t:At K M4 (F i) y) :
  ∃ ys,H4 p=some (.lst ys)∧ys.length<sizeLine∧∃ m',m'<n-i∧Wc (Cw K M H1 p F) n (i+1) m' (upd H4 p (.lst (ys++[y]))):=by
 have m4:M4 p=none:=g4.fr _ _ hy mp
 refine⟨ys,g4.hh _ _ hy,small1000 ?_,n-(i+1),by omega,hi,rfl,M4,ys++[y],(g.trans g4).put hp m4 (g4.hh _ _ hy),m4,upd_same,?_⟩
 ·rw[← a.1]; simp; omega
 ·rw[List.range_succ,List.map_append]
  exact (a.mono g4.mm).snoc t
theorem cm_list {a:Addr} {xs:List V} {js:List Nat} {σ:St} {te:TE} {G:Hp→Prop} (hs:Same M H1) (ha:M a=some (.lst xs)) (hl:xs.length≤1000) (hp:H1 p=none)
  (step:∀ i x Mi H (Qy:VK),xs[i]? = some x→Gr M H1 Mi H→(∀ y M4 H4,Gr Mi H M4 H4→At K M4 (F i) y→Qy y H4)→te ((captN 1 js σ).set 0 (some x)) H Qy)
  (after:∀ M' H' ys,Gr M H1 M' H'→M' p=none→H' p=some (.lst ys)→Ats K M' ((List.range xs.length).map F) ys→G H') :
  ∃ W:Nat→Nat→Hp→Prop,(∃ m,W 0 m (upd H1 p (.lst [])))∧∀ i m H,W i m H→((Itl K a).stop i H∧G H)∨((Itl K a).go i H∧∀ v H',(Itl K a).yld i H v H'→gName 0 v (captN 1 js σ) H' fun σ2 H2=>tNoTest σ2 H2 fun b H3=>if b=true then te σ2 H3 (fun y H4=>∃ ys,H4 p=some (.lst ys)∧ys.length<sizeLine∧∃ m',m'<m∧W (i+1) m' (upd H4 p (.lst (ys++[y])))) else ∃ m',m'<m∧W (i+1) m' H3):=by
 refine⟨Wc (Cw K M H1 p F) xs.length,⟨_,Nat.zero_le _,rfl,cw_start hs hp⟩,?_⟩
 rintro i m H ⟨hi,rfl,Mi,ys,g,mp,hy,at_⟩
 have hsq:SqL K H a xs:=SqL.of (g.mh _ _ (g.mm _ _ ha))
 rcases Nat.lt_or_ge i xs.length with hlt | hge
 ·refine .inr ⟨⟨xs,xs[i],hsq,List.getElem?_eq_getElem hlt⟩,?_⟩
  rintro v H' ⟨rfl,hv⟩
  refine noG ?_
  exact step i v Mi H' _ (hv xs hsq) g fun y M4 H4 g4 t=>cw_next hl hlt hp g mp hy at_ g4 t
 ·have:i=xs.length:=by omega
  subst this
  exact .inl ⟨⟨xs,hsq,Nat.le_refl _⟩,after Mi H ys g mp hy at_⟩
theorem cm_range {lo:Int} {n:Nat} {js:List Nat} {σ:St} {te:TE} {G:Hp→Prop} (hs:Same M H1) (hl:n≤1000) (hp:H1 p=none)
  (step:∀ i Mi H (Qy:VK),i<n→Gr M H1 Mi H→(∀ y M4 H4,Gr Mi H M4 H4→At K M4 (F i) y→Qy y H4)→te ((captN 1 js σ).set 0 (some (.int (lo+i)))) H Qy)
  (after:∀ M' H' ys,Gr M H1 M' H'→M' p=none→H' p=some (.lst ys)→Ats K M' ((List.range n).map F) ys→G H') :
  ∃ W:Nat→Nat→Hp→Prop,(∃ m,W 0 m (upd H1 p (.lst [])))∧∀ i m H,W i m H→((Itr lo n).stop i H∧G H)∨((Itr lo n).go i H∧∀ v H',(Itr lo n).yld i H v H'→gName 0 v (captN 1 js σ) H' fun σ2 H2=>tNoTest σ2 H2 fun b H3=>if b=true then te σ2 H3 (fun y H4=>∃ ys,H4 p=some (.lst ys)∧ys.length<sizeLine∧∃ m',m'<m∧W (i+1) m' (upd H4 p (.lst (ys++[y])))) else ∃ m',m'<m∧W (i+1) m' H3):=by
 refine⟨Wc (Cw K M H1 p F) n,⟨_,Nat.zero_le _,rfl,cw_start hs hp⟩,?_⟩
 rintro i m H ⟨hi,rfl,Mi,ys,g,mp,hy,at_⟩
 rcases Nat.lt_or_ge i n with hlt | hge
 ·refine .inr ⟨hlt,?_⟩
  rintro v H' ⟨rfl,rfl⟩
  refine noG ?_
  exact step i Mi H' _ hlt g fun y M4 H4 g4 t=>cw_next hl hlt hp g mp hy at_ g4 t
 ·have:i=n:=by omega
  subst this
  exact .inl ⟨Nat.le_refl _,after Mi H ys g mp hy at_⟩
theorem cm_zip {a b:Addr} {xs zs:List V} {js:List Nat} {σ:St} {te:TE} {G:Hp→Prop} (hs:Same M H1) (ha:M a=some (.lst xs)) (hb:M b=some (.lst zs)) (hlz:xs.length=zs.length) (hl:xs.length≤1000) (hp:H1 p=none)
  (step:∀ i x z Mi H (Qy:VK),xs[i]? = some x→zs[i]? = some z→Gr M H1 Mi H→(∀ y M4 H4,Gr Mi H M4 H4→At K M4 (F i) y→Qy y H4)→te (((captN 2 js σ).set 0 (some x)).set 1 (some z)) H Qy)
  (after:∀ M' H' ys,Gr M H1 M' H'→M' p=none→H' p=some (.lst ys)→Ats K M' ((List.range xs.length).map F) ys→G H') :
  ∃ W:Nat→Nat→Hp→Prop,(∃ m,W 0 m (upd H1 p (.lst [])))∧∀ i m H,W i m H→((Itz K a b).stop i H∧G H)∨((Itz K a b).go i H∧∀ v H',(Itz K a b).yld i H v H'→gTup K 2 (gCons (gName 0) (gCons (gName 1) gNil)) v (captN 2 js σ) H' fun σ2 H2=>tNoTest σ2 H2 fun b H3=>if b=true then te σ2 H3 (fun y H4=>∃ ys,H4 p=some (.lst ys)∧ys.length<sizeLine∧∃ m',m'<m∧W (i+1) m' (upd H4 p (.lst (ys++[y])))) else ∃ m',m'<m∧W (i+1) m' H3):=by
 refine⟨Wc (Cw K M H1 p F) xs.length,⟨_,Nat.zero_le _,rfl,cw_start hs hp⟩,?_⟩
 rintro i m H ⟨hi,rfl,Mi,ys,g,mp,hy,at_⟩
 have hsa:SqL K H a xs:=SqL.of (g.mh _ _ (g.mm _ _ ha))
 have hsb:SqL K H b zs:=SqL.of (g.mh _ _ (g.mm _ _ hb))
 rcases Nat.lt_or_ge i xs.length with hlt | hge
 ·refine .inr ⟨⟨xs,zs,xs[i],zs[i]'(by omega),hsa,hsb,List.getElem?_eq_getElem hlt,List.getElem?_eq_getElem (by omega)⟩,?_⟩
  rintro v H' ⟨T,x,z,hT,rfl,hx,hz,rfl⟩
  refine⟨T,[x,z],rfl,SqT.of upd_same,rfl,x,[z],rfl,z,[],rfl,rfl,?_⟩
  have hTp:p≠T:=ne_of_none hy hT
  have g2:Gr M H1 Mi (upd H T (.tup [x,z])):=g.new hT
  refine noT ?_
  exact step i x z Mi _ _ (hx xs hsa) (hz zs hsb) g2 fun y M4 H4 g4 t=>cw_next hl hlt hp g2 mp (by rw[upd_ne hTp]; exact hy) at_ g4 t
 ·have:i=xs.length:=by omega
  subst this
  exact .inl ⟨⟨xs,zs,hsa,hsb,.inl (Nat.le_refl _)⟩,after Mi H ys g mp hy at_⟩
end
end L2
namespace L2
open PySem PySem.Spec PyProof.Rows
open PySem.W (kla_fn kla_obj tabObj CodeHd envX kla_callFunE kla_codeExpr kla_makeFunction kla_makeFunctionHit kla_eval)
def cxLam (CX:CXT) (P:Program) (w:World) (K:PySem.W.Frag) (mg:Str→Option Value) (base:Heap) (N:List Str) (qual:Str) (scope:Scope) (f:Addr) (cd:Value) (cl:List (Str × Addr)) (A:Around) (outer:List Env) (s:Shared) (H:Hp) (E:XK):Cx where
 prog:=P
 w:=w
 K:=K
 mg:=mg
 base:=base
 A:=A.deeper (envX qual scope s.heap.objs.size f cd cl)
 N:=N
 s₀:=s
 H₀:=H
 env:=envX qual scope s.heap.objs.size f cd cl
 outer:=outer
 stack:=envX qual scope s.heap.objs.size f cd cl :: outer
 ex:=[]
 calm:=true
 fn:=fun _=>false
 pn:=[]
 xe:=fun e s'=>wpAny (model P w) (A.deeper (envX qual scope s.heap.objs.size f cd cl)) (leaving (envX qual scope s.heap.objs.size f cd cl) e) (fun _ s''=>CX outer H s E e s'') (fun e' s''=>CX outer H s E e' s'') s'
structure LamSc (x y:Str) (sc:Scope):Prop where
 ne:x≠y
 nm:sc.names=[(x,.local),(y,.free)]
 kind:sc.kind = .function
 co:sc.isCoroutine=false
 gen:sc.isGenerator=false
section
variable {CX:CXT} {P:Program} {w:World} {K:PySem.W.Frag} {mg:Str→Option Value} {base:Heap} {x y:Str} {name qual:Str} {params:Arguments} {body:Expr} {scope:Scope} {pm ctv:Value} {f c' cc:Addr} {A:Around} {outer:List Env} {s:Shared} {H:Hp} {E:XK} {Q:VK} {v vy:V} {u uy:Value} {t:TE}
theorem lam_run (S:LamSc x y scope) (hroom:A.depth<recursionLimit) (hd:A.handled=none) (e0:Env0 P w K mg base A outer s H)
  (ho:s.heap.get? f=some (kla_obj name qual params body scope [(y,cc)] pm c' ctv)) (hcd:s.heap.CodeRec (.ref c') qual)
  (hbind:bindArgs (kla_fn name qual params body scope [(y,cc)] pm (.ref c') ctv) ⟨[u],[]⟩=pure [(x,u)])
  (ru:RelV v u) (ry:RelV vy uy) (hc:s.heap.IsCell cc (some uy)) (hcn:H cc=none)
  (ht:PE (cxLam CX P w K mg base [x,y] qual scope f (.ref c') [(y,cc)] A outer s H E) body t) (hq:t [some v,some vy] H Q) :
  codeAny (model P w) A (.call (.ref f) ⟨[u],[]⟩) (CR CX outer P w H s Q E) s:=by
 have lim:s.heap.NoLimit:=e0.mod.nolimit.keeps fun b o e=>(e0.bs b o e).1
 refine kla_callFunE hroom ho rfl S.co S.gen rfl hcd ?_
 rw[hbind]
 refine wpAny_pure (wpAny_newFunctionEnv (fun z hz=>?_) (fun z hz=>?_) (fun h1 hns hsb=>⟨?_,?_⟩) S.kind)
 ·rw[S.nm] at hz
  simp only [List.mem_cons,List.not_mem_nil,or_false] at hz
  rcases hz with rfl | rfl <;> simp
 ·have:z=(x,u):=by simpa using hz
  subst this
  rw[S.nm]
  simp
 ·exact lim.fresh _ hsb
 have hk:∀ b o,s.heap.get? b=some o→h1.get? b=some o:=fun b o e=>hsb.extBut b o (Nat.ne_of_lt (Heap.lt_size e)) (Heap.get?_push_of_some _ e)
 have hkx:scope.names.lookup x=some .local:=by rw[S.nm]; simp
 have hky:scope.names.lookup y=some .free:=by
  rw[S.nm,List.lookup_cons]
  have:(y == x)=false:=by simpa using S.ne.symm
  rw[this]; simp
 have cl1:∀ z c,List.lookup z [(y,cc)]=some c→z=y∧c=cc:=fun z c e=>by
  rw[List.lookup_cons] at e
  cases hz:z == y with
  | true=>rw[hz] at e; simp at e; exact⟨eq_of_beq hz,e.symm⟩
  | false=>rw[hz] at e; simp at e
 show codeAny _ _ (.expr body (envX qual scope s.heap.objs.size f (.ref c') [(y,cc)])) _ _
 have noA:∀ b:Addr,b∉(cxLam CX P w K mg base [x,y] qual scope f (.ref c') [(y,cc)] A outer s H E).ex:=fun b z=>absurd (show b∈([]:List Addr) from z) (by simp)
 have hcc:∃ o,s.heap.get? cc=some o:=let ⟨o,e,_⟩:=hc; ⟨o,e⟩
 have I:Inv (cxLam CX P w K mg base [x,y] qual scope f (.ref c') [(y,cc)] A outer s H E) [] [some v,some vy] H { s with heap:=h1,toks:=s.toks + [(x,u)].length }:=by
  refine⟨⟨e0.mod,S.kind,rfl,rfl,Nat.le_refl _,fun a b c h1 h2=>(cl1 a c h1).1.trans (cl1 b c h2).1.symm,fun a ha=>?_,fun a c h=>absurd h Bool.false_ne_true,fun _=>hd,Around.frames_deeper e0.frames,.inr ⟨rfl,rfl⟩,fun b z=>absurd z (noA b),e0.bs,e0.bsz,fun b _ _=>noA b,fun b z=>absurd z (noA b),e0.funs,e0.frf⟩,
   rfl,e0.bare,Un.kept hk,⟨_,hns,fun i a b h1 h2 h3=>?_⟩,fun a c h=>?_,e0.hok.fresh (Nat.le_refl _),fun a c h=>?_,fun p hp=>absurd (show p∈([]:List (Addr × Obj)) from hp) (by simp),e0.hok.kept hk,rfl⟩
  ·have ha':scope.names.lookup a=some .cell∨scope.names.lookup a=some .free:=ha
   have:a=y:=by
    rw[S.nm,List.lookup_cons,List.lookup_cons] at ha'
    cases h1:a == x with
    | true=>rw[h1] at ha'; simp at ha'
    | false=>
     cases h2:a == y with
     | true=>exact eq_of_beq h2
     | false=>rw[h1,h2] at ha'; simp at ha'
   subst this
   exact⟨cc,by show List.lookup a [(a,cc)]=some cc; simp⟩
  ·match i,h1,h2 with
   | 0,h1,h2=>
    have e1:x=a:=Option.some.inj h1
    have e2:v=b:=Option.some.inj (Option.some.inj h2)
    subst e1 e2
    exact⟨u,ru,.inl ⟨hkx,by simp⟩⟩
   | 1,h1,h2=>
    have e1:y=a:=Option.some.inj h1
    have e2:vy=b:=Option.some.inj (Option.some.inj h2)
    subst e1 e2
    exact⟨uy,ry,.inr ⟨.inr hky,cc,by show List.lookup y [(y,cc)]=some cc; simp,let ⟨o,e,d⟩:=hc; ⟨o,hk _ _ e,d⟩⟩⟩
   | n+2,h1,h2=>exact absurd (show ([]:List Str)[n]? = some a from h1) (by simp)
  ·obtain⟨rfl,rfl⟩:=cl1 a c h
   exact⟨_,let ⟨o,e,d⟩:=hc; ⟨o,hk _ _ e,d⟩⟩
  ·obtain⟨rfl,rfl⟩:=cl1 a c h
   exact hcn
 refine kla_codeExpr (wpAny_mono (ht [] _ _ H Q I hq) (fun u s' hs=>?_) fun e s' hs=>hs)
 obtain⟨v',H',J,rv,q⟩:=hs
 exact⟨v',H',J.os,J.bare,J.base,J.hok,rv,q⟩
end
structure LamAt (mg:Str→Option Value) (base:Heap) (c P:Addr):Prop where
 code:CodeHd base c P
 none:base.get? P=none
 bm:∃ bm o,mg "__builtins__" = some (.ref bm)∧bm≠builtinsNs∧bm≠mainGlobals∧base.get? bm=some o∧o.cls = .type "module"∧o.dict=some builtinsNs∧o.data = .plain
section
variable {X:Cx} {pins:List (Addr × Obj)} {σ:St} {H M:Hp} {s:Shared} {h':Heap} {c c' P:Addr} {ps more:Array Value} {oc:Obj}
theorem Inv.tbl {t':Nat} (I:Inv X pins σ H s) (hP:H P=some (.tbl ps)) (hx:Heap.ExtBut P s.heap h') (hc:s.heap.objs.size≤c') (hoc:h'.get? c'=some oc) (htb:h'.get? P=some (tabObj (ps++more))) :
  Inv X pins σ (upd (upd H P (.tbl (ps++more))) c' (.frz oc (.own 0))) { s with heap:=h',toks:=t' }:=by
 have hn:H c'=none:=I.hok.fresh hc
 have hPs:P<s.heap.objs.size:=I.hok.lt hP
 have cP:c'≠P:=fun z=>by subst z; rw[hn] at hP; cases hP
 have u1:∀ b,b≠P→b≠c'→upd (upd H P (.tbl (ps++more))) c' (.frz oc (.own 0)) b=H b:=fun b z1 z2=>by rw[upd_ne z2,upd_ne z1]
 have ne1:∀ b o,H b=some o→NT o→b≠P:=fun b o e n z=>by subst z; rw[hP] at e; cases e; exact n
 have ne2:∀ b o,H b=some o→b≠c':=fun b o e=>ne_of_none e hn
 have ne0:∀ b,H b=none→b≠P:=fun b e z=>by subst z; rw[hP] at e; cases e
 refine I.un ⟨fun b o e n _ _=>hx b o (ne0 b n) e,fun b o e n _ _=>⟨o.slots,hx b o (ne0 b n) e⟩,fun b o e n _=>?_,fun b o e _=>?_,fun b xs e=>?_,fun b o u e=>?_,fun b qs e=>?_⟩ (fun b u e=>?_)
 ·rw[u1 b (ne0 b n) (Nat.ne_of_lt (Nat.lt_of_lt_of_le (Heap.lt_size e) hc))]; exact n
 ·by_cases hb:b=P
  ·subst hb; exact⟨_,htb⟩
  ·exact⟨o,hx b o hb e⟩
 ·rw[u1 b (ne1 b _ e trivial) (ne2 b _ e)]; exact e
 ·rw[u1 b (ne1 b _ e trivial) (ne2 b _ e)]; exact e
 ·by_cases hb:b=P
  ·subst hb
   rw[hP] at e; cases e
   exact⟨more,by rw[upd_ne cP.symm,upd_same]⟩
  ·exact⟨#[],by rw[u1 b hb (ne2 b _ e),e]; simp⟩
 ·by_cases hb:b=c'
  ·subst hb
   rw[upd_same] at e; cases e
   exact⟨hoc,oc,hoc⟩
  ·rw[upd_ne hb] at e
   by_cases hb2:b=P
   ·subst hb2
    rw[upd_same] at e; cases e
    exact htb
   ·rw[upd_ne hb2] at e
    refine (I.hok b u e).stay (fun a o ha q=>hx a o ?_ q) (fun a q=>?_) fun a xs q=>?_
    ·rcases ha with z | z
     ·rw[z]; exact hb2
     ·exact ne1 a _ z trivial
    ·rw[u1 a (ne1 a _ q trivial) (ne2 a _ q)]; exact q
    ·rw[u1 a (ne1 a _ q trivial) (ne2 a _ q)]; exact q
theorem gr_tbl {t:Tok} {vs:Array Value} {pos:Pos} (I:Inv X pins σ H s) (hM:Same M H) (T:TabOk P M H) (hP:H P=some (.tbl ps)) (hc:s.heap.objs.size≤c') (hd:oc.data = .fields vs) (hv:vs[1]? = some (.str lamQ t))
  (ht:TriplesOk (ps ++ #[rawInt pos.line,rawInt pos.col,.ref c']).toList)
  (hcm:∀ p cv,codeAmong p (ps ++ #[rawInt pos.line,rawInt pos.col,.ref c']).toList=some cv→codeAmong p ps.toList=some cv∨cv = .ref c') :
  Gr M H M (upd (upd H P (.tbl (ps ++ #[rawInt pos.line,rawInt pos.col,.ref c']))) c' (.frz oc (.own 0))):=by
 have hn:H c'=none:=I.hok.fresh hc
 have cP:c'≠P:=fun z=>by subst z; rw[hn] at hP; cases hP
 have u1:∀ b,b≠P→b≠c'→upd (upd H P (.tbl (ps ++ #[rawInt pos.line,rawInt pos.col,.ref c']))) c' (.frz oc (.own 0)) b=H b:=fun b z1 z2=>by rw[upd_ne z2,upd_ne z1]
 have ne1:∀ b o,H b=some o→NT o→b≠P:=fun b o e n z=>by subst z; rw[hP] at e; cases e; exact n
 have ne2:∀ b o,H b=some o→b≠c':=fun b o e=>ne_of_none e hn
 refine⟨Same.refl _,fun b o e=>?_,fun b o e n=>by rw[u1 b (ne1 b _ e n) (ne2 b _ e)]; exact e,fun b qs e=>?_,fun _ _ _ e=>e,fun P' T'=>?_⟩
 ·rw[u1 b (fun z=>by subst z; rw[T.1] at e; cases e) (ne2 b _ (hM _ _ e))]; exact hM _ _ e
 ·by_cases hb:b=P
  ·subst hb; exact⟨_,by rw[upd_ne cP.symm,upd_same]⟩
  ·exact⟨qs,by rw[u1 b hb (ne2 b _ e)]; exact e⟩
 ·obtain⟨m',qs,hq,tr,k⟩:=T'
  by_cases hb:P'=P
  ·subst hb
   rw[hP] at hq; cases hq
   refine⟨m',_,by rw[upd_ne cP.symm,upd_same],ht,fun p cv e=>?_⟩
   rcases hcm p cv e with z | z
   ·obtain⟨d',o,vs',t',r1,r2,r3⟩:=k p cv z
    exact⟨d',o,vs',t',r1,by rw[u1 d' (ne1 _ _ r2 trivial) (ne2 _ _ r2)]; exact r2,r3⟩
   ·exact⟨c',oc,vs,t,z,upd_same,hd,hv⟩
  ·refine⟨m',qs,by rw[u1 P' hb (ne2 _ _ hq)]; exact hq,tr,fun p cv e=>?_⟩
   obtain⟨d',o,vs',t',r1,r2,r3⟩:=k p cv e
   exact⟨d',o,vs',t',r1,by rw[u1 d' (ne1 _ _ r2 trivial) (ne2 _ _ r2)]; exact r2,r3⟩
end
theorem among_snoc {p pos:Pos} {c cv:Value}:∀ (l:List Value),TriplesOk l→codeAmong p (l++[rawInt pos.line,rawInt pos.col,c])=some cv→codeAmong p l=some cv∨cv=c:=by
 intro l
 fun_induction TriplesOk l with
 | case1=>
  intro _ e
  simp only [List.nil_append,codeAmong,rawInt] at e
  split at e
  ·exact .inr (Option.some.inj e).symm
  ·cases e
 | case2 a t b u x rest ih=>
  intro h e
  simp only [List.cons_append,codeAmong] at e ⊢
  split at e
  ·rename_i q; rw[if_pos q]; exact .inl e
  ·rename_i q; rw[if_neg q]; exact ih h e
 | case3 l h1 h2=>intro h; exact h.elim
section
variable {X:Cx} {pins:List (Addr × Obj)} {σ:St} {H M:Hp} {s:Shared} {c P:Addr} {params:Arguments} {body:Expr} {scope:Scope} {clos:List (Str × Addr)} {pos:Pos} {E:Value→Shared→Prop} {R:Value→Shared→Prop}
theorem Inv.pinNew {o:Obj} {t':Nat} (I:Inv X pins σ H s) (hd:∀ v,o.data≠.cell v) (hfr:o.isFreed=false):Inv X ((s.heap.objs.size,o) :: pins) σ H { s with heap:=s.heap.push o,toks:=t' }:=by
 have I2:Inv X pins σ H { s with heap:=s.heap.push o,toks:=t' }:=I.kept (fun b u e=>Heap.get?_push_of_some _ e)
 refine I2.pins_of fun p hp=>?_
 rcases List.mem_cons.mp hp with rfl | hp
 ·exact⟨Heap.get?_push_size _ hfr,I.hok.fresh (Nat.le_refl _),Nat.ne_of_gt I.lt,I.nofs (Nat.le_refl _),hd⟩
 ·exact I2.pin p (List.mem_append_right _ hp)
theorem make_lam (I:Inv X pins σ H s) (L:LamAt X.mg X.base c P) (hcode:X.env.code = .ref c) (hq:X.env.qual ++ "<lambda>" = lamQ) (hcl:closureFor scope X.env=pure clos) (hdef:defaultsOf params X.env=([],[])) (hM:Same M H) (T:TabOk P M H)
  (k:∀ f c' pm ctv H' s',Gr M H M H'→Inv X ((f,kla_obj "<lambda>" lamQ params body scope clos pm c' ctv) :: pins) σ H' s'→(∃ o vs t,H' c'=some (.frz o (.own 0))∧o.data = .fields vs∧vs[1]? = some (.str lamQ t))→R (.ref f) s') :
  wpAny (model X.prog X.w) X.A (eval (.Lambda params body scope pos) X.env) R E s:=by
 obtain⟨mP,ps,hP,tr,kk⟩:=id T
 have hPo:s.heap.get? P=some (tabObj ps):=I.hok P _ hP
 have hg:s.heap.Ns mainGlobals X.mg:=I.mod.glob.keeps I.bk
 have C:CodeHd s.heap c P:=L.code.keeps I.bk
 have hgP:mainGlobals≠P:=fun z=>by
  obtain⟨o,es,ep,e,_⟩:=I.mod.glob
  rw[z,L.none] at e; cases e
 have hb:s.heap.BuiltinsAt X.mg P:=by
  obtain⟨bm,o,b1,b2,b3,b4,b5⟩:=L.bm
  exact⟨bm,o,b1,b2,b3,(fun z=>by rw[z,L.none] at b4; cases b4),I.bk _ _ b4,b5⟩
 refine kla_eval hdef ?_
 rw[hq]
 cases hcm:codeAmong pos ps.toList with
 | none=>
  refine kla_makeFunction hcl I.ok.glob hg hcode C hPo tr hcm hgP hb fun c' ctv h' tk hx hge hlt hrec htb=>?_
  obtain⟨c2,oc,vs,t,e2,hoc,hd,hv⟩:=hrec
  cases e2
  have I1:=I.tbl (t':=tk) hP hx hge hoc htb
  refine k h'.objs.size c' _ ctv _ _ (gr_tbl I hM T hP hge hd hv ?_ ?_) (I1.pinNew (t':=tk) (fun v z=>by cases z) rfl) ⟨oc,vs,t,upd_same,hd,hv⟩
  ·have:=TriplesOk_snoc pos.line pos.col (.ref c') ps.toList tr
   simpa using this
  ·intro p cv e
   exact among_snoc ps.toList tr (by simpa using e)
 | some cv=>
  obtain⟨c',o,vs,t,rfl,r2,r3,r4⟩:=kk pos cv hcm
  refine kla_makeFunctionHit hcl I.ok.glob hg hcode C hPo tr hcm hb fun ctv h' tk hk hsz=>?_
  have I1:Inv X pins σ H { s with heap:=h',toks:=tk }:=I.kept hk
  exact k h'.objs.size c' _ ctv H _ (Gr.refl hM) (I1.pinNew (t':=tk) (fun v z=>by cases z) rfl) ⟨o,vs,t,r2,r3,r4⟩
end
structure Mine (X:Cx) (pins:List (Addr × Obj)) (H:Hp) (a:Addr):Prop where
 n:H a=none
 l:a≠X.env.locals
 s:X.s₀.heap.objs.size≤a
 c:∀ x c,X.env.cells.lookup x=some c→c≠a
 p:∀ p∈X.pn++pins,p.1≠a
 f:a∉X.fs
section
variable {X:Cx} {pins:List (Addr × Obj)} {σ:St} {H:Hp} {s:Shared} {h':Heap} {a b:Addr} {o:Obj}
theorem Inv.mine (I:Inv X pins σ H s) (h:s.heap.objs.size≤a):Mine X pins H a:=
 ⟨I.hok.fresh h,Nat.ne_of_gt (Nat.lt_of_lt_of_le I.lt h),Nat.le_trans I.sz h,fun x c e=>by
  obtain⟨v,o,ho,_⟩:=I.cell x c e
  exact Nat.ne_of_lt (Nat.lt_of_lt_of_le (Heap.lt_size ho) h),fun p hp=>Nat.ne_of_lt (Nat.lt_of_lt_of_le (Heap.lt_size (I.pin p hp).1) h),I.nofs h⟩
theorem Inv.turnedM {t':Nat} (I:Inv X pins σ H s) (m:Mine X pins H a) (k:∀ b o,b≠a→s.heap.get? b=some o→h'.get? b=some o):Inv X pins σ H { s with heap:=h',toks:=t' }:=
 I.turned k m.n m.l (.inr m.s) m.c m.p
theorem Inv.pinM (I:Inv X pins σ H s) (m:Mine X pins H a) (e:s.heap.get? a=some o) (hd:∀ v,o.data≠.cell v):Inv X ((a,o) :: pins) σ H s:=by
 refine I.pins_of fun p hp=>?_
 rcases List.mem_cons.mp hp with rfl | hp
 ·exact⟨e,m.n,m.l,m.f,hd⟩
 ·exact I.pin p (List.mem_append_right _ hp)
theorem Mine.cons (m:Mine X pins H a) (h:b≠a):Mine X ((b,o) :: pins) H a:=⟨m.n,m.l,m.s,m.c,fun p hp=>by
 rcases List.mem_append.mp hp with z | z
 ·exact m.p p (List.mem_append_left _ z)
 ·rcases List.mem_cons.mp z with rfl | z
  ·exact h
  ·exact m.p p (List.mem_append_right _ z),m.f⟩
theorem Inv.unpin (I:Inv X ((a,o) :: pins) σ H s):Inv X pins σ H s:=I.pins_of fun p hp=>I.pin p (List.mem_append_right _ (List.mem_cons_of_mem _ hp))
theorem Inv.pinGet (I:Inv X ((a,o) :: pins) σ H s):s.heap.get? a=some o:=(I.pin (a,o) (List.mem_append_right _ List.mem_cons_self)).1
end
theorem min_kd (a v d:Value):argsOk "min" ⟨[a],[(Str.ofString "key",v),(Str.ofString "default",d)]⟩:=by unfold argsOk; kernel_rfl
section
variable {X:Cx} {pins:List (Addr × Obj)} {σ:St} {H:Hp} {l f S I0:Addr} {js:List Int} {kf:Int→Int} {E:Value→Shared→Prop}
def KeyR (X:Cx) (σ:St) (H:Hp) (f:Addr) (js:List Int) (kf:Int→Int) (pins:List (Addr × Obj)):Prop:=
 ∀ (j:Int) (t:Tok) (s:Shared) (own:List (Addr × Obj)),j∈js→Inv X (own++pins) σ H s →
  wpAny (model X.prog X.w) X.A.in1 (call (.ref f) [.int j t]) (fun u s'=>(∃ t',u = .int (kf j) t')∧Inv X (own++pins) σ H s') (fun _ _=>False) s
theorem min_loop {R:Result→Shared→Prop} (hh:X.A.handled=none) (turn:KeyR X σ H f js kf pins) (hl:SqL X.K H l (js.map V.int)) (hlI:l≠I0) (hSI:S≠I0) (mS:Mine X pins H S) (mI:Mine X pins H I0)
  (hR:∀ (i:Nat) (j:Int) (t:Tok) (s':Shared),js[i]? = some j→(∀ j'∈js,kf j≤kf j')→Inv X pins σ H s'→R (.ok (.ret (.int j t))) s') :
  ∀ (r j i:Nat) (jb:Int) (tj tb:Tok) (n:Nat) (s:Shared),js.length-(j+1)=r→j+1≤js.length→Inv X pins σ H s→s.heap.get? S=some (seqObj "list" #[.int jb tj,.int (kf jb) tb] n)→s.heap.IsListIter I0 l (j+1) →
   js[i]? = some jb→(∀ j' a,j'≤j→js[j']? = some a→kf jb≤kf a) →
   codeAny (model X.prog X.w) X.A (.builtin "min.loop" ⟨[.ref I0,.ref f,.ref S],[(Str.ofString "default",.none)]⟩) R s:=by
 have hname:(toString "min" ++ toString ".loop" : String)="min.loop" :=by decide
 intro r
 induction r with
 | zero=>
  intro j i jb tj tb n s hr hj I hS hit hjb hbest
  have hin:j+1=js.length:=by omega
  obtain⟨its,rv,pl,hz⟩:=I.list hl
  have hsz:its.toArray.size=js.length:=by have:=rv.length; simp at this ⊢; omega
  have W:=Walks.list (prog:=X.prog) (w:=X.w) (A:=X.A.in1) hh I0 l hlI its.toArray
  refine codeAny_builtin PySem.F.entry_min_loop ?_
  rw[Around.under_plainId PySem.F.plain_min_loop _]
  show wpAny _ X.A.in1 (seqItems? (.ref S) >>= _) _ _ _
  refine wpAny_bind (wpAny_seqItems hS rfl ?_)
  show wpAny _ X.A.in1 (tryCatch (pyNext (.ref I0)) _ >>= _) _ _ _
  refine wpAny_bind (wpAny_tryCatch (W.done _ _ _ ⟨by rw[hsz,← hin]; exact hit,pl.isList⟩ fun h' tk' hk'=>?_))
  have I1:Inv X pins σ H { s with heap:=h',toks:=tk' }:=I.turnedM mI fun b o hb e=>hk' b o (by simpa using hb) e
  have hS':=hk' S _ (by simpa using hSI) hS
  have s1:=Heap.SameBut.update h' S (Obj.mapSeq fun _=>(#[]:Array Value))
  show wpAny _ X.A.in1 (updateSeq S (fun _=>#[]) >>= _) _ _ _
  refine wpAny_bind ?_
  refine wpAny_updateSeq hS' rfl (wpAny_bind (wpAny_letGo (wpAny_pure ?_)))
  exact hR i jb tj _ hjb (fun a ha=>by
   obtain⟨k,hk,e⟩:=List.getElem_of_mem ha
   exact hbest k a (by omega) (by rw[List.getElem?_eq_getElem hk,e])) (I1.turnedM mS fun b o hb e=>(s1.2 b hb).trans e)
 | succ r ih=>
  intro j i jb tj tb n s hr hj I hS hit hjb hbest
  have hlt:j+1<js.length:=by omega
  obtain⟨its,rv,pl,hz⟩:=I.list hl
  have hsz:its.toArray.size=js.length:=by have:=rv.length; simp at this ⊢; omega
  have W:=Walks.list (prog:=X.prog) (w:=X.w) (A:=X.A.in1) hh I0 l hlI its.toArray
  refine codeAny_builtin PySem.F.entry_min_loop ?_
  rw[Around.under_plainId PySem.F.plain_min_loop _]
  show wpAny _ X.A.in1 (seqItems? (.ref S) >>= _) _ _ _
  refine wpAny_bind (wpAny_seqItems hS rfl ?_)
  show wpAny _ X.A.in1 (tryCatch (pyNext (.ref I0)) _ >>= _) _ _ _
  refine wpAny_bind (wpAny_tryCatch (W.item (j+1) _ _ _ (by rw[hsz]; exact hlt) ⟨hit,pl.isList⟩ fun v h' tk' hP hst' hk'=>?_))
  have hjn:js[j+1]? = some js[j+1]:=List.getElem?_eq_getElem hlt
  obtain⟨u,hu,ru⟩:=rv.get (i:=j+1) (x:=.int js[j+1]) (by rw[List.getElem?_map,hjn]; rfl)
  have hv:u=v:=by
   have:its[j+1]? = some v:=by simpa using hP
   rw[hu] at this; exact Option.some.inj this
  subst hv
  obtain⟨t,rfl⟩:∃ t,u = .int js[j+1] t:=ru
  obtain⟨oI',hoI',hoc,hod⟩:=id hst'.1
  have I1:Inv X pins σ H { s with heap:=h',toks:=tk' }:=I.turnedM mI fun b o hb e=>hk' b o (by simpa using hb) e
  have hS':=hk' S _ (by simpa using hSI) hS
  have I2:Inv X ((S,seqObj "list" #[.int jb tj,.int (kf jb) tb] n) :: (I0,oI') :: pins) σ H { s with heap:=h',toks:=tk' }:=
   (I1.pinM mI hoI' (fun v z=>by rw[hod] at z; cases z)).pinM (mS.cons hSI.symm) hS' (fun v z=>by cases z)
  show wpAny _ X.A.in1 (tryCatch (holding [.int js[j+1] t] (call (.ref f) [.int js[j+1] t])) _ >>= _) _ _ _
  refine wpAny_bind (wpAny_tryCatch (wpAny_holding (wpAny_mono (turn js[j+1] t _ [(S,seqObj "list" #[.int jb tj,.int (kf jb) tb] n),(I0,oI')] (List.getElem_mem hlt) I2) (fun x s'' he=>?_) fun _ _ hF=>hF.elim)))
  obtain⟨⟨t2,rfl⟩,J⟩:=he
  have nS2:s''.heap.get? S=some (seqObj "list" #[.int jb tj,.int (kf jb) tb] n):=J.pinGet
  have J1:Inv X ((I0,oI') :: pins) σ H s'':=Inv.unpin J
  have nI2:s''.heap.get? I0=some oI':=J1.pinGet
  have J2:Inv X pins σ H s'':=J1.unpin
  have hit2:s''.heap.IsListIter I0 l (j+1+1):=⟨oI',nI2,hoc,hod⟩
  show wpAny _ X.A.in1 (tryCatch (holding [.int js[j+1] t,.int (kf js[j+1]) t2] (richCompare .Lt (.int (kf js[j+1]) t2) (.int (kf jb) tb) >>= _)) _ >>= _) _ _ _
  refine wpAny_bind (wpAny_tryCatch (wpAny_holding (wpAny_bind (CmpOf.ints_lt (prog:=X.prog) (w:=X.w) (A:=X.A.in1) (P:=fun (i:Nat) v=>∃ t,v = .int (if i=0 then kf js[j+1] else kf jb) t) (fun i=>if i=0 then kf js[j+1] else kf jb) (fun i v h=>h) 0 1 _ _ _ _ _ ⟨t2,rfl⟩ ⟨tb,rfl⟩ ?_))))
  refine wpAny_bind (wpAny_holding (wpAny_truthy_bool ?_))
  refine wpAny_bind (wpAny_letGo (wpAny_pure ?_))
  show wpAny _ _ (if decide (kf js[j+1]<kf jb)=true then _ else _) _ _ _
  by_cases hb':kf js[j+1]<kf jb
  ·have s1:=Heap.SameBut.update s''.heap S (Obj.mapSeq fun _=>#[.int js[j+1] t,.int (kf js[j+1]) t2])
   obtain⟨c2,hc2⟩:∃ c2,(s''.heap.update S (Obj.mapSeq fun _=>#[.int js[j+1] t,.int (kf js[j+1]) t2])).get? S=some (seqObj "list" #[.int js[j+1] t,.int (kf js[j+1]) t2] c2):=⟨_,get?_update_seq nS2 fun _=>#[.int js[j+1] t,.int (kf js[j+1]) t2]⟩
   simp only [hb',decide_true,if_true]
   refine wpAny_bind ?_
   refine wpAny_updateSeq nS2 rfl (wpAny_bind (wpAny_letGo ?_))
   rw[hname]
   refine wpAny_pure ⟨plainId_quiet PySem.F.plain_min_loop _,ih (j+1) (j+1) js[j+1] t t2 c2 _ (by omega) hlt (J2.turnedM (t':=s''.toks) mS fun b o hb e=>(s1.2 b hb).trans e) hc2 ⟨oI',(s1.2 I0 hSI.symm).trans nI2,hoc,hod⟩ hjn fun j' a hj' ha=>?_⟩
   by_cases e:j'=j+1
   ·subst e; rw[hjn] at ha; cases ha; exact Int.le_refl _
   ·have:=hbest j' a (by omega) ha; omega
  ·simp only [hb',decide_false,Bool.false_eq_true,if_false]
   refine wpAny_bind (wpAny_letGo ?_)
   rw[hname]
   refine wpAny_pure ⟨plainId_quiet PySem.F.plain_min_loop _,ih (j+1) i jb tj tb n _ (by omega) hlt J2 nS2 hit2 hjb fun j' a hj' ha=>?_⟩
   by_cases e:j'=j+1
   ·subst e; rw[hjn] at ha; cases ha; omega
   ·exact hbest j' a (by omega) ha
end
section
variable {X:Cx} {pins:List (Addr × Obj)} {σ:St} {H:Hp} {l f:Addr} {js:List Int} {kf:Int→Int} {s:Shared} {Q:VK}
theorem min_by (I:Inv X pins σ H s) (hh:X.A.handled=none) (turn:KeyR X σ H f js kf pins) (hl:SqL X.K H l (js.map V.int)) (q0:js=[]→Q .non H) (q1:∀ j∈js,(∀ j'∈js,kf j≤kf j')→Q (.int j) H) :
  wpAny (model X.prog X.w) X.A (call (.builtin "min") [.ref l] [(Str.ofString "key",.ref f),(Str.ofString "default",.none)]) (EP X pins σ Q) X.xe s:=by
 have hname:(toString "min" ++ toString ".loop" : String)="min.loop" :=by decide
 obtain⟨its,rv,pl,hz⟩:=I.list hl
 have hls:=pl.isList
 obtain⟨ol,hol,_⟩:=id hls
 have hll:l<s.heap.objs.size:=Heap.lt_size hol
 refine kmk_tree PySem.F.kind_min PySem.F.plain_min PySem.F.entry_min (min_kd _ _ _) ?_
 show wpAny _ X.A.in1 (Builtin.Builtins.bindParams "min" ["key","default"] 0 ⟨[],[(Str.ofString "key",.ref f),(Str.ofString "default",.none)]⟩ >>= _) _ _ s
 refine wpAny_bind (wpAny_of_eq (show Builtin.Builtins.bindParams "min" ["key","default"] 0 ⟨[],[(Str.ofString "key",.ref f),(Str.ofString "default",.none)]⟩=pure [some (.ref f),some .none] from rfl) ?_)
 refine wpAny_bind (wpAny_pure ?_)
 refine wpAny_bind (wpAny_pyIter_list hls ?_)
 refine wpAny_bind (wpAny_newList ?_ (Nat.zero_le _))
 rw[hname]
 have hSe:(s.heap.push { cls:=.type "list_iterator",data:=.fields #[.ref l,.int 0 0] }).objs.size=s.heap.objs.size+1:=size_push' ..
 have mI:Mine X pins H s.heap.objs.size:=I.mine (Nat.le_refl _)
 have mS:Mine X pins H (s.heap.push { cls:=.type "list_iterator",data:=.fields #[.ref l,.int 0 0] }).objs.size:=I.mine (by rw[hSe]; omega)
 have hSI:(s.heap.push { cls:=.type "list_iterator",data:=.fields #[.ref l,.int 0 0] }).objs.size≠s.heap.objs.size:=by rw[hSe]; omega
 have hlI:l≠s.heap.objs.size:=Nat.ne_of_lt hll
 refine wpAny_pure ⟨plainId_quiet PySem.F.plain_min_loop _,?_⟩
 have gI:((s.heap.push { cls:=.type "list_iterator",data:=.fields #[.ref l,.int 0 0] }).push (seqObj "list" #[] 0)).get? s.heap.objs.size=some { cls:=.type "list_iterator",data:=.fields #[.ref l,.int 0 0] }:=
  Heap.get?_push_of_some _ (Heap.get?_push_size _ rfl)
 have gS:((s.heap.push { cls:=.type "list_iterator",data:=.fields #[.ref l,.int 0 0] }).push (seqObj "list" #[] 0)).get? (s.heap.push { cls:=.type "list_iterator",data:=.fields #[.ref l,.int 0 0] }).objs.size=some (seqObj "list" #[] 0):=Heap.get?_push_size _ rfl
 have J:∀ tk,Inv X pins σ H { s with heap:=(s.heap.push { cls:=.type "list_iterator",data:=.fields #[.ref l,.int 0 0] }).push (seqObj "list" #[] 0),toks:=tk }:=fun tk=>I.kept fun b u e=>Heap.get?_push_of_some _ (Heap.get?_push_of_some _ e)
 obtain⟨its2,rv2,pl2,hz2⟩:=(J s.toks).list hl
 have hsz:its2.toArray.size=js.length:=by have:=rv2.length; simp at this ⊢; omega
 have W:=Walks.list (prog:=X.prog) (w:=X.w) (A:=X.A.in1) hh s.heap.objs.size l hlI its2.toArray
 refine codeAny_builtin PySem.F.entry_min_loop ?_
 rw[Around.under_plainId PySem.F.plain_min_loop _]
 show wpAny _ X.A.in1 (seqItems? (.ref _) >>= _) _ _ _
 refine wpAny_bind (wpAny_seqItems gS rfl ?_)
 show wpAny _ X.A.in1 (tryCatch (pyNext (.ref s.heap.objs.size)) _ >>= _) _ _ _
 by_cases hjs:js=[]
 ·
  refine wpAny_bind (wpAny_tryCatch (W.done _ _ _ ⟨⟨_,gI,rfl,by rw[hsz,hjs]; rfl⟩,pl2.isList⟩ fun h' tk' hk'=>?_))
  show wpAny _ X.A.in1 (rule _ >>= fun _=>ret .none) _ _ _
  refine wpAny_bind (wpAny_rule (wpAny_pure ?_))
  exact⟨.non,H,(J s.toks).turnedM mI fun b o hb e=>hk' b o (by simpa using hb) e,rfl,q0 hjs⟩
 ·
  have hne:0<js.length:=List.length_pos_iff.mpr hjs
  refine wpAny_bind (wpAny_tryCatch (W.item 0 _ _ _ (by rw[hsz]; exact hne) ⟨⟨_,gI,rfl,rfl⟩,pl2.isList⟩ fun v h' tk' hP hst' hk'=>?_))
  have hjn:js[0]? = some js[0]:=List.getElem?_eq_getElem hne
  obtain⟨u,hu,ru⟩:=rv2.get (i:=0) (x:=.int js[0]) (by rw[List.getElem?_map,hjn]; rfl)
  have hv:u=v:=by
   have:its2[0]? = some v:=by simpa using hP
   rw[hu] at this; exact Option.some.inj this
  subst hv
  obtain⟨t,rfl⟩:∃ t,u = .int js[0] t:=ru
  obtain⟨oI',hoI',hoc,hod⟩:=id hst'.1
  have I1:Inv X pins σ H { s with heap:=h',toks:=tk' }:=(J s.toks).turnedM mI fun b o hb e=>hk' b o (by simpa using hb) e
  have hS':=hk' _ _ (by simpa using hSI) gS
  have I2:Inv X ((_,seqObj "list" #[] 0) :: (s.heap.objs.size,oI') :: pins) σ H { s with heap:=h',toks:=tk' }:=
   (I1.pinM mI hoI' (fun v z=>by rw[hod] at z; cases z)).pinM (mS.cons hSI.symm) hS' (fun v z=>by cases z)
  show wpAny _ X.A.in1 (tryCatch (holding [.int js[0] t] (call (.ref f) [.int js[0] t])) _ >>= _) _ _ _
  refine wpAny_bind (wpAny_tryCatch (wpAny_holding (wpAny_mono (turn js[0] t _ [(_,seqObj "list" #[] 0),(s.heap.objs.size,oI')] (List.getElem_mem hne) I2) (fun x s'' he=>?_) fun _ _ hF=>hF.elim)))
  obtain⟨⟨t2,rfl⟩,J⟩:=he
  have nS2:=Inv.pinGet J
  have J1:Inv X ((s.heap.objs.size,oI') :: pins) σ H s'':=Inv.unpin J
  have nI2:s''.heap.get? s.heap.objs.size=some oI':=J1.pinGet
  have J2:Inv X pins σ H s'':=J1.unpin
  generalize (s.heap.push { cls:=.type "list_iterator",data:=.fields #[.ref l,.int 0 0] }).objs.size=S at *
  have s1:=Heap.SameBut.update s''.heap S (Obj.mapSeq fun _=>#[.int js[0] t,.int (kf js[0]) t2])
  obtain⟨c2,hc2⟩:∃ c2,(s''.heap.update S (Obj.mapSeq fun _=>#[.int js[0] t,.int (kf js[0]) t2])).get? S=some (seqObj "list" #[.int js[0] t,.int (kf js[0]) t2] c2):=⟨_,get?_update_seq nS2 fun _=>#[.int js[0] t,.int (kf js[0]) t2]⟩
  show wpAny _ X.A.in1 (updateSeq S (fun _=>#[.int js[0] t,.int (kf js[0]) t2]) >>= _) _ _ _
  refine wpAny_bind ?_
  refine wpAny_updateSeq nS2 rfl ?_
  rw[hname]
  refine wpAny_pure ⟨plainId_quiet PySem.F.plain_min_loop _,min_loop (kf:=kf) hh turn hl hlI hSI mS mI (fun i j t s' hj hb K=>?_) _ 0 0 js[0] t t2 c2 _ rfl hne (J2.turnedM (t':=s''.toks) mS fun b o hb e=>(s1.2 b hb).trans e) hc2 ⟨oI',(s1.2 _ hSI.symm).trans nI2,hoc,hod⟩ hjn fun j' a hj' ha=>?_⟩
  ·exact⟨.int j,H,K,⟨t,rfl⟩,q1 j (List.mem_of_getElem? hj) hb⟩
  ·have e:j'=0:=by omega
   subst e
   rw[hjn] at ha; cases ha; exact Int.le_refl _
end
end L2
namespace L2
open PySem PySem.Spec PyProof.Rows
open PySem.W (kla_fn kla_obj tabObj CodeHd envX)
def tMinL (K:PySem.W.Frag) (P:Addr) (t:TA):TE:=fun σ H Q=>t σ H fun vs H1=>∃ (u l:Addr) (xs js:List Int) (M:Hp),vs=[.ref l]∧σ[0]? = some (some (.ref u))∧SqL K H1 u (xs.map V.int)∧SqL K H1 l (js.map V.int)∧(∀ j∈js,0≤j∧j<xs.length)∧Same M H1∧TabOk P M H1 ∧
 ∀ H',Gr M H1 M H'→(js=[]→Q .non H')∧∀ j∈js,(∀ j'∈js,xs.getD j.toNat 0≤xs.getD j'.toNat 0)→Q (.int j) H'
def Pl (x:Str):Prop:=(x == ("__debug__" : Str))=false∧(x == ("__classdict__" : Str))=false
theorem atI_int {xs:List Int} {j:Int} (h0:0≤j) (h1:j<xs.length):atI (xs.map V.int) j=some (.int (xs.getD j.toNat 0)):=by
 obtain⟨n,rfl⟩:=Int.eq_ofNat_of_zero_le h0
 have hn:n<xs.length:=by omega
 refine atI_nat ?_
 rw[List.getElem?_map,List.getElem?_eq_getElem hn]
 simp[hn]
section
variable {X:Cx} {c P cc:Addr} {x y:Str} {params:Arguments} {scope:Scope} {ea:Expr} {ta:TA} {p0 p2 p3 p4 p5 p6 p7 p8 pos:Pos} {n:Nat}
theorem pe_minL (S:LamSc x y scope) (px:Pl x) (py:Pl y) (L:LamAt X.mg X.base c P) (hcode:X.env.code = .ref c) (hq:X.env.qual ++ "<lambda>" = lamQ) (hcl:closureFor scope X.env=pure [(y,cc)]) (hcc:X.env.cells.lookup y=some cc) (hk0:X.env.kindOf y=some .cell) (hN0:X.N[0]? = some y)
  (hdef:defaultsOf params X.env=([],[])) (hbind:∀ (pm ctv u:Value) (c':Addr),bindArgs (kla_fn "<lambda>" lamQ params (.Subscript (.Name y p5) (.Name x p6) p7) scope [(y,cc)] pm (.ref c') ctv) ⟨[u],[]⟩=pure [(x,u)])
  (hr:Room 1 X.A) (hg:Gl X "min") (hm:X.mg "min" = none) (ha:PA X [ea] ta) (he:starEach [ea] X.env=[(false,eval ea X.env)]:=by rfl) :
  PE X (.Call (.Name "min" p0) [ea] [⟨some "key",.Lambda params (.Subscript (.Name y p5) (.Name x p6) p7) scope p3,p2⟩,⟨some "default",.Constant .none n p4,p8⟩] pos) (tMinL X.K P ta):=by
 intro pins s σ H Q I h
 refine wpAny_Call_Name_kw (ld_blt I hg hm (u:=.builtin "min") rfl ?_ (by decide) (by decide))
 refine callWith_builtin_kwB ?e1 rfl ?_
 case e1=>rw[he]; rfl
 have hb:backTo pos (starEach [ea] X.env)=(false,eval ea X.env) :: backTo pos []:=by rw[he]; rfl
 have h1:=ha pos pins s σ H _ I h
 rw[hb] at h1 ⊢
 refine evalArgs_kwB rfl (thn h1 fun us s1 hs1=>?_)
 obtain⟨vs,H1,I1,r1,u,l,xs,js,M,rfl,hσ,hu,hl,hj,hM,T,k⟩:=hs1
 have hus:us=[.ref l]:=by
  cases r1 with
  | cons a b=>cases b; cases a; rfl
 subst hus
 refine kws_cons (make_lam I1 L hcode hq hcl hdef hM T fun f c' pm ctv H' s' g J hc=>?_)
 refine kws_cons (Constant_none ?_)
 refine kws_nil ?_
 obtain⟨o,vs,t,hc1,hc2,hc3⟩:=hc
 have hu':=g.hseq hu
 have hl':=g.hseq hl
 have hd:X.A.handled=none:=hr.hd
 have kq:=k H' g
 have turn:KeyR X σ H' f js (fun j=>xs.getD j.toNat 0) ((f,kla_obj "<lambda>" lamQ params (.Subscript (.Name y p5) (.Name x p6) p7) scope [(y,cc)] pm c' ctv) :: pins):=by
  intro j tj s own hj' J
  have ho:=(J.pin (f,kla_obj "<lambda>" lamQ params (.Subscript (.Name y p5) (.Name x p6) p7) scope [(y,cc)] pm c' ctv) (List.mem_append_right _ (List.mem_append_right _ List.mem_cons_self))).1
  have hcd:s.heap.CodeRec (.ref c') lamQ:=⟨c',o,vs,t,rfl,(J.hok c' _ hc1).1,hc2,hc3⟩
  obtain⟨m,hns,hlo⟩:=J.loc
  obtain⟨uy,ry,lk⟩:=hlo 0 y (.ref u) hN0 hσ (.inr (.inl hk0))
  have hcell:s.heap.IsCell cc (some uy):=by
   rcases lk with⟨z,_⟩ | ⟨_,c2,e2,z⟩
   ·rw[hk0] at z; cases z
   ·rw[hcc] at e2; cases e2; exact z
  obtain⟨h0,h1⟩:=hj j hj'
  refine wpAny_call (codeAny_mono (lam_run (CX:=CX0) (E:=fun _ _ _=>False) (Q:=fun v H2=>v = .int (xs.getD j.toNat 0)∧H2=H') (t:=tOp (rIxL X.K) (tVar 1) (tVar 0)) S (A:=X.A.in1) (by have:=hr.dp; show X.A.depth<_; omega) hd J.env0.in1 ho hcd (hbind _ _ _ _) (v:=.int j) ⟨tj,rfl⟩ ry hcell (J.freeC y cc hcc)
   (pe_ix (r:=rIxL X.K) ix_list (pv 1 (hN:=rfl) (hv:=?v1) (hd:=py.1) (hcd:=py.2)) (pv 0 (hN:=rfl) (hv:=?v2) (hd:=px.1) (hcd:=px.2)) (fun _ _=>rfl)) ⟨_,rfl,_,rfl,u,_,j,_,rfl,rfl,hu',atI_int h0 h1,rfl,rfl⟩) fun r s' hq=>?_)
  case v1=>
   refine .inr (.inr ?_)
   show scope.names.lookup y=some .free
   rw[S.nm,List.lookup_cons]
   have:(y == x)=false:=by simpa using S.ne.symm
   rw[this]; simp
  case v2=>
   refine .inl ?_
   show scope.names.lookup x=some .local
   rw[S.nm]; simp
  cases r with
  | error e=>exact False.elim hq
  | ok fl=>
   cases fl with
   | ret u=>
    obtain⟨v,H2,J2,rv,rfl,rfl⟩:=J.after hq
    exact⟨rv,J2⟩
   | next=>exact False.elim hq
   | brk=>exact False.elim hq
   | cont=>exact False.elim hq
 refine wpAny_mono (min_by (J.tok _) hd turn hl' (fun e=>kq.1 e) (fun j hj' hb=>kq.2 j hj' hb)) (fun u s' hs=>?_) fun _ _ z=>z
 obtain⟨v,H2,J2,r,q⟩:=hs
 exact⟨v,H2,J2.unpin,r,q⟩
end
end L2
namespace L2
open PySem PySem.Spec PyProof.Rows
open PySem.W (tabObj CodeHd)
def noM:Hp:=fun _=>none
theorem law_callT {P:Program} {w:World} {K:PySem.W.Frag} {mg mb:Str→Option Value} {CX:CXT} {k:Nat} {fa a c T:Addr} {fd:FuncData} {x:Str} {sp:Sp} {s₁:Shared} {vs:List Value} {ns:List Int}
  (KX:K.In s₁.heap) (hns:s₁.heap.Ns mainGlobals mg) (hb:s₁.heap.Ns builtinsNs mb) (hbb:∀ x:Str,x≠"__name__"→mb x=bootBuiltins x) (hlim:s₁.heap.NoLimit) (hg:s₁.gens = #[])
  (hC:CodeHd s₁.heap c T) (hT:s₁.heap.get? T=some (tabObj #[])) (hKT:K.lookup T=none) (hbm:∃ bm o,mg "__builtins__" = some (.ref bm)∧bm≠builtinsNs∧bm≠mainGlobals∧s₁.heap.get? bm=some o∧o.cls = .type "module"∧o.dict=some builtinsNs∧o.data = .plain)
  (ha:s₁.heap.get? a=some { cls:=.type "list",data:=.seq vs.toArray }) (hi:IntsAre vs ns) (hl:ns.length≤sizeLine) (hr:Room k callerA)
  (F:∀ base:Heap,K.In base→base.Ns mainGlobals mg→LamAt mg base c T→FnOk P w K mg base CX k fa fd [x] sp) (hbind:∀ (s:Shared) (u:Value),BindsTo s fd ⟨[u],[]⟩ [(x,u)])
  (hsp:∀ H:Hp,TabOk T noM H→SqL K H a (ns.map V.int)→sp [.ref a] H (fun v _=>v = .bl true) fun _ _ _=>False)
  (hCX:∀ H e s',CX [] H s₁ (fun _ _ _=>False) e s'→False) :
  codeAny (model P w) callerA (.call (.ref fa) ⟨[.ref a],[]⟩) (fun r s'=>r = .ok (.ret (.bool true))∧OldK s₁.heap s'.heap∧s'.os=s₁.os∧AllBare s'.gens) s₁:=by
 have rv:=vals_ints hi
 have lenV:=hi.length
 have aT:a≠T:=fun z=>by rw[z,hT] at ha; cases ha
 have core:∀ H:Hp,H T=some (.tbl #[])→(∀ b,b≠T→H b=none∨(b=a∧∃ o xs,H b=some (.frz o (.lst xs))))→SqL K H a (ns.map V.int)→HOk P w H s₁.heap→(H a≠none→K.lookup a=none) →
   codeAny (model P w) callerA (.call (.ref fa) ⟨[.ref a],[]⟩) (fun r s'=>r = .ok (.ret (.bool true))∧OldK s₁.heap s'.heap∧s'.os=s₁.os∧AllBare s'.gens) s₁:=by
  intro H hHT hO hS hok hK
  have base_of:∀ {b:Addr} {o:Obj},s₁.heap.get? b=some o→H b=none→(hidT s₁.heap H).get? b=some o:=fun e n=>hidT_get e n
  have nn:∀ {b:Addr} {o:Obj},s₁.heap.get? b=some o→o.cls≠.none→o.cls≠.type "list"→H b=none:=fun {b o} e h1 h2=>by
   by_cases hbT:b=T
   ·subst hbT; rw[hT] at e; cases e; exact absurd rfl h1
   ·rcases hO b hbT with z | ⟨z,_⟩
    ·exact z
    ·subst z; rw[ha] at e; cases e; exact absurd rfl h2
  have noA:∀ {b:Addr} {o:Obj} {es:Array DictEntry} {ep:Nat},s₁.heap.get? b=some o→o.data = .dict es ep→H b=none:=fun {b o es ep} e d=>by
   by_cases hbT:b=T
   ·subst hbT; rw[hT] at e; cases e; cases d
   ·rcases hO b hbT with z | ⟨z,_⟩
    ·exact z
    ·subst z
     rw[ha] at e; cases e
     have d':Data.seq vs.toArray _=Data.dict es ep:=d
     cases d'
  have nsK:∀ {b:Addr} {m:Str→Option Value},s₁.heap.Ns b m→(hidT s₁.heap H).Ns b m:=fun {b m} ⟨o,es,ep,e,d,r⟩=>⟨o,es,ep,base_of e (noA e d),d,r⟩
  have hKb:K.In (hidT s₁.heap H):=fun b o e=>base_of (KX b o e) (by
   by_cases hbT:b=T
   ·rw[hbT,hKT] at e; cases e
   ·rcases hO b hbT with z | ⟨z,ob,xs,z2⟩
    ·exact z
    ·subst z
     rw[hK (by rw[z2]; simp)] at e; cases e)
  have hM:Mod K mg (hidT s₁.heap H):=⟨hKb,nsK hns,⟨mb,nsK hb,hbb⟩,let ⟨mc,h1,h2⟩:=hlim; ⟨mc,nsK h1,h2⟩⟩
  have e0:Env0 P w K mg (hidT s₁.heap H) callerA [] s₁ H:=⟨rfl,hM,fun b o e=>of_hidT e,Nat.le_of_eq (hidT_size _ _),trivial,fun b hb=>absurd (show b∈([]:List Addr) from hb) (by simp),hok,.of_eq hg⟩
  have hL:LamAt mg (hidT s₁.heap H) c T:=by
   refine⟨?_,?_,?_⟩
   ·obtain⟨o,vs,file,tf,flags,tg,inF,text,tt,e,r,r'⟩:=hC
    exact⟨o,vs,file,tf,flags,tg,inF,text,tt,base_of e (nn e (by rw[r]; simp) (by rw[r]; simp)),r,r'⟩
   ·cases q:(hidT s₁.heap H).get? T with
    | none=>rfl
    | some o=>rw[(of_hidT q).2] at hHT; cases hHT
   ·obtain⟨bm,o,b1,b2,b3,b4,b5,r⟩:=hbm
    exact⟨bm,o,b1,b2,b3,base_of b4 (nn b4 (by rw[b5]; simp) (by rw[b5]; simp)),b5,r⟩
  have hTab:TabOk T noM H:=⟨rfl,#[],hHT,trivial,fun p cv e=>by cases e⟩
  refine codeAny_mono ((F _ hKb (nsK hns) hL).run callerA [] s₁ H ⟨[.ref a],[]⟩ [.ref a] [.ref a] _ _ hr e0 (hbind s₁ (.ref a)) (.cons rfl .nil) (hsp H hTab hS)) fun r s' h=>?_
  cases r with
  | error e=>exact (hCX H e s' h).elim
  | ok fl=>
   cases fl with
   | next=>exact False.elim h
   | brk=>exact False.elim h
   | cont=>exact False.elim h
   | ret u=>
    obtain⟨v,H',os,bare,un,hok',r',q⟩:=h
    have q':v = .bl true:=q
    subst q'
    obtain rfl:u=Value.bool true:=r'
    refine⟨rfl,⟨fun b o e=>?_,fun b o e=>un.there b o e (by simp)⟩,os,bare⟩
    by_cases hbT:b=T
    ·subst hbT
     rw[hT] at e; cases e
     obtain⟨more,z⟩:=un.tbls b _ hHT
     have z2:=hok' b _ z
     obtain⟨oc,vs,file,tf,flags,tg,inF,text,tt,e,r,r2,r3,_⟩:=hC
     exact .inr (.inl ⟨⟨c,oc,vs,e,r,r2,r3⟩,rfl,#[],more,rfl,z2⟩)
    ·refine .inl ?_
     rcases hO b hbT with z | ⟨_,ob,xs,z⟩
     ·exact un.keep b o e z (by intro z; exact absurd (show b∈([]:List Addr) from z) (by simp)) (by simp)
     ·have z2:=un.frzs b ob _ z
      obtain⟨e1,_⟩:=hok b _ z
      obtain⟨e2,_⟩:=hok' b _ z2
      rw[e] at e1; cases e1
      exact e2
 cases hk:K.lookup a with
 | some o=>
  have e:=KX a o hk
  rw[ha] at e
  cases e
  refine core (fun b=>if b=T then some (.tbl #[]) else none) (if_pos rfl) (fun b hb=>.inl (if_neg hb)) (.inr ⟨_,vs.toArray,_,hk,rfl,rfl,rfl,by rw[List.size_toArray,lenV]; exact hl,by simpa using rv⟩) (fun b u z=>?_) fun z=>absurd (if_neg aT) z
  by_cases hb:b=T
  ·have z':=(if_pos hb).symm.trans z
   cases z'
   subst hb
   exact hT
  ·have z':=(if_neg hb).symm.trans z
   cases z'
 | none=>
  refine core (fun b=>if b=T then some (.tbl #[]) else if b=a then some (.frz { cls:=.type "list",data:=.seq vs.toArray } (.lst (ns.map V.int))) else none) (if_pos rfl) (fun b hb=>?_) (.inl (.inr ⟨{ cls:=.type "list",data:=.seq vs.toArray },by show (if a=T then _ else _)=_; rw[if_neg aT,if_pos rfl]⟩)) (fun b u z=>?_) fun _=>hk
  ·by_cases hb2:b=a
   ·refine .inr ⟨hb2,{ cls:=.type "list",data:=.seq vs.toArray },ns.map V.int,?_⟩
    show (if b=T then _ else _)=_
    rw[if_neg hb,if_pos hb2]
   ·refine .inl ?_
    show (if b=T then _ else _)=_
    rw[if_neg hb,if_neg hb2]
  ·have z':(if b=T then some (.tbl #[]) else if b=a then some (HO.frz { cls:=.type "list",data:=.seq vs.toArray } (.lst (ns.map V.int))) else none)=some u:=z
   by_cases hb:b=T
   ·rw[if_pos hb] at z'
    cases z'
    subst hb
    exact hT
   ·rw[if_neg hb] at z'
    by_cases hb2:b=a
    ·rw[if_pos hb2] at z'
     cases z'
     subst hb2
     exact⟨ha,by rw[List.length_map]; exact hl,vs,_,rv,ha⟩
    ·rw[if_neg hb2] at z'; cases z'
theorem walk_ofT {l:PySem.W.OpenLaw} {n k:Nat} {q:Program} {loose:List Str} {XP:(Str→Option Value)→Heap→Prop} {YP:World→Heap→Prop} {d dl:DefRec} {K:Params→PySem.W.Frag} {CX:World→CXT} {sp:World→Addr→Sp} {x y:Str}
  (hn:l.most=some n) (hn2:n≤sizeLine) (hdf:d.params.defaults=[]) (hr:Room k callerA)
  (hrec:(recsOf q).find? (fun e=>e.name == y)=some dl)
  (hY:∀ (w:World) (h:Heap),YP w h→(K w.params).In h)
  (hK:∀ (w:World),PySem.W.noTabs (K w.params)=true)
  (F:∀ (w:World) (mg:Str→Option Value) (fa:Addr) (h:Heap),(K w.params).In h→h.Ns mainGlobals mg→mg d.name=some (.ref fa) →
   ∃ (c T:Addr) (fd:FuncData),PySem.W.tabIn (K w.params) y=some (c,T)∧(∀ (s:Shared) (u:Value),BindsTo s fd ⟨[u],[]⟩ [(x,u)]) ∧
    ∀ base:Heap,(K w.params).In base→base.Ns mainGlobals mg→LamAt mg base c T→FnOk l.prog w (K w.params) mg base (CX w) k fa fd [x] (sp w T))
  (hsp:∀ (w:World) (T:Addr) (H:Hp) (a:Addr) (ns:List Int),ns.length≤n→TabOk T noM H→SqL (K w.params) H a (ns.map V.int)→sp w T [.ref a] H (fun v _=>v = .bl true) fun _ _ _=>False)
  (hCX:∀ (w:World) (H:Hp) (s:Shared) (e:Value) (s':Shared),CX w [] H s (fun _ _ _=>False) e s'→False) :
  PySem.W.WalkO q loose XP YP l.row.toRowW d [] (fun f vs=>PySem.call f vs):=by
 refine Att.attach_call hn hdf fun w s₀ s₁ mg mb fa o pm cd doc a vs ns G Y ho hd hcd hmg hobj hints hlen hg=>?_
 have KX:=hY w _ Y
 obtain⟨c,T,fd,ht,hb,hF⟩:=F w mg fa _ KX G.T.g hmg
 obtain⟨hC,hT⟩:=PySem.W.tab_of G.T KX hrec ht
 have hKT:(K w.params).lookup T=none:=by
  cases z:(K w.params).lookup T with
  | none=>rfl
  | some oT=>
   have e:=KX _ _ z
   rw[hT] at e; cases e
   have h2:=List.all_eq_true.mp (hK w) (T,_) (PySem.W.mem_of_lookupK z)
   exact absurd (show false=true from h2) Bool.false_ne_true
 obtain⟨bm,ob,b1,b2,b3,b4,b5,b6⟩:=G.T.bmain
 have hbG:bm≠mainGlobals:=fun q=>by
  obtain⟨o,es,ep,e,hd,_⟩:=G.T.g
  rw[q,e] at b3; cases b3; rw[hd] at b6; cases b6
 exact law_callT KX G.T.g G.T.b G.T.builtins G.T.nolimit hg hC hT hKT ⟨bm,ob,b1,b2,hbG,b3,b4,b5,b6⟩ hobj hints (Nat.le_trans hlen hn2) hr hF hb (fun H hO hS=>hsp w T H a ns hlen hO hS) fun H e s'=>hCX w H s₁ e s'
end L2
namespace PySem
section
variable {prog:Program} {w:World} {A:Around} {E:Value→Shared→Prop} {s:Shared}
theorem F.plain_dz:plainId "dict.update.loop" = true:=by decide +kernel
theorem F.entry_dz:entryFor table "dict.update.loop" = some Builtin.«dict.update.loop» :=entryFor_of_fast (by kernel_rfl)
theorem wpAny_alive {M:Model} {a:Addr} {Q:Option Obj→Shared→Prop} (h:Q (s.heap.get? a) s):wpAny M A (loadIfAlive a) Q E s:=fun _ _ _=>h
abbrev IsZipF (h:Heap) (z TI TO T:Addr) (fl:Bool):Prop:=
 h.get? z=some { cls:=.type "zip",dict:=none,data:=.fields #[rawInt T,.bool fl,.bool false,.ref TI,.ref TO],slots:=#[] }
theorem zip_more_free {z TI TO T:Addr} {fl:Bool} {Q:Bool→Shared→Prop} (hz:IsZipF s.heap z TI TO T fl) (hT:∃ o,s.heap.get? T=some o)
  (hQ:∀ h',IsZipF h' z TI TO T true→(∀ c o,c≠z→s.heap.get? c=some o→h'.get? c=some o)→h'.objs.size=s.heap.objs.size→Q false { s with heap:=h' }) :
  wpAny (model prog w) A (Builtin.SmallTypes.ownedTupleIsFree (.ref z)) Q E s:=by
 unfold Builtin.SmallTypes.ownedTupleIsFree
 refine wpAny_bind (wpAny_field hz rfl (x:=rawInt T) rfl ?_)
 show wpAny _ _ (loadIfAlive (T:Int).toNat >>= _) _ _ _
 refine wpAny_bind (wpAny_alive ?_)
 obtain⟨o,ho⟩:=hT
 rw[show (T:Int).toNat=T from by simp,ho]
 show wpAny _ _ (do let c ← field (.ref z) 1; _) _ _ _
 refine wpAny_bind (wpAny_field hz rfl (x:=.bool fl) rfl ?_)
 cases fl with
 | true=>exact wpAny_pure (hQ s.heap hz (fun _ _ _ e=>e) rfl)
 | false=>
  refine wpAny_bind (wpAny_setField_rec hz (by simp) fun h₁ hz₁ hs₁=>wpAny_pure (hQ h₁ hz₁ (fun c o hc e=>hs₁.extBut _ _ hc e) hs₁.1))
theorem zip_more_item {z TI TO T i1 i2 l1 l2:Addr} {fl:Bool} {k1 k2:Nat} {xs ys:Array Value} {x y:Value} {Q:Value→Shared→Prop} (D:ZipApart z TI TO i1 i2 l1 l2)
  (hz:IsZipF s.heap z TI TO T fl) (hT:∃ o,s.heap.get? T=some o) (hTI:IsPair s.heap TI (.ref i1) (.ref i2))
  (h1:s.heap.IsListIter i1 l1 k1) (h2:s.heap.IsListIter i2 l2 k2) (hl1:s.heap.IsList l1 xs) (hl2:s.heap.IsList l2 ys) (hx:xs[k1]? = some x) (hy:ys[k2]? = some y)
  (hQ:∀ h',IsZipF h' z TI TO T true→h'.IsListIter i1 l1 (k1+1)→h'.IsListIter i2 l2 (k2+1)→IsPair h' s.heap.objs.size x y →
   (∀ c o,c≠z→c≠i1→c≠i2→s.heap.get? c=some o→h'.get? c=some o)→Q (.ref s.heap.objs.size) { s with heap:=h' }) :
  wpAny (model prog w) A (Builtin.«zip.__next__» ⟨[.ref z],[]⟩) (fun fin s'=>∃ v,fin = .done (.ret v)∧Q v s') E s:=by
 show wpAny _ _ (field (.ref z) 2 >>= _) _ _ _
 refine wpAny_bind (wpAny_field hz rfl (x:=.bool false) rfl ?_)
 show wpAny _ _ (field (.ref z) 3 >>= _) _ _ _
 refine wpAny_bind (wpAny_field hz rfl (x:=.ref TI) rfl ?_)
 refine wpAny_bind (wpAny_seqItems hTI rfl ?_)
 show wpAny _ _ (Builtin.SmallTypes.ownedTupleIsFree (.ref z) >>= _) _ _ _
 refine wpAny_bind (zip_more_free hz hT fun h₁ hz₁ hk₁ hs₁=>?_)
 simp only [Bool.false_eq_true,if_false]
 have e1:h₁.IsListIter i1 l1 k1:=h1.at fun o e=>hk₁ _ o D.i1z e
 have e2:h₁.IsListIter i2 l2 k2:=h2.at fun o e=>hk₁ _ o D.i2z e
 have e3:h₁.IsList l1 xs:=hl1.at fun o e=>hk₁ _ o D.l1z e
 have e4:h₁.IsList l2 ys:=hl2.at fun o e=>hk₁ _ o D.l2z e
 rw[← Array.forIn_toList]
 simp only [List.forIn_cons,List.forIn_nil]
 refine wpAny_bind (wpAny_bind (wpAny_bind (wpAny_holding ?_)))
 show wpAny _ _ (Builtin.SmallTypes.nextOf (.ref i1) >>= _) _ _ _
 refine wpAny_bind (wpAny_nextOf_list_item e1 e3 hx fun h₂ h1₂ hs₂=>wpAny_pure (wpAny_pure ?_))
 show wpAny _ _ _ _ _ _
 refine wpAny_bind (wpAny_bind (wpAny_holding ?_))
 show wpAny _ _ (Builtin.SmallTypes.nextOf (.ref i2) >>= _) _ _ _
 refine wpAny_bind (wpAny_nextOf_list_item (e2.extBut hs₂.extBut D.i12.symm) (e4.extBut hs₂.extBut D.l2i1) hy fun h₃ h2₃ hs₃=>wpAny_pure (wpAny_pure (wpAny_pure ?_)))
 refine wpAny_bind (wpAny_newTuple (hsz:=by show 2≤sizeLine; decide) (wpAny_pure ⟨_,rfl,?_⟩))
 have hsz:h₃.objs.size=s.heap.objs.size:=by rw[hs₃.1,hs₂.1,hs₁]
 show Q (.ref h₃.objs.size) _
 rw[hsz]
 have hk:∀ c o,c≠z→c≠i1→c≠i2→s.heap.get? c=some o→(h₃.push { cls:=.type "tuple",data:=.seq #[x,y] }).get? c=some o:=fun c o c1 c2 c3 e=>
  Heap.get?_push_of_some _ (hs₃.extBut _ _ c3 (hs₂.extBut _ _ c2 (hk₁ _ _ c1 e)))
 refine hQ _ (Heap.get?_push_of_some _ (hs₃.extBut _ _ D.i2z.symm (hs₂.extBut _ _ D.i1z.symm hz₁))) ((h1₂.extBut hs₃.extBut D.i12).at fun o e=>Heap.get?_push_of_some _ e) (h2₃.at fun o e=>Heap.get?_push_of_some _ e) ?_ hk
 have:=Heap.get?_push_size h₃ (o:={ cls:=.type "tuple",data:=.seq #[x,y] }) rfl
 rw[hsz] at this
 exact this
theorem zip_more_end {z TI TO T i1 i2 l1 l2:Addr} {fl:Bool} {k1 k2:Nat} {xs ys:Array Value} {Q:Fin→Shared→Prop} (hh:A.handled=none) (D:ZipApart z TI TO i1 i2 l1 l2)
  (hz:IsZipF s.heap z TI TO T fl) (hT:∃ o,s.heap.get? T=some o) (hTI:IsPair s.heap TI (.ref i1) (.ref i2))
  (h1:s.heap.IsListIter i1 l1 k1) (hl1:s.heap.IsList l1 xs) (hend:xs[k1]? = none)
  (hE:∀ h' e,(∀ c o,c≠z→c≠i1→c≠i2→s.heap.get? c=some o→h'.get? c=some o)→(∃ o,h'.get? e=some o∧o.cls = .type "StopIteration")→E (.ref e) { s with heap:=h' }) :
  wpAny (model prog w) A (Builtin.«zip.__next__» ⟨[.ref z],[]⟩) Q E s:=by
 show wpAny _ _ (field (.ref z) 2 >>= _) _ _ _
 refine wpAny_bind (wpAny_field hz rfl (x:=.bool false) rfl ?_)
 show wpAny _ _ (field (.ref z) 3 >>= _) _ _ _
 refine wpAny_bind (wpAny_field hz rfl (x:=.ref TI) rfl ?_)
 refine wpAny_bind (wpAny_seqItems hTI rfl ?_)
 show wpAny _ _ (Builtin.SmallTypes.ownedTupleIsFree (.ref z) >>= _) _ _ _
 refine wpAny_bind (zip_more_free hz hT fun h₁ hz₁ hk₁ hs₁=>?_)
 simp only [Bool.false_eq_true,if_false]
 rw[← Array.forIn_toList]
 simp only [List.forIn_cons,List.forIn_nil]
 refine wpAny_bind (wpAny_bind (wpAny_bind (wpAny_holding ?_)))
 show wpAny _ _ (Builtin.SmallTypes.nextOf (.ref i1) >>= _) _ _ _
 refine wpAny_bind (wpAny_nextOf_list_end hh (h1.at fun o e=>hk₁ _ o D.i1z e) (hl1.at fun o e=>hk₁ _ o D.l1z e) hend fun h₂ e hs₂ he=>?_)
 exact hE h₂ e (fun c o c1 c2 c3 x=>hs₂ _ _ c2 (hk₁ _ _ c1 x)) he
theorem wpAny_pyNext_zip_more {z TI TO T i1 i2 l1 l2:Addr} {fl:Bool} {k1 k2:Nat} {xs ys:Array Value} {x y:Value} {Q:Option Value→Shared→Prop} (D:ZipApart z TI TO i1 i2 l1 l2)
  (hz:IsZipF s.heap z TI TO T fl) (hT:∃ o,s.heap.get? T=some o) (hTI:IsPair s.heap TI (.ref i1) (.ref i2))
  (h1:s.heap.IsListIter i1 l1 k1) (h2:s.heap.IsListIter i2 l2 k2) (hl1:s.heap.IsList l1 xs) (hl2:s.heap.IsList l2 ys) (hx:xs[k1]? = some x) (hy:ys[k2]? = some y)
  (hQ:∀ h',IsZipF h' z TI TO T true→h'.IsListIter i1 l1 (k1+1)→h'.IsListIter i2 l2 (k2+1)→IsPair h' s.heap.objs.size x y →
   (∀ c o,c≠z→c≠i1→c≠i2→s.heap.get? c=some o→h'.get? c=some o)→Q (some (.ref s.heap.objs.size)) { s with heap:=h' }) :
  wpAny (model prog w) A (pyNext (.ref z)) Q E s:=by
 have hTy:s.TypeIs (.ref z) "zip" :=⟨_,hz,rfl⟩
 unfold pyNext
 exact wpAny_bind (wpAny_attempt (wpAny_callSpecial?_slot (name:=Str.ofString "__next__") hTy F.slot_zip_next
  (wpAny_call_entry F.slot_zip_next hTy F.entry_zip_next
   (zip_more_item D hz hT hTI h1 h2 hl1 hl2 hx hy fun h' a1 a2 a3 a4 a5=>wpAny_pure (hQ h' a1 a2 a3 a4 a5)) (F.args_zip_next_1 _))))
theorem wpAny_pyNext_zip_more_end {z TI TO T i1 i2 l1 l2:Addr} {fl:Bool} {k1 k2:Nat} {xs ys:Array Value} {Q:Option Value→Shared→Prop} (hh:A.handled=none) (D:ZipApart z TI TO i1 i2 l1 l2)
  (hz:IsZipF s.heap z TI TO T fl) (hT:∃ o,s.heap.get? T=some o) (hTI:IsPair s.heap TI (.ref i1) (.ref i2))
  (h1:s.heap.IsListIter i1 l1 k1) (hl1:s.heap.IsList l1 xs) (hend:xs[k1]? = none)
  (hQ:∀ h',(∀ c o,c≠z→c≠i1→c≠i2→s.heap.get? c=some o→h'.get? c=some o)→Q none { s with heap:=h' }):wpAny (model prog w) A (pyNext (.ref z)) Q E s:=by
 have hTy:s.TypeIs (.ref z) "zip" :=⟨_,hz,rfl⟩
 unfold pyNext
 refine wpAny_bind (wpAny_attempt (wpAny_callSpecial?_slot (name:=Str.ofString "__next__") hTy F.slot_zip_next
  (wpAny_call_entry F.slot_zip_next hTy F.entry_zip_next (zip_more_end (k2:=k2) (ys:=ys) hh D hz hT hTI h1 hl1 hend fun h' e hk he=>?_) (F.args_zip_next_1 _))))
 obtain⟨o,ho,hc⟩:=he
 refine wpAny_bind (wpAny_isInstance (T:="StopIteration") (b:=true) ⟨o,ho,hc⟩ isSubtype_stop ?_)
 exact wpAny_pure (hQ _ hk)
end
end PySem
namespace L2
open PySem PySem.Spec PyProof.Rows
theorem d_dictSet {X:Cx} {pins:List (Addr × Obj)} {σ:St} {H:Hp} {s:Shared} {a:Addr} {kvs:List (Key × V)} {k:Key} {v:V} {u r:Value} {A:Around} {E:Value→Shared→Prop} {Q:Unit→Shared→Prop} (I:Inv X pins σ H s) (e:H a=some (.dK kvs)) (l:kvs.length<sizeLine) (ry:RelV (kV k) u) (rv:RelV v r)
  (h:∀ h' t',Inv X pins σ (upd H a (.dK (putK kvs k v))) { s with heap:=h',toks:=t' }→Heap.SameBut a s.heap h'→Q () { s with heap:=h',toks:=t' }):wpAny (model X.prog X.w) A (dictSet a u r) Q E s:=by
 obtain⟨z,hd,vs,rel,dd⟩:=dk_of I.hok e
 have hz:vs.length≤sizeLine:=by rw[← rel.length]; exact z
 have hl:(putK kvs k v).length≤sizeLine:=by have:=length_putK kvs k v; omega
 refine wpAny_dictSet_pairs (hsz:=hz) (kV_is ry) dd fun h' dd' hs=>h _ _ ?_ hs
 have he:∃ q,h'.get? a=some q:=let ⟨q,_,_,hq,_⟩:=dd'; ⟨q,hq⟩
 exact d_write I (by rw[e]; exact True.intro) hs he (dk_new hl hd (rel.put k rv) dd')
def putAll:List Int→List V→List (Key × V)→List (Key × V)
 | k :: ks,y :: ys,m=>putAll ks ys (putK m (.inl k) y)
 | _,_,m=>m
theorem Mine.upd {X:Cx} {pins:List (Addr × Obj)} {H:Hp} {a d:Addr} {o:HO} (m:Mine X pins H a) (h:a≠d):Mine X pins (upd H d o) a:=⟨by rw[upd_ne h]; exact m.n,m.l,m.s,m.c,m.p,m.f⟩
theorem Mine.fp {X:Cx} {pins:List (Addr × Obj)} {H:Hp} {a:Addr} (m:Mine X pins H a):FpOk X pins H a:=⟨m.n,m.l,m.f,.inr m.s,m.c,m.p⟩
theorem putAll_len:∀ (ks:List Int) (ys:List V) (m:List (Key × V)),(putAll ks ys m).length≤m.length+ks.length
 | [],_,m=>by simp[putAll]
 | _ :: _,[],m=>by simp[putAll]
 | k :: ks,y :: ys,m=>by
  have h1:=putAll_len ks ys (putK m (.inl k) y)
  have h2:=length_putK m (.inl k:Key) y
  simp only [putAll,List.length_cons]; omega
section
variable {X:Cx} {pins:List (Addr × Obj)} {σ:St} {H:Hp} {d z TI TO T i1 i2 l1 l2:Addr} {ks:List Int} {ys:List V}
theorem dz_loop {R:Result→Shared→Prop} {M0:List (Key × V)} (hh:X.A.handled=none) (D:ZipApart z TI TO i1 i2 l1 l2) (hl1:SqL X.K H l1 (ks.map V.int)) (hl2:SqL X.K H l2 ys) (hlen:ks.length=ys.length) (hks:ks.length≤1000)
  (mz:Mine X pins H z) (m1:Mine X pins H i1) (m2:Mine X pins H i2) (hzd:z≠d) (h1d:i1≠d) (h2d:i2≠d) (hTId:TI≠d) (hl1d:l1≠d) (hl2d:l2≠d) (Tz:T≠z) (T1:T≠i1) (T2:T≠i2) (Td:T≠d)
  (hR:∀ s',Inv X pins σ (upd H d (.dK M0)) s'→R (.ok (.ret .none)) s') :
  ∀ (r i:Nat) (kvs:List (Key × V)) (fl:Bool) (s:Shared),ks.length-i=r→i≤ks.length→kvs.length≤i→putAll (ks.drop i) (ys.drop i) kvs=M0→Inv X pins σ (upd H d (.dK kvs)) s→IsZipF s.heap z TI TO T fl→(∃ o,s.heap.get? T=some o)→IsPair s.heap TI (.ref i1) (.ref i2) →
   s.heap.IsListIter i1 l1 i→s.heap.IsListIter i2 l2 i→codeAny (model X.prog X.w) X.A.in1 (.builtin "dict.update.loop" ⟨[.ref d,.ref z,rawInt i,.none],[]⟩) R s:=by
 have sq:∀ {a:Addr} {xs:List V} {o:HO},a≠d→SqL X.K H a xs→SqL X.K (upd H d o) a xs:=fun {a xs o} ha h=>by
  rcases h with (h | ⟨ob,h⟩) | h
  ·exact .inl (.inl (by rw[upd_ne ha]; exact h))
  ·exact .inl (.inr ⟨ob,by rw[upd_ne ha]; exact h⟩)
  ·exact .inr h
 intro r
 induction r with
 | zero=>
  intro i kvs fl s hr hi hkv hM I hz hT hTI h1 h2
  have hin:i=ks.length:=by omega
  obtain⟨its,rv,pl,_⟩:=I.list (sq hl1d hl1)
  have hsz:its.length=ks.length:=by have:=rv.length; simp at this; omega
  refine codeAny_builtin PySem.F.entry_dz ?_
  rw[Around.under_plainId PySem.F.plain_dz _]
  show wpAny _ X.A.in1.in1 (pyNext (.ref z) >>= _) _ _ _
  refine wpAny_bind (wpAny_pyNext_zip_more_end (k2:=i) (ys:=#[]) hh D hz hT hTI h1 pl.isList (by simp; omega) fun h' hk=>?_)
  show wpAny _ _ (Builtin.Dict.addKeywords d [] >>= _) _ _ _
  refine wpAny_bind (wpAny_pure (wpAny_pure (hR _ ?_)))
  have:kvs=M0:=by
   rw[List.drop_eq_nil_of_le (by omega)] at hM
   cases hd:ys.drop i <;> simpa [putAll,hd] using hM
  rw[← this]
  refine I.turnedL (t':=s.toks) (ch:=[z,i1,i2]) (fun c o hc e=>?_) fun b hb=>?_
  ·simp only [List.mem_cons,List.not_mem_nil,or_false,not_or] at hc
   exact hk c o hc.1 hc.2.1 hc.2.2 e
  ·simp only [List.mem_cons,List.not_mem_nil,or_false] at hb
   rcases hb with rfl | rfl | rfl
   ·exact (mz.upd hzd).fp
   ·exact (m1.upd h1d).fp
   ·exact (m2.upd h2d).fp
 | succ r ih=>
  intro i kvs fl s hr hi hkv hM I hz hT hTI h1 h2
  have hlt:i<ks.length:=by omega
  have hlt2:i<ys.length:=by omega
  obtain⟨its,rv,pl,_⟩:=I.list (sq hl1d hl1)
  obtain⟨its2,rv2,pl2,_⟩:=I.list (sq hl2d hl2)
  obtain⟨u,hu,ru⟩:=rv.get (i:=i) (x:=.int ks[i]) (by rw[List.getElem?_map,List.getElem?_eq_getElem hlt]; rfl)
  obtain⟨u2,hu2,ru2⟩:=rv2.get (i:=i) (x:=ys[i]) (List.getElem?_eq_getElem hlt2)
  refine codeAny_builtin PySem.F.entry_dz ?_
  rw[Around.under_plainId PySem.F.plain_dz _]
  show wpAny _ X.A.in1.in1 (pyNext (.ref z) >>= _) _ _ _
  refine wpAny_bind (wpAny_pyNext_zip_more D hz hT hTI h1 h2 pl.isList pl2.isList (x:=u) (y:=u2) (by simpa using hu) (by simpa using hu2) fun h' hz' a1 a2 hp hk=>?_)
  have I1:Inv X pins σ (upd H d (.dK kvs)) { s with heap:=h',toks:=s.toks }:=by
   refine I.turnedL (t':=s.toks) (ch:=[z,i1,i2]) (fun c o hc e=>?_) fun b hb=>?_
   ·simp only [List.mem_cons,List.not_mem_nil,or_false,not_or] at hc
    exact hk c o hc.1 hc.2.1 hc.2.2 e
   ·simp only [List.mem_cons,List.not_mem_nil,or_false] at hb
    rcases hb with rfl | rfl | rfl
    ·exact (mz.upd hzd).fp
    ·exact (m1.upd h1d).fp
    ·exact (m2.upd h2d).fp
  refine wpAny_bind (wpAny_holding (wpAny_bind (wpAny_tryCatch ?_)))
  show wpAny _ _ (Builtin.Dict.pairItems (.ref s.heap.objs.size)) _ _ _
  unfold Builtin.Dict.pairItems
  refine wpAny_bind (wpAny_typeOf (T:="tuple") ⟨_,hp,rfl⟩ ?_)
  rw[if_pos (by decide)]
  refine wpAny_bind (wpAny_seqItems hp rfl (wpAny_pure ?_))
  show wpAny _ _ (holding [u,u2] (dictSet d u u2)) _ _ _
  have hsl:kvs.length<sizeLine:=small1000 (by omega)
  refine wpAny_holding (d_dictSet I1 upd_same hsl (k:=.inl ks[i]) (v:=ys[i]) ru ru2 fun h'' t' I2 hs=>?_)
  rw[upd_upd] at I2
  obtain⟨oT,hoT⟩:=hT
  refine wpAny_pure ⟨plainId_quiet PySem.F.plain_dz _,?_⟩
  refine ih (i+1) _ true _ (by omega) hlt (by have:=length_putK kvs (.inl ks[i]:Key) ys[i]; omega) ?_ I2 ((hs.2 _ hzd).trans hz') ⟨oT,(hs.2 _ Td).trans (hk _ _ Tz T1 T2 hoT)⟩ ((hs.2 _ hTId).trans (hk _ _ D.TIz D.TIi1 D.TIi2 hTI)) (a1.at fun o e=>(hs.2 _ h1d).trans e) (a2.at fun o e=>(hs.2 _ h2d).trans e)
  rw[List.drop_eq_getElem_cons hlt,List.drop_eq_getElem_cons hlt2] at hM
  exact hM
end
end L2
namespace PySem
theorem am_zip_getattr_none:typeLookup (.type "zip") "__getattr__" = pure none:=am_miss_of_fast (by decide +kernel)
theorem am_zip_keys_none:typeLookup (.type "zip") "keys" = pure none:=am_miss_of_fast (by decide +kernel)
theorem am_entry_zip_getattribute:entryFor table "zip.__getattribute__" = some Builtin.«object.__getattribute__» :=
 entryFor_alias (id':="object.__getattribute__") (by kernel_rfl) (by decide +kernel) (by decide +kernel) (by kernel_rfl)
theorem meets_getattribute_miss_zip (a:Addr) (vs:Array Value) (sl:Array (Option Value)) (name:Str) (u:Tok) (hmiss:typeLookup (.type "zip") name=pure none) (hname:(["__module__","__name__","__qualname__","__doc__","__annotations__"]:List Str).contains name=false) (hsz:name.length+100≤sizeLine:=by size_fits) :
  Meets (Builtin.«object.__getattribute__» ⟨[.ref a,.str name u],[]⟩) (fun A R s=>s.heap.get? a=some { cls:=.type "zip",dict:=none,data:=.fields vs,slots:=sl }∧raisesAttr (.ref a) name A R s):=
 Meets.of_wp fun prog w A R s hs=>by
  obtain⟨hp,g,d,tk,os⟩:=s
  obtain⟨hx,hs⟩:=hs
  have hT:(⟨hp,g,d,tk,os⟩:Shared).TypeIs (.ref a) "zip" :=⟨_,hx,rfl⟩
  unfold Builtin.«object.__getattribute__»
  repeat (any_goals (first | assumption | wp_step))
  simp only [hname,Bool.false_eq_true,if_false]
  repeat (any_goals (first | assumption | wp_step))
  exact wpAny_raiseAttrError hs.1 hs.2 (attrMsg_fits (by decide +kernel) hsz)
theorem zip_no_keys {prog:Program} {w:World} {A:Around} {E:Value→Shared→Prop} {s:Shared} {a:Addr} {vs:Array Value} {sl:Array (Option Value)} {Q:Option Value→Shared→Prop}
  (hx:s.heap.get? a=some { cls:=.type "zip",dict:=none,data:=.fields vs,slots:=sl }) (hA:A.handled=none)
  (h:∀ h' tk,(∀ b o,s.heap.get? b=some o→h'.get? b=some o)→Q none { s with heap:=h',toks:=tk }) :
  wpAny (model prog w) A (getAttr? (.ref a) "keys") Q E s:=by
 obtain⟨hp,g,d,tk,os⟩:=s
 have hT:∀ tk',(⟨hp,g,d,tk',os⟩:Shared).TypeIs (.ref a) "zip" :=fun _=>⟨_,hx,rfl⟩
 have f1:=sub_AttributeError
 have f3:=F.slot_zip_getattribute.lookup
 have f4:=F.slot_zip_getattribute.bind (.ref a)
 have f5:=am_zip_getattr_none
 unfold getAttr? getAttrBy? getAttrBy
 repeat (any_goals (first | assumption | exact hT _ | ((with_reducible show wpAny _ _ (call (Value.builtin "zip.__getattribute__") _ _) _ _ _); refine call_meets F.slot_zip_getattribute (hT _) am_entry_zip_getattribute (F.args_zip_getattribute_2 _ _) (meets_getattribute_miss_zip a vs sl "keys" _ am_zip_keys_none (by decide +kernel) (by decide +kernel)) ⟨hx,hA,fun h' tk' e hx'=>?_⟩) | wp_step))
 obtain⟨t',u',he⟩:=hx'.there
 show wpAny _ _ (getattributeRaised _ _ _ _ _ _ _) _ _ _
 unfold getattributeRaised
 repeat (any_goals (first | assumption | wp_step))
 exact h _ _ hx'.keeps
end PySem
namespace L2
open PySem PySem.Spec PyProof.Rows
section
variable {X:Cx} {pins:List (Addr × Obj)} {σ:St} {H:Hp} {l1 l2 i1 i2 TI TO z:Addr} {ks:List Int} {ys:List V} {s:Shared} {Q:VK}
theorem call_dz (hh:X.A.handled=none) (I:Inv X pins σ H s) (D:ZipApart z TI TO i1 i2 l1 l2) (hl1:SqL X.K H l1 (ks.map V.int)) (hl2:SqL X.K H l2 ys) (hlen:ks.length=ys.length) (hks:ks.length≤1000)
  (mz:Mine X pins H z) (m1:Mine X pins H i1) (m2:Mine X pins H i2) (mO:Mine X pins H TO) (hz:IsZip s.heap z TI TO .none) (hTI:IsPair s.heap TI (.ref i1) (.ref i2)) (hTO:∃ a b,IsPair s.heap TO a b) (h1:s.heap.IsListIter i1 l1 0) (h2:s.heap.IsListIter i2 l2 0)
  (q:∀ p,H p=none→Q (.ref p) (upd H p (.dK (putAll ks ys [])))):wpAny (model X.prog X.w) X.A (call (.type "dict") [.ref z]) (EP X pins σ Q) X.xe s:=by
 refine callType_codes (Q₁:=fun obj s₁=>obj = .ref s.heap.objs.size∧s₁={ s with heap:=s.heap.push { cls:=.type "dict",data:=.dict #[] } }) F.kt_called_dict (F.kt_typeCall_dict_1 _) F.entry_dict_init (kt_code_dict_new _ ⟨rfl,rfl⟩) ?_
 rintro obj s₁ ⟨rfl,rfl⟩
 have hnew:(s.heap.push { cls:=.type "dict",data:=.dict #[] }).DictOf (mixKind X.prog X.w) s.heap.objs.size []:=Heap.DictOf.new s.heap
 have hnS:(s.heap.objs.size == sysModules)=false:=by
  have:=I.big
  have:s.heap.objs.size≠sysModules:=Nat.ne_of_gt this
  simpa using this
 have hfree:H s.heap.objs.size=none:=I.hok.fresh (Nat.le_refl _)
 have pk:∀ b u,s.heap.get? b=some u→(s.heap.push { cls:=.type "dict",data:=.dict #[] }).get? b=some u:=fun b u e=>Heap.get?_push_of_some _ e
 have I0:∀ tk,Inv X pins σ (upd H s.heap.objs.size (.dK [])) { s with heap:=s.heap.push { cls:=.type "dict",data:=.dict #[] },toks:=tk }:=fun tk=>I.laid pk (Nat.le_refl _) (dk_new (Nat.zero_le _) hnS .nil hnew)
 refine⟨hnew.typeIs,F.args_dict_init_2 _ _,?_⟩
 unfold Builtin.«dict.__init__»
 refine wpAny_bind ?_
 unfold Builtin.Dict.selfAndRest
 refine wpAny_bind (wpAny_notOrdered_dict hnew.typeIs ?_)
 show wpAny _ _ (pure (s.heap.objs.size,[Value.ref z])) _ _ _
 refine wpAny_pure ?_
 show wpAny _ _ (Builtin.Dict.updateFrom "dict.__init__" s.heap.objs.size (.ref z) [] .none) _ _ _
 unfold Builtin.Dict.updateFrom
 have hz0:=pk _ _ hz
 refine wpAny_bind (wpAny_typeOf (T:="zip") ⟨_,hz0,rfl⟩ ?_)
 rw[if_pos (by decide)]
 refine wpAny_bind (zip_no_keys hz0 hh fun h' tk hk=>?_)
 simp only [Option.isNone_none,if_true]
 refine wpAny_bind (wpAny_rule ?_)
 refine wpAny_bind (wpAny_pyIter_zip (hk _ _ hz0) (wpAny_pure ⟨plainId_quiet PySem.F.plain_dz _,?_⟩))
 have I1:Inv X pins σ (upd H s.heap.objs.size (.dK [])) { s with heap:=h',toks:=tk }:=(I0 s.toks).kept (t':=tk) hk
 have kk:∀ b u,s.heap.get? b=some u→h'.get? b=some u:=fun b u e=>hk _ _ (pk _ _ e)
 generalize hd:s.heap.objs.size=d at *
 have lt_of:∀ {b:Addr} {o:Obj},s.heap.get? b=some o→b≠d:=fun {b o} e=>Nat.ne_of_lt (by rw[← hd]; exact Heap.lt_size e)
 have hzd:z≠d:=lt_of hz
 have hTId:TI≠d:=lt_of hTI
 have h1d:i1≠d:=let ⟨_,e,_⟩:=h1; lt_of e
 have h2d:i2≠d:=let ⟨_,e,_⟩:=h2; lt_of e
 obtain⟨a0,b0,hTO⟩:=hTO
 have hTOd:TO≠d:=lt_of hTO
 obtain⟨its0,_,pl0,_⟩:=I.list hl1
 obtain⟨its00,_,pl00,_⟩:=I.list hl2
 have hl1d:l1≠d:=let ⟨_,e,_⟩:=pl0.isList; lt_of e
 have hl2d:l2≠d:=let ⟨_,e,_⟩:=pl00.isList; lt_of e
 have sq:∀ {a:Addr} {xs:List V} {o:HO},a≠d→SqL X.K H a xs→SqL X.K (upd H d o) a xs:=fun {a xs o} ha h=>by
  rcases h with (h | ⟨ob,h⟩) | h
  ·exact .inl (.inl (by rw[upd_ne ha]; exact h))
  ·exact .inl (.inr ⟨ob,by rw[upd_ne ha]; exact h⟩)
  ·exact .inr h
 obtain⟨its,rv,pl,_⟩:=I1.list (sq hl1d hl1)
 obtain⟨its2,rv2,pl2,_⟩:=I1.list (sq hl2d hl2)
 have hR:∀ s',Inv X pins σ (upd H d (.dK (putAll ks ys []))) s'→wants (fun r s₂=>r = .none∧EP X pins σ Q (.ref d) s₂) X.xe (.ok (.ret .none)) s':=fun s' J=>⟨rfl,.ref d,_,J,rfl,q d hfree⟩
 refine codeAny_builtin PySem.F.entry_dz ?_
 rw[Around.under_plainId PySem.F.plain_dz _]
 show wpAny _ X.A.in1.in1 (pyNext (.ref z) >>= _) _ _ _
 have turned:∀ {kvs:List (Key × V)} {h2:Heap} {s3:Shared},Inv X pins σ (upd H d (.dK kvs)) s3→(∀ c o,c≠z→c≠TO→c≠i1→c≠i2→s3.heap.get? c=some o→h2.get? c=some o)→Inv X pins σ (upd H d (.dK kvs)) { s3 with heap:=h2,toks:=s3.toks }:=fun {kvs h2 s3} J hk=>by
  refine J.turnedL (t':=s3.toks) (ch:=[z,TO,i1,i2]) (fun c o hc e=>?_) fun b hb=>?_
  ·simp only [List.mem_cons,List.not_mem_nil,or_false,not_or] at hc
   exact hk c o hc.1 hc.2.1 hc.2.2.1 hc.2.2.2 e
  ·simp only [List.mem_cons,List.not_mem_nil,or_false] at hb
   rcases hb with rfl | rfl | rfl | rfl
   ·exact (mz.upd hzd).fp
   ·exact (mO.upd hTOd).fp
   ·exact (m1.upd h1d).fp
   ·exact (m2.upd h2d).fp
 by_cases hne:ks=[]
 ·subst hne
  refine wpAny_bind (wpAny_pyNext_zip_end (a:=a0) (b:=b0) hh D (kk _ _ hz) (kk _ _ hTI) (kk _ _ hTO) (h1.at fun o e=>kk _ o e) (h2.at fun o e=>kk _ o e) pl.isList pl2.isList (.inl (by cases rv; rfl)) fun hb2 hk2=>?_)
  show wpAny _ _ (Builtin.Dict.addKeywords d [] >>= _) _ _ _
  exact wpAny_bind (wpAny_pure (wpAny_pure (hR _ (turned I1 hk2))))
 ·have hlt:0<ks.length:=List.length_pos_iff.mpr hne
  have hlt2:0<ys.length:=by omega
  obtain⟨u,hu,ru⟩:=rv.get (i:=0) (x:=.int ks[0]) (by rw[List.getElem?_map,List.getElem?_eq_getElem hlt]; rfl)
  obtain⟨u2,hu2,ru2⟩:=rv2.get (i:=0) (x:=ys[0]) (List.getElem?_eq_getElem hlt2)
  refine wpAny_bind (wpAny_pyNext_zip_item (a:=a0) (b:=b0) (s:={ s with heap:=h',toks:=tk }) D (kk _ _ hz) (kk _ _ hTI) (kk _ _ hTO) (h1.at fun o e=>kk _ o e) (h2.at fun o e=>kk _ o e) pl.isList pl2.isList (x:=u) (y:=u2) (by simpa using hu) (by simpa using hu2) fun hb2 hz2 hTO2 a1 a2 hp hsz2 hk2=>?_)
  have I2:=turned I1 hk2
  refine wpAny_bind (wpAny_holding (wpAny_bind (wpAny_tryCatch ?_)))
  show wpAny _ _ (Builtin.Dict.pairItems (.ref h'.objs.size)) _ _ _
  unfold Builtin.Dict.pairItems
  refine wpAny_bind (wpAny_typeOf (T:="tuple") ⟨_,hp,rfl⟩ ?_)
  rw[if_pos (by decide)]
  refine wpAny_bind (wpAny_seqItems hp rfl (wpAny_pure ?_))
  show wpAny _ _ (holding [u,u2] (dictSet d u u2)) _ _ _
  refine wpAny_holding (d_dictSet I2 upd_same (by decide) (k:=.inl ks[0]) (v:=ys[0]) ru ru2 fun h3 t3 I3 hs=>?_)
  rw[upd_upd] at I3
  refine wpAny_pure ⟨plainId_quiet PySem.F.plain_dz _,?_⟩
  have dl:d<h'.objs.size:=by
   have:=Heap.lt_size (hk d _ (by rw[← hd]; exact Heap.get?_push_size _ rfl))
   exact this
  have big:∀ {b:Addr} {o:Obj},s.heap.get? b=some o→h'.objs.size≠b:=fun {b o} e=>Nat.ne_of_gt (Heap.lt_size (kk _ _ e))
  have Tz:h'.objs.size≠z:=big hz
  have T1:h'.objs.size≠i1:=let ⟨_,e,_⟩:=h1; big e
  have T2:h'.objs.size≠i2:=let ⟨_,e,_⟩:=h2; big e
  have Td:h'.objs.size≠d:=Nat.ne_of_gt dl
  refine dz_loop (M0:=putAll ks ys []) hh D hl1 hl2 hlen hks mz m1 m2 hzd h1d h2d hTId hl1d hl2d Tz T1 T2 Td hR (ks.length-1) 1 (putK [] (.inl ks[0]) ys[0]) false _ rfl hlt ?_ ?_ I3 ((hs.2 _ hzd).trans hz2) ⟨_,(hs.2 _ Td).trans hp⟩ ((hs.2 _ hTId).trans (hk2 _ _ D.TIz D.TITO D.TIi1 D.TIi2 (kk _ _ hTI))) (a1.at fun o e=>(hs.2 _ h1d).trans e) (a2.at fun o e=>(hs.2 _ h2d).trans e)
  ·exact length_putK [] (.inl ks[0]:Key) ys[0]
  ·obtain⟨k0,kr,rfl⟩:=List.exists_cons_of_ne_nil hne
   obtain⟨y0,yr,rfl⟩:=List.exists_cons_of_ne_nil (List.length_pos_iff.mp hlt2)
   rfl
end
def tDz (K:PySem.W.Frag) (t:TA):TE:=fun σ H Q=>t σ H fun vs H1=>∃ a b ks ys,vs=[.ref a,.ref b]∧SqL K H1 a (ks.map V.int)∧SqL K H1 b ys∧ks.length=ys.length∧ks.length≤1000∧∀ p,H1 p=none→Q (.ref p) (upd H1 p (.dK (putAll ks ys [])))
section
variable {X:Cx} {a b:Expr} {ta:TA} {p0 p1 pz pos:Pos}
theorem pe_dz (hr:X.A.handled=none) (hgd:Gl X "dict") (hmd:X.mg "dict" = none) (hgz:Gl X "zip") (hmz:X.mg "zip" = none) (ha:PA X [a,b] ta) (hs:starEach [a,b] X.env=[(false,eval a X.env),(false,eval b X.env)]:=by rfl) (hs2:starEach [b] X.env=[(false,eval b X.env)]:=by rfl)
  (hs3:starEach [.Call (.Name "zip" p1) [a,b] [] pz] X.env=[(false,eval (.Call (.Name "zip" p1) [a,b] [] pz) X.env)]:=by rfl) :
  PE X (.Call (.Name "dict" p0) [.Call (.Name "zip" p1) [a,b] [] pz] [] pos) (tDz X.K ta):=by
 intro pins s σ H Q I h
 refine Call_ (ld_blt I hgd hmd boot_dict (PyProof.Rows.callWith_type1 ?_ hs3 rfl))
 rw[hs3]
 show wpAny _ _ (spliced ((false,eval (.Call (.Name "zip" p1) [a,b] [] pz) X.env) :: [])) _ _ _
 refine Calls.spliced_cons ?_
 refine Call_ (ld_blt I hgz hmz boot_zip (PyProof.Rows.callWith_type1 (thn (ha pz pins s σ H _ I h) fun us s1 hs1=>?_) (by rw[hs,hs2]) (by rw[hs2]; rfl)))
 obtain⟨vs,H1,I1,r1,l1,l2,ks,ys,e,h1,h2,hlen,hks,q⟩:=hs1
 subst e
 cases r1 with
 | cons r rr=>
  cases rr with
  | cons r' rr=>
   cases rr
   cases (show _=Value.ref l1 from r)
   cases (show _=Value.ref l2 from r')
   obtain⟨its,rv,p1,_⟩:=I1.list h1
   obtain⟨its2,rv2,p2,_⟩:=I1.list h2
   have a1:l1<s1.heap.objs.size:=by obtain⟨_,e,_⟩:=p1.isList; exact Heap.lt_size e
   have a2:l2<s1.heap.objs.size:=by obtain⟨_,e,_⟩:=p2.isList; exact Heap.lt_size e
   refine call_zip_2 p1.isList p2.isList fun h' hz hTI hTO hi1 hi2 hsz hk=>?_
   refine Calls.spliced_nil ?_
   have mine:∀ n,Mine X pins H1 (s1.heap.objs.size+n):=fun n=>I1.mine (Nat.le_add_right _ n)
   exact call_dz hr (I1.kept (t':=s1.toks) hk) (zipApart_new a1 a2) h1 h2 hlen hks (mine 4) (mine 0) (mine 1) (mine 3) hz hTI ⟨_,_,hTO⟩ hi1 hi2 q
end
end L2
namespace L2
open PySem PySem.Spec PyProof.Rows
theorem vals_ix:∀ {xs:List V} {us:List Value},xs.length=us.length→(∀ (j:Nat) x u,xs[j]? = some x→us[j]? = some u→RelV x u)→Vals xs us
 | [],[],_,_=>.nil
 | x :: xs,u :: us,hl,h=>.cons (h 0 x u rfl rfl) (vals_ix (by simpa using hl) fun j a b ha hb=>h (j+1) a b (by simpa using ha) (by simpa using hb))
 | [],_ :: _,hl,_=>by simp at hl
 | _ :: _,[],hl,_=>by simp at hl
def rgI (lo:Int) (n:Nat):List Int:=(List.range n).map fun i=>lo+(i:Nat)
section
variable {X:Cx} {a b:Expr} {ta:TA} {p0 p1 pz pos:Pos}
theorem list_rng {pins:List (Addr × Obj)} {σ:St} {H:Hp} {s:Shared} {Q:VK} {lo hi:Int} {t u v:Tok} {tk:Nat} (I:Inv X pins σ H s) (hh:X.A.handled=none) (h1 : -(2 ^ 62)≤lo) (h2:lo<2 ^ 62) (h3 : -(2 ^ 62)≤hi) (h4:hi<2 ^ 62) (h5:(hi-lo).toNat≤1000)
  (q:∀ p,H p=none→Q (.ref p) (upd H p (.lst ((rgI lo (hi-lo).toNat).map V.int)))) :
  wpAny (model X.prog X.w) X.A (call (.type "list") [.ref s.heap.objs.size]) (EP X pins σ Q) X.xe { s with heap:=s.heap.push { cls:=.type "range",data:=.fields #[.int lo t,.int hi u,.int 1 v] },toks:=tk }:=by
 have I1:Inv X pins σ H { s with heap:=s.heap.push { cls:=.type "range",data:=.fields #[.int lo t,.int hi u,.int 1 v] },toks:=tk }:=I.kept fun b o e=>Heap.get?_push_of_some _ e
 refine call_list_range (n:=(hi-lo).toNat) hh (IsRange.new ..) (small_one h1 h2 h3 h4) (by rw[rangeSize_one]; split <;> omega) (Nat.le_trans h5 (by decide)) fun h' tk' acc c' hk hS hacc=>?_
 refine⟨.ref _,_,I1.laid (t':=tk') hk (Nat.le_refl _) (show ObjOk X.prog X.w _ h' _ (.lst ((rgI lo (hi-lo).toNat).map V.int)) from ⟨?_,acc.toList,c',?_,by simpa using hS⟩),rfl,q _ (I1.hok.fresh (Nat.le_refl _))⟩
 ·exact Nat.le_of_lt (small1000 (by unfold rgI; simpa using h5))
 ·obtain⟨hn,hv⟩:=hacc
  refine vals_ix (by unfold rgI; simpa using hn.symm) fun j x u hx hu=>?_
  have hj:=(List.getElem?_eq_some_iff.mp hx).1
  rw[List.length_map,rgI,List.length_map,List.length_range] at hj
  rw[rgI,List.map_map,List.getElem?_map,List.getElem?_range hj] at hx
  obtain⟨t',e⟩:=hv j u (by simpa using hu)
  cases hx
  exact⟨t',by rw[e]; simp⟩
def tLr (t:TA):TE:=fun σ H Q=>t σ H fun vs H1=>∃ j:Int,vs=[.int j]∧-1000≤j∧j≤1000∧∀ p,H1 p=none→Q (.ref p) (upd H1 p (.lst ((rgI 0 j.toNat).map V.int)))
def tLr2 (t:TA):TE:=fun σ H Q=>t σ H fun vs H1=>∃ i j:Int,vs=[.int i,.int j]∧-1000≤i∧i≤1000∧-1000≤j∧j≤1000∧(j-i).toNat≤1000∧∀ p,H1 p=none→Q (.ref p) (upd H1 p (.lst ((rgI i (j-i).toNat).map V.int)))
theorem pe_lr1 (hr:X.A.handled=none) (hgl:Gl X "list") (hml:X.mg "list" = none) (hgr:Gl X "range") (hmr:X.mg "range" = none) (ha:PA X [a] ta) (hs:starEach [a] X.env=[(false,eval a X.env)]:=by rfl)
  (hs3:starEach [.Call (.Name "range" p1) [a] [] pz] X.env=[(false,eval (.Call (.Name "range" p1) [a] [] pz) X.env)]:=by rfl) :
  PE X (.Call (.Name "list" p0) [.Call (.Name "range" p1) [a] [] pz] [] pos) (tLr ta):=by
 intro pins s σ H Q I h
 refine Call_ (ld_blt I hgl hml boot_list (PyProof.Rows.callWith_type1 ?_ hs3 rfl))
 rw[hs3]
 show wpAny _ _ (spliced ((false,eval (.Call (.Name "range" p1) [a] [] pz) X.env) :: [])) _ _ _
 refine Calls.spliced_cons ?_
 refine Call_ (ld_blt I hgr hmr boot_range (PyProof.Rows.callWith_type1 (thn (ha pz pins s σ H _ I h) fun us s1 hs1=>?_) hs rfl))
 obtain⟨vs,H1,I1,r1,j,e,q1,q2,q⟩:=hs1
 subst e
 cases r1 with
 | cons r rr=>
  cases rr
  obtain⟨t,rfl⟩:=r
  refine call_range_1 (Calls.spliced_nil ?_)
  exact list_rng I1 hr (by omega) (by omega) (by omega) (by omega) (by omega) (by simpa using q)
theorem pe_lr2 (hr:X.A.handled=none) (hgl:Gl X "list") (hml:X.mg "list" = none) (hgr:Gl X "range") (hmr:X.mg "range" = none) (ha:PA X [a,b] ta) (hs:starEach [a,b] X.env=[(false,eval a X.env),(false,eval b X.env)]:=by rfl) (hs2:starEach [b] X.env=[(false,eval b X.env)]:=by rfl)
  (hs3:starEach [.Call (.Name "range" p1) [a,b] [] pz] X.env=[(false,eval (.Call (.Name "range" p1) [a,b] [] pz) X.env)]:=by rfl) :
  PE X (.Call (.Name "list" p0) [.Call (.Name "range" p1) [a,b] [] pz] [] pos) (tLr2 ta):=by
 intro pins s σ H Q I h
 refine Call_ (ld_blt I hgl hml boot_list (PyProof.Rows.callWith_type1 ?_ hs3 rfl))
 rw[hs3]
 show wpAny _ _ (spliced ((false,eval (.Call (.Name "range" p1) [a,b] [] pz) X.env) :: [])) _ _ _
 refine Calls.spliced_cons ?_
 refine Call_ (ld_blt I hgr hmr boot_range (PyProof.Rows.callWith_type1 (thn (ha pz pins s σ H _ I h) fun us s1 hs1=>?_) (by rw[hs,hs2]) (by rw[hs2]; rfl)))
 obtain⟨vs,H1,I1,r1,i,j,e,q1,q2,q3,q4,q5,q⟩:=hs1
 subst e
 cases r1 with
 | cons r rr=>
  cases rr with
  | cons r' rr=>
   cases rr
   obtain⟨t,rfl⟩:=r
   obtain⟨t',rfl⟩:=r'
   refine call_range_2 (Calls.spliced_nil ?_)
   exact list_rng I1 hr (by omega) (by omega) (by omega) (by omega) q5 q
end
end L2
namespace PySem
open AutoSeq1
set_option maxRecDepth 8000 in
theorem extend_tuple (l:Addr) (items:Array Value) (n:Nat) (b:Addr) (items2:Array Value) (n2:Nat) (dd:Option Addr) (sl:Array (Option Value)) (hs0:¬(!items.isEmpty && Builtin.List.listTooLong (items.size+items2.size))=true) (hs1:items.size≤sizeLine) (hs2:items.size+items2.size≤sizeLine+1) :
  Meets (Builtin.«list.extend» ⟨[.ref l,.ref b],[]⟩) (fun _ R s=>s.heap.get? l=some { cls:=.type "list",dict:=none,data:=.seq items n,slots:=#[] }∧s.heap.get? b=some { cls:=.type "tuple",dict:=dd,data:=.seq items2 n2,slots:=sl }∧R (.ok (.ret Value.none)) { s with heap:=s.heap.update l (Obj.mapSeq fun x=>x++items2),toks:=s.toks }):=
 .of_wp fun prog w A R s h=>by
  obtain⟨hp,g,d,tk,os⟩:=s; obtain⟨hl,hb,h⟩:=h; have f1:=idx_int; have f2:=sub_tuple_tuple; have f3:=sub_list_list; have f4:=sub_tuple_list; have f5:=sub_list_tuple;
  have hz':(items++items2).size≤sizeLine+1:=by rw[Array.size_append]; exact hs2
  wp_walk using (wpAny_updateSeq hl rfl (hz:=hs1) (_hz':=hz')),wpAny_loadPart' hl,wpAny_loadPart' hb; exact⟨_,rfl,h⟩
end PySem
namespace L2
open PySem PySem.Spec PyProof.Rows
section
variable {X:Cx}
theorem op_neL:OpR X (compareOp .NotEq) (fun x y H Q=>∃ p q xs,x = .ref p∧y = .ref q∧SqL X.K H p xs∧SqL X.K H q []∧X.A.units<cLine∧Q (.bl (!xs.isEmpty)) H):=by
 intro pins s σ H x y v u Q I rx ry h
 obtain⟨p,q,xs,rfl,rfl,hp,hq,hu,k⟩:=h
 cases (show v=Value.ref p from rx)
 cases (show u=Value.ref q from ry)
 obtain⟨its,r,pl,hz⟩:=I.list hp
 obtain⟨its2,r2,pl2,_⟩:=I.list hq
 cases r2
 cases xs with
 | nil=>
  cases r
  exact SeqAt.RcNeAt.lists pl.isList pl2.isList rfl hu (e:=fun _=>true) (fun j h1=>absurd h1 (by simp)) X.prog X.w X.xe _ ⟨.bl false,H,I,rfl,k⟩
 | cons x0 xr=>
  have hl:=r.length
  refine SeqAt.RcNeAt.lists_lengths pl.isList pl2.isList ?_ hu X.prog X.w X.xe _ ⟨.bl true,H,I,rfl,k⟩
  cases its with
  | nil=>simp at hl
  | cons a b=>rfl
def rExtendT (K:PySem.W.Frag):V→List V→Hp→VK→Prop:=fun x vs H Q=>∃ l b xs zs,x = .ref l∧vs=[.ref b]∧H l=some (.lst xs)∧SqT K H b zs∧xs.length+zs.length≤sizeLine∧Q .non (upd H l (.lst (xs++zs)))
theorem mt_extendT:MtM X "list.extend" (rExtendT X.K):=by
 intro pins s σ H x vs v us Q I rx rv h
 obtain⟨l,b,xs,zs,rfl,rfl,hH,hB,hz,q⟩:=h
 cases rx
 obtain⟨u,rfl,ru⟩:=rv.one
 cases ru
 obtain⟨z,its,n,r,hl,e⟩:=I.lstM hH
 obtain⟨its2,r2,⟨o2,e2,c2,n2,d2⟩,hl2⟩:=I.tuple hB
 have hl3:=r2.length
 have hsz:its.toArray.size+its2.toArray.size≤sizeLine:=by rw[List.size_toArray,List.size_toArray]; omega
 have hlong:¬ (!its.toArray.isEmpty && Builtin.List.listTooLong (its.toArray.size+its2.toArray.size))=true:=by
  rw[notLongL hsz,Bool.and_false]
  exact Bool.false_ne_true
 obtain⟨cl,dd,da,sl⟩:=o2
 have c2':cl = .type "tuple" :=c2
 have d2':da = .seq its2.toArray n2:=d2
 subst c2' d2'
 refine call_meets F.slot_list_extend ⟨_,e,rfl⟩ F.entry_list_extend (F.args_list_extend_2 _ _)
  (PySem.extend_tuple l its.toArray n b its2.toArray n2 dd sl hlong (by rw[List.size_toArray]; omega) (by omega)) ⟨e,e2,?_⟩
 refine⟨.non,_,I.lset (its':=its++its2) hH e (by simp) (r.append r2) ?_,rfl,q⟩
 rw[List.length_append]
 omega
theorem MtM.or {id:String} {r r':V→List V→Hp→VK→Prop} (h:MtM X id r) (h':MtM X id r'):MtM X id (fun x xs H Q=>r x xs H Q∨r' x xs H Q):=by
 intro pins s σ H x vs v us Q I rx rv hq
 rcases hq with q | q
 ·exact h pins s σ H x vs v us Q I rx rv q
 ·exact h' pins s σ H x vs v us Q I rx rv q
theorem mt_extendQ:MtM X "list.extend" (fun x xs H Q=>rExtend x xs H Q∨rExtendT X.K x xs H Q):=mt_extend.or mt_extendT
end
inductive TyA (K:PySem.W.Frag) (H:Hp):V→String→Prop where
 | non:TyA K H .non "NoneType"
 | bl (x:Bool):TyA K H (.bl x) "bool"
 | int (i:Int):TyA K H (.int i) "int"
 | str (x:Str):TyA K H (.str x) "str"
 | lst {a:Addr} {xs:List V} (e:H a=some (.lst xs)):TyA K H (.ref a) "list"
 | tup {a:Addr} {xs:List V} (e:SqT K H a xs):TyA K H (.ref a) "tuple"
section
variable {X:Cx} {pins:List (Addr × Obj)} {σ:St} {H:Hp} {s:Shared}
theorem TyA.kit {x:V} {T:String} {u:Value} (ty:TyA X.K H x T) (I:Inv X pins σ H s) (rx:RelV x u):∃ Z,PySem.W.KitX X.K u (.type T) Z∧Z s.heap∧u≠.builtin "__main__.__loader__#opaque" :=by
 cases ty with
 | non=>cases (show u=Value.none from rx); exact⟨_,PySem.W.kitx_none,True.intro,fun z=>nomatch z⟩
 | bl y=>cases (show u=Value.bool y from rx); exact⟨_,PySem.W.kitx_bool,True.intro,fun z=>nomatch z⟩
 | int i=>obtain⟨t,q⟩:=(show ∃ t,u=Value.int i t from rx); cases q; exact⟨_,PySem.W.kitx_int,True.intro,fun z=>nomatch z⟩
 | str y=>obtain⟨t,q⟩:=(show ∃ t,u=Value.str y t from rx); cases q; exact⟨_,PySem.W.kitx_str,True.intro,fun z=>nomatch z⟩
 | @lst a xs ea=>
  cases (show u=Value.ref a from rx)
  obtain⟨_,_,n,_,h1⟩:=(show ObjOk X.prog X.w H s.heap a (.lst xs) from I.hok a _ ea)
  exact⟨_,PySem.W.kitx_list,⟨_,h1,rfl⟩,fun z=>nomatch z⟩
 | @tup a xs ea=>
  cases (show u=Value.ref a from rx)
  obtain⟨its,_,⟨o,h1,h2,_⟩,_⟩:=I.tuple ea
  exact⟨_,PySem.W.kitx_tuple,⟨o,h1,h2⟩,fun z=>nomatch z⟩
theorem call_isV:CallR X (.builtin "isinstance") (fun vs H Q=>∃ x T t b,vs=[x,.ty T]∧TyA X.K H x t∧PySem.W.kitOne X.K (.type t) (.type T)=some b∧Q (.bl b) H):=by
 intro pins s σ H xs us Q I r h
 obtain⟨x,T,t,b,rfl,ty,e,q⟩:=h
 obtain⟨u,v,rfl,ru,rv⟩:=vals2 r
 cases (show v=Value.type T from rv)
 obtain⟨Z,kx,hz,hne⟩:=ty.kit I ru
 exact PySem.W.kia_one kx I.kIn hz e hne fun tk=>⟨.bl b,H,I.tok _,rfl,q⟩
theorem call_isV2:CallR X (.builtin "isinstance") (fun vs H Q=>∃ x p T U t b,vs=[x,.ref p]∧H p=some (.tup [.ty T,.ty U])∧TyA X.K H x t∧PySem.W.kitAny X.K (.type t) [.type T,.type U]=some b∧Q (.bl b) H):=by
 intro pins s σ H xs us Q I r h
 obtain⟨x,p,T,U,t,b,rfl,hp,ty,e,q⟩:=h
 obtain⟨u,v,rfl,ru,rv⟩:=vals2 r
 cases (show v=Value.ref p from rv)
 obtain⟨Z,kx,hz,hne⟩:=ty.kit I ru
 obtain⟨_,its,r2,⟨o2,e2,c2,n2,d2⟩⟩:=(show ObjOk X.prog X.w H s.heap p (.tup [.ty T,.ty U]) from I.hok p _ hp)
 obtain⟨w1,w2,rfl,r3,r4⟩:=vals2 r2
 cases (show w1=Value.type T from r3)
 cases (show w2=Value.type U from r4)
 obtain⟨cl,dd,da,sl⟩:=o2
 have c2':cl = .type "tuple" :=c2
 have d2':da = .seq [Value.type T,Value.type U].toArray n2:=d2
 subst c2' d2'
 exact PySem.W.kia_tup kx I.kIn hz e2 e hne fun tk=>⟨.bl b,H,I.tok _,rfl,q⟩
end
section
variable {K:PySem.W.Frag}
theorem kit_no {T B:String} (h:(Value.type T == Value.type B)=false) (m:PySem.W.kitMeta B=true) (f:(fastBuiltinMro T).map (·.contains (.type B))=some false):PySem.W.kitOne K (.type T) (.type B)=some false:=by
 unfold PySem.W.kitOne
 rw[if_neg (by rw[h]; decide)]
 show (if PySem.W.kitMeta B=true then PySem.W.subIn K (.type T) (.type B) else none)=some false
 rw[if_pos m]
 exact f
theorem kn_il:PySem.W.kitOne K (.type "int") (.type "list")=some false:=kit_no (by decide) (by decide +kernel) (by decide +kernel)
theorem kn_it:PySem.W.kitOne K (.type "int") (.type "tuple")=some false:=kit_no (by decide) (by decide +kernel) (by decide +kernel)
theorem kn_is:PySem.W.kitOne K (.type "int") (.type "str")=some false:=kit_no (by decide) (by decide +kernel) (by decide +kernel)
theorem kn_ib:PySem.W.kitOne K (.type "int") (.type "bool")=some false:=kit_no (by decide) (by decide +kernel) (by decide +kernel)
theorem kn_sl:PySem.W.kitOne K (.type "str") (.type "list")=some false:=kit_no (by decide) (by decide +kernel) (by decide +kernel)
theorem kn_st:PySem.W.kitOne K (.type "str") (.type "tuple")=some false:=kit_no (by decide) (by decide +kernel) (by decide +kernel)
theorem kn_lt:PySem.W.kitOne K (.type "list") (.type "tuple")=some false:=kit_no (by decide) (by decide +kernel) (by decide +kernel)
theorem kn_tl:PySem.W.kitOne K (.type "tuple") (.type "list")=some false:=kit_no (by decide) (by decide +kernel) (by decide +kernel)
theorem any_l:PySem.W.kitAny K (.type "list") [.type "list",.type "tuple"]=some true:=by
 unfold PySem.W.kitAny
 rw[kit_same]
theorem any_t:PySem.W.kitAny K (.type "tuple") [.type "list",.type "tuple"]=some true:=by
 unfold PySem.W.kitAny
 rw[kn_tl]
 unfold PySem.W.kitAny
 rw[kit_same]
theorem any_i:PySem.W.kitAny K (.type "int") [.type "list",.type "tuple"]=some false:=by
 unfold PySem.W.kitAny
 rw[kn_il]
 unfold PySem.W.kitAny
 rw[kn_it]
 rfl
theorem any_s:PySem.W.kitAny K (.type "str") [.type "list",.type "tuple"]=some false:=by
 unfold PySem.W.kitAny
 rw[kn_sl]
 unfold PySem.W.kitAny
 rw[kn_st]
 rfl
theorem bt_list:bootBuiltins "list" = some (.type "list"):=by decide +kernel
end
end L2
namespace L2
open PySem PySem.Spec PyProof.Rows
section
variable {X:Cx} {scope:Scope} {nt:Nat} {Nb:List Str} {js:List Nat}
theorem ps_compG {elt iter tg:Expr} {y:Str} {py spos:Pos} {iy:Nat} {ifs:List Expr} {pos:Pos} {wi:TI} {g:TG} {tc:TT} {te:TE} (hN:X.N.Nodup) (hiy:X.N[iy]? = some y) (hly:Loc X.env.scope y) (hc:X.calm=true) (S:CompT X scope nt Nb js) (hi:PI X tg iter wi)
  (hg:∀ (C:Addr) (s0:Shared) (H0:Hp) (fp:List Addr) (pn':List (Addr × Obj)),PG (X.blk scope C Nb s0 H0 fp pn') tg g) (ho:Own nt g)
  (ht:∀ (C:Addr) (s0:Shared) (H0:Hp) (fp:List Addr) (pn':List (Addr × Obj)),PTs (X.blk scope C Nb s0 H0 fp pn') ifs tc)
  (he:∀ (C:Addr) (s0:Shared) (H0:Hp) (fp:List Addr) (pn':List (Addr × Obj)),PE (X.blk scope C Nb s0 H0 fp pn') elt te)
  (hs:∀ v,foldedSetIterable iter X.env v=pure v:=by intro _; rfl)
  (hsw:swapsWith (.ListComp elt [⟨tg,iter,ifs,0⟩] scope pos) (some (.Name y py)) spos.line X.env=pure true:=by rfl)
  (hf:X.fn y=true∨X.env.scope.names.lookup y=some .local:=by first | exact .inl rfl | exact .inr rfl | assumption) :
  PS X (.Assign [.Name y py] (.ListComp elt [⟨tg,iter,ifs,0⟩] scope pos) spos) (tAsg (tCompG nt js wi g tc te) (gName iy)):=by
 intro pins s σ H D I h
 rw[exec_Assign_Name_used _ _ _ _ hsw]
 refine wpAny_bind (wpAny_standAt (wpAny_bind ?_))
 show wpAny _ _ (do let _ ← comprehension (.ListComp elt [⟨tg,iter,ifs,0⟩] scope pos) scope X.env _ (newList []) false (eval iter X.env) (some (assign (.Name y py) X.env))) _ _ s
 refine wpAny_bind (wpAny_mono (wpAny_comprehension_free (use:=some (assign (.Name y py) X.env)) (Q:=fun _ s'=>SP X pins D .next s') rfl hs S.clos S.kind S.loc (thn (hi pins s σ H _ I h) fun v s1 h1=>thn h1 fun itv s2 h2=>?_))
  (fun _ s' hq=>wpAny_pure (wpAny_pure hq)) fun _ _ e=>e)
 obtain⟨it,fp,tn,J,H2,e,I2,T,st2,f2,r2⟩:=h2
 subst e
 have hp0:H2 s2.heap.objs.size=none:=I2.hok.fresh (Nat.le_refl _)
 obtain⟨W,⟨m0,w0⟩,turn⟩:=r2 s2.heap.objs.size hp0
 unfold newList
 refine wpAny_newObj_type ?_
 have I3:Inv X pins σ (upd H2 s2.heap.objs.size (.lst [])) { s2 with heap:=s2.heap.push { cls:=.type "list",dict:=none,data:=.seq ([]:List Value).toArray } }:=
  I2.laid (t':=s2.toks) (fun b u e=>Heap.get?_push_of_some _ e) (Nat.le_refl _) ⟨by show 0≤sizeLine; decide,[],0,.nil,Heap.get?_push_size _ rfl⟩
 generalize hs3:({ s2 with heap:=s2.heap.push { cls:=.type "list",dict:=none,data:=.seq ([]:List Value).toArray } }:Shared)=s3 at I3 ⊢
 have lt3:∀ b o,s2.heap.get? b=some o→s3.heap.get? b=some o:=fun b o e=>by rw[← hs3]; exact Heap.get?_push_of_some _ e
 have fpN:∀ b∈fp,b<s2.heap.objs.size:=fun b hb=>by obtain⟨o,e,_⟩:=T.obj _ _ st2 b hb; exact Heap.lt_size e
 have f3:∀ b∈fp,FpOk X pins (upd H2 s2.heap.objs.size (.lst [])) b:=fun b hb=>⟨by rw[upd_ne (Nat.ne_of_lt (fpN b hb))]; exact (f2 b hb).1,(f2 b hb).2⟩
 have fp3:∀ b∈fp,b<s3.heap.objs.size:=fun b hb=>by obtain⟨o,e,_⟩:=T.obj _ _ st2 b hb; exact Heap.lt_size (lt3 b o e)
 have st3:tn 0 s3.heap:=T.keep _ _ _ st2 fun b _ o e=>lt3 b o e
 refine wpAny_newFunctionEnv S.cell (by intro y hy; cases hy) (fun h4 ns4 sb4=>?_) S.kind
 have kp4:∀ b o,s3.heap.get? b=some o→h4.get? b=some o:=fun b o e=>(sb4.2 b (Nat.ne_of_lt (Heap.lt_size e))).trans (Heap.get?_push_of_some _ e)
 have I4:Inv (X.blk scope s3.heap.objs.size Nb s3 (upd H2 s2.heap.objs.size (.lst [])) fp (X.pn++pins)) [] (captN nt js σ) (upd H2 s2.heap.objs.size (.lst [])) { s3 with heap:=h4,toks:=s3.toks+([]:List (Str × Value)).length }:=I3.blockG S f3 fp3 ns4 kp4
 have st4:tn 0 h4:=T.keep _ _ _ st3 fun b _ o e=>kp4 b o e
 have stat:∀ {H':Hp},(∀ b∈fp,H' b=none)→∀ b∈fp,FpOk (X.blk scope s3.heap.objs.size Nb s3 (upd H2 s2.heap.objs.size (.lst [])) fp (X.pn++pins)) [] H' b:=fun {H'} hn b hb=>by
  obtain⟨_,g1,g2,g3,g4,g5⟩:=f3 b hb
  refine⟨hn b hb,Nat.ne_of_lt (fp3 b hb),fun z=>?_,.inl hb,fun y c e=>g4 y c (S.cells I.ok y c e),fun p hp=>g5 p (by simpa using hp)⟩
  rcases List.mem_cons.mp (I3.stkSub b z) with w1 | w1
  ·exact g1 w1
  ·exact g2 w1
 have loop:codeAny (model X.prog X.w) X.A (.compLoop (.ListComp elt [⟨tg,iter,ifs,0⟩] scope pos) 0 (.ref it) (.ref s2.heap.objs.size) (compEnvC scope (clOf X.env scope.names []) s3.heap.objs.size X.env))
   (compPost (model X.prog X.w) X.A X.xe (some (assign (.Name y py) X.env)) (fun _ s'=>SP X pins D .next s') (.ref s2.heap.objs.size) s3.heap.objs.size) { s3 with heap:=h4,toks:=s3.toks+([]:List (Str × Value)).length }:=by
  refine comp_loopG (fun n s'=>∃ i H',Inv (X.blk scope s3.heap.objs.size Nb s3 (upd H2 s2.heap.objs.size (.lst [])) fp (X.pn++pins)) [] (captN nt js σ) H' s'∧tn i s'.heap∧(∀ b∈fp,H' b=none)∧W i n H') ?_ m0 ⟨0,_,I4,st4,fun b hb=>(f3 b hb).1,w0⟩
  rintro n s5 ⟨i,H5,I5,st5,fr5,w5⟩
  rcases turn i n H5 w5 with⟨stop,q⟩ | ⟨go,step⟩
  ·refine (thn (T.done (X.blk scope s3.heap.objs.size Nb s3 (upd H2 s2.heap.objs.size (.lst [])) fp (X.pn++pins)) rfl rfl rfl hc i [] s5 (captN nt js σ) H5 (fun _ _=>False) I5 (stat fr5) st5 stop) fun r s6 ⟨hr,I6⟩=>?_)
   subst hr
   obtain⟨m,hn,_⟩:=id I6.loc
   have J6:Inv X pins σ H5 s6:=I3.unblock (h2:=s6.heap) f3 rfl I6 (Heap.SameBut.refl _ _)
   have frC:H5 s3.heap.objs.size=none:=I6.free
   have fpC:=I3.fpOk (Nat.le_refl _) frC
   refine wpAny_assign_Name (store_ok2 J6 hN hiy hly (v:=.ref s2.heap.objs.size) rfl (fun s7 J7 ⟨a7,sb7,ha7⟩=>?_) hf)
   have hne:s3.heap.objs.size≠a7:=by
    rcases ha7 with z | z
    ·rw[z]; exact fpC.2.1
    ·exact (fpC.2.2.2.2.1 _ _ z).symm
   exact⟨m,hn.sameBut sb7 hne,fun h8 sb8=>⟨_,H5,J7.turnedL (t':=s7.toks) (ch:=[s3.heap.objs.size]) (fun b o hb e=>sb8.extBut _ _ (fun z=>hb (by simp[z])) e) (fun b hb=>by
    have e:b=s3.heap.objs.size:=by simpa using hb
    rw[e]
    exact fpC),q⟩⟩
  ·refine (thn (T.item (X.blk scope s3.heap.objs.size Nb s3 (upd H2 s2.heap.objs.size (.lst [])) fp (X.pn++pins)) rfl rfl rfl hc i [] s5 (captN nt js σ) H5 (fun _ _=>False) I5 (stat fr5) st5 go) fun r s6 ⟨u,hr,h6⟩=>?_)
   subst hr
   refine thn h6 fun _ s7 ⟨v7,H7,I7,r7,y7,st7,fr7⟩=>?_
   have I7':=I7.pinned (stat fr7) (T.obj _ _ st7)
   refine thn (hg s3.heap.objs.size s3 _ fp (X.pn++pins) _ s7 _ H7 v7 u _ I7' r7 (ho js σ v7 H7 _ (step v7 H7 y7))) fun _ s8 ⟨σ8,H8,I8,q8,k8⟩=>?_
   refine thn (ht s3.heap.objs.size s3 _ fp (X.pn++pins) _ s8 σ8 H8 _ I8 q8) fun ok s9 ⟨H9,I9,q9⟩=>?_
   have back:∀ {H10:Hp} {s10:Shared} {m':Nat},Inv (X.blk scope s3.heap.objs.size Nb s3 (upd H2 s2.heap.objs.size (.lst [])) fp (X.pn++pins)) ([]++pinsAt fp s7.heap) σ8 H10 s10→m'<n→W (i+1) m' H10→∃ m,m<n∧∃ i H',Inv (X.blk scope s3.heap.objs.size Nb s3 (upd H2 s2.heap.objs.size (.lst [])) fp (X.pn++pins)) [] (captN nt js σ) H' s10∧tn i s10.heap∧(∀ b∈fp,H' b=none)∧W i m H':=fun {H10 s10 m'} I10 hm w10=>by
    refine⟨m',hm,i+1,_,(I10.weak k8.1.symm k8.2).unpinned,T.keep _ _ _ st7 fun b hb o e=>(I10.pin (b,o) (List.mem_append_right _ (List.mem_append_right _ (mem_pinsAt hb e)))).1,fun b hb=>?_,w10⟩
    obtain⟨o,e,d⟩:=T.obj _ _ st7 b hb
    exact (I10.pin (b,o) (List.mem_append_right _ (List.mem_append_right _ (mem_pinsAt hb e)))).2.1
   cases ok with
   | false=>
    obtain⟨m',hm,w9⟩:=q9
    exact back I9 hm w9
   | true=>
    refine thn (he s3.heap.objs.size s3 _ fp (X.pn++pins) _ s9 _ H9 _ I9 q9) fun y s10 ⟨yv,H10,I10,ry,ys,hy,hz,m',hm,w10⟩=>?_
    refine thn (mt_append (X:=X.blk scope s3.heap.objs.size Nb s3 (upd H2 s2.heap.objs.size (.lst [])) fp (X.pn++pins)) _ s10 _ H10 (.ref s2.heap.objs.size) [yv] (.ref s2.heap.objs.size) [y] (fun _ Hn=>Hn=upd H10 s2.heap.objs.size (.lst (ys++[yv]))) I10 rfl (.cons ry .nil) ⟨s2.heap.objs.size,ys,yv,rfl,rfl,hy,hz,rfl⟩) fun _ s11 ⟨_,H11,I11,_,e11⟩=>?_
    subst e11
    exact back I11 hm w10
 exact codeAny_compStart_list loop (T.self _ 0 _ _ _ st4 loop)
end
theorem nd_of {l:List Str} (h:l.Nodup):l.Nodup:=h
end L2
namespace PySem
theorem lri_nolen:typeLookup (.type "list_reverseiterator") "__len__" = pure none:=by rw[typeLookup_type,builtinLookup_eq_fast]; kernel_rfl
theorem lri_hint:typeLookup (.type "list_reverseiterator") "__length_hint__" = pure (some (.builtin "list_reverseiterator.__length_hint__")):=by rw[typeLookup_type,builtinLookup_eq_fast]; kernel_rfl
section
variable {prog:Program} {w:World} {A:Around} {s:Shared} {R:Result→Shared→Prop} {it:Addr} {fp wr:List Addr} {G:Array GenState→Array GenState→Prop} {n:Nat} {P:Nat→Value→Prop} {St:Nat→Shared→Prop}
theorem ext_rev (W:WalksS prog w A.in1 it fp wr G n P St) (hT:∀ i s,St i s→s.TypeIs (.ref it) "list_reverseiterator") (l:Addr) (res:Value) (c0:Nat) (h0:St 0 s) (hlf:l∉fp) (hI:it∈fp) (hn:n≤sizeLine)
  (hl:s.heap.get? l=some { cls:=.type "list",data:=.seq #[] c0 })
  (fin:∀ s' acc c,Moved (l :: wr) G s s'→s'.heap.get? l=some { cls:=.type "list",dict:=none,data:=.seq acc c,slots:=#[] }→ItemsOf P acc n→R (.ok (.ret res)) s') :
  wpAny (model prog w) A.in1 (Builtin.List.listExtendWith (.ref l) (.ref it) res)
   (fun f s'=>match f with | .done f=>R (.ok f) s' | .again c'=>c'.quiet=true∧codeAny (model prog w) A c' R s') (fun e s'=>R (.error e) s') s:=by
 have hne:l≠it:=fun e=>hlf (e▸hI)
 have h1:Builtin.List.listSameRef (.ref l) (.ref it)=false:=by simp[Builtin.List.listSameRef,hne]
 unfold Builtin.List.listExtendWith
 refine wpAny_bind (wpAny_typeOf (hT 0 _ h0) ?_)
 rw[if_neg (by rw[h1]; decide)]
 refine wpAny_bind (W.self 0 _ _ _ h0 ?_)
 refine wpAny_bind (wpAny_holding ?_)
 unfold Builtin.List.listLengthHint
 refine wpAny_bind (wpAny_specialOf (hT 0 _ h0) lri_nolen ?_)
 show wpAny _ A.in1 (specialOf (Value.ref it) (Str.ofString "__length_hint__") >>= _) _ _ _
 refine wpAny_bind (wpAny_specialOf (hT 0 _ h0) lri_hint ?_)
 (generalize hid:("list_reverseiterator.__length_hint__" : String)=id0; (fail_if_success (clear hid id0)); wp_delta; rw[show splitId id0=some ("list_reverseiterator","__length_hint__") from by subst hid; decide +kernel]; subst hid)
 refine wpAny_bind (wpAny_isInstance (b:=true) (hT 0 _ h0) (by rw[isSubtype_type]; kernel_rfl) ?_)
 refine wpAny_pure ?_
 rw[if_neg (by decide)]
 exact wpAny_pure ⟨plainId_quiet F.plain_extend_loop _,codeAny_extend_loopS W hn _ hlf _ n 0 _ _ _ rfl (Nat.zero_le _) h0 hl (ItemsOf.nil P) fun s' acc c hm hl' ha=>fin s' acc c hm hl' ha⟩
theorem init_rev (W:WalksS prog w A.in1 it fp wr G n P St) (hT:∀ i s,St i s→s.TypeIs (.ref it) "list_reverseiterator") (l:Addr) (h0:St 0 s) (hlf:l∉fp) (hI:it∈fp) (hn:n≤sizeLine)
  (hl:s.heap.get? l=some { cls:=.type "list",data:=.seq #[] })
  (fin:∀ s' acc c,Moved (l :: wr) G s s'→s'.heap.get? l=some { cls:=.type "list",dict:=none,data:=.seq acc c,slots:=#[] }→ItemsOf P acc n→R (.ok (.ret .none)) s') :
  wpAny (model prog w) A.in1 (Builtin.«list.__init__» ⟨[.ref l,.ref it],[]⟩)
   (fun f s'=>match f with | .done f=>R (.ok f) s' | .again c'=>c'.quiet=true∧codeAny (model prog w) A c' R s') (fun e s'=>R (.error e) s') s:=by
 show wpAny _ A.in1 (do let old ← Builtin.List.listItems (.ref l); Builtin.List.listUpdate (.ref l) (fun _=>#[]); letGo old.toList.reverse; Builtin.List.listExtendWith (.ref l) (.ref it) .none) _ _ s
 refine wpAny_bind ?_
 unfold Builtin.List.listItems
 refine wpAny_bind (wpAny_seqItems hl rfl (wpAny_pure ?_))
 show wpAny _ A.in1 (updateSeq l (fun _=>#[]) >>= fun _=>letGo (#[]:Array Value).toList.reverse >>= fun _=>Builtin.List.listExtendWith (.ref l) (.ref it) .none) _ _ s
 refine wpAny_bind (wpAny_updateSeq hl rfl ?_)
 have hl2:=Heap.get?_update_self (Obj.mapSeq (fun _=>(#[]:Array Value))) hl rfl
 have oth:∀ b o,b≠l→s.heap.get? b=some o→(s.heap.update l (Obj.mapSeq (fun _=>(#[]:Array Value)))).get? b=some o:=fun b o hb e=>(Heap.get?_update_other _ _ (Ne.symm hb)).trans e
 refine wpAny_bind (wpAny_letGo ?_)
 refine ext_rev W hT l .none _ (W.frame 0 s _ s.toks h0 (Nat.le_refl _) fun b hb o e=>oth b o (fun h=>hlf (h▸hb)) e) hlf hI hn hl2 fun s' acc c hm hl' ha=>?_
 exact fin s' acc c (Moved.trans W.gtrans ((Moved.refl W.grefl).then_heap (Nat.le_refl _) fun b o hb e=>oth b o (fun h=>hb (h▸List.mem_cons_self)) e) hm) hl' ha
theorem call_list_revIt {E:Value→Shared→Prop} {Q:Value→Shared→Prop} {l:Addr} {items:Array Value} (hh:A.handled=none) (hne:l≠it) (hit:s.heap.IsRevIter it l ((items.size:Int)-1)) (hl:s.heap.IsList l items) (hn:items.size≤sizeLine)
  (q:∀ h' tk acc c,(∀ b o,b≠it→s.heap.get? b=some o→h'.get? b=some o)→h'.get? s.heap.objs.size=some { cls:=.type "list",dict:=none,data:=.seq acc c,slots:=#[] } →
   ItemsOf (fun i v=>items[items.size-1-i]? = some v) acc items.size→Q (.ref s.heap.objs.size) { s with heap:=h',toks:=tk }) :
  wpAny (model prog w) A (call (.type "list") [.ref it]) Q E s:=by
 have hitlt:it<s.heap.objs.size:=by obtain⟨_,e,_⟩:=hit; exact Heap.lt_size e
 have hllt:l<s.heap.objs.size:=by obtain⟨_,e,_⟩:=hl; exact Heap.lt_size e
 have W:=(Walks.listRev (prog:=prog) (w:=w) (A:=A.in1.in1) hh it l hne items).toS
 have hSf:s.heap.objs.size∉[it,l]:=fun hm=>by
  rcases List.mem_cons.mp hm with e | e
  ·exact Nat.lt_irrefl _ (e▸hitlt)
  ·exact Nat.lt_irrefl _ (List.mem_singleton.mp e▸hllt)
 refine callType_codes (Q₁:=fun obj s₁=>obj = .ref s.heap.objs.size∧s₁={ s with heap:=s.heap.push { cls:=.type "list",data:=.seq #[] } }) F.called_list (F.typeCall_list_1 _) F.entry_list_init (code_list_new _ ⟨rfl,rfl⟩) fun obj s₁ h₁=>?_
 obtain⟨rfl,rfl⟩:=h₁
 have hS:(s.heap.push { cls:=.type "list",data:=.seq #[] }).get? s.heap.objs.size=some { cls:=.type "list",data:=.seq #[] }:=Heap.get?_push_size _ rfl
 refine⟨⟨_,hS,rfl⟩,F.args_list_init_2 _ _,init_rev W (fun i s x=>x.2.1.typeIs) _ ⟨Nat.zero_le _,?_,hl.push _⟩ hSf List.mem_cons_self hn hS fun s' acc c hm hS' ha=>?_⟩
 ·have e:(items.size:Int)-1-((0:Nat):Int)=(items.size:Int)-1:=by omega
  rw[e]
  exact hit.at fun o e=>Heap.get?_push_of_some _ e
 ·refine⟨rfl,?_⟩
  rw[Moved.eq_with hm]
  refine q s'.heap s'.toks acc c (fun b o hb e=>hm.heap b o (fun hmem=>?_) (Heap.get?_push_of_some _ e)) hS' ha
  rcases List.mem_cons.mp hmem with e' | hmem
  ·exact Nat.lt_irrefl _ (e'▸Heap.lt_size e)
  ·exact hb (List.mem_singleton.mp hmem)
end
end PySem
namespace L2
open PySem PySem.Spec PyProof.Rows
theorem boot_reversedB:bootBuiltins "reversed" = some (.type "reversed"):=by decide +kernel
theorem boot_allB:bootBuiltins "all" = some (.builtin "all"):=by decide +kernel
theorem boot_anyB:bootBuiltins "any" = some (.builtin "any"):=by decide +kernel
theorem boot_maxB:bootBuiltins "max" = some (.builtin "max"):=by decide +kernel
theorem bools_of:∀ {bs:List Bool} {us:List Value},Vals (bs.map V.bl) us→LSm.BoolsAre us bs
 | [],_,.nil=>.nil
 | b :: bs,u :: us,.cons r t=>by
  cases (show u=Value.bool b from r)
  exact .cons b (bools_of t)
section
variable {X:Cx}
theorem call_allB (hh:X.A.handled=none):CallR X (.builtin "all") (fun xs H Q=>∃ (p:Addr) (bs:List Bool),xs=[.ref p]∧SqL X.K H p (bs.map V.bl)∧Q (.bl (bs.all id)) H):=by
 intro pins s σ H xs us Q I r h
 obtain⟨p,bs,rfl,hp,q⟩:=h
 obtain⟨u,rfl,ru⟩:=vals1 r
 cases ru
 obtain⟨its,rr,pl,hz⟩:=I.list hp
 have hb:=bools_of rr
 have hl:=pl.isList
 have hlt:p<s.heap.objs.size:=by obtain⟨_,e,_⟩:=hl; exact Heap.lt_size e
 refine call_all_walk (wpAny_pyIter_list hl ?_)
 refine⟨s.heap.objs.size,[s.heap.objs.size,p],[s.heap.objs.size],its.toArray.size,_,_,fun i=>(bs[i]?).getD true,rfl,Walks.list (A:=X.A.in1) hh _ p (Nat.ne_of_lt hlt) its.toArray,⟨⟨_,Heap.get?_push_size _ rfl,rfl,rfl⟩,hl.push _⟩,fun i v s' Q' E' hP hQ=>?_,fun h' tk hk=>?_⟩
 ·obtain⟨b,e,rfl⟩:=hb.get i v (by simpa using hP)
  simp only [e,Option.getD_some] at hQ
  exact wpAny_truthy_bool hQ
 ·have e:((List.range its.toArray.size).all fun i=>(bs[i]?).getD true)=bs.all id:=by
   rw[List.size_toArray,hb.length]; exact LSm.range_all bs
  rw[e]
  exact⟨.bl _,H,I.kept (t':=tk) (LSm.kept_iter hk),rfl,q⟩
theorem call_anyB (hh:X.A.handled=none):CallR X (.builtin "any") (fun xs H Q=>∃ (p:Addr) (bs:List Bool),xs=[.ref p]∧SqL X.K H p (bs.map V.bl)∧Q (.bl (bs.any id)) H):=by
 intro pins s σ H xs us Q I r h
 obtain⟨p,bs,rfl,hp,q⟩:=h
 obtain⟨u,rfl,ru⟩:=vals1 r
 cases ru
 obtain⟨its,rr,pl,hz⟩:=I.list hp
 have hb:=bools_of rr
 have hl:=pl.isList
 have hlt:p<s.heap.objs.size:=by obtain⟨_,e,_⟩:=hl; exact Heap.lt_size e
 refine call_any_walk (wpAny_pyIter_list hl ?_)
 refine⟨s.heap.objs.size,[s.heap.objs.size,p],[s.heap.objs.size],its.toArray.size,_,_,fun i=>(bs[i]?).getD false,rfl,Walks.list (A:=X.A.in1) hh _ p (Nat.ne_of_lt hlt) its.toArray,⟨⟨_,Heap.get?_push_size _ rfl,rfl,rfl⟩,hl.push _⟩,fun i v s' Q' E' hP hQ=>?_,fun h' tk hk=>?_⟩
 ·obtain⟨b,e,rfl⟩:=hb.get i v (by simpa using hP)
  simp only [e,Option.getD_some] at hQ
  exact wpAny_truthy_bool hQ
 ·have e:((List.range its.toArray.size).any fun i=>(bs[i]?).getD false)=bs.any id:=by
   rw[List.size_toArray,hb.length]; exact LSm.range_any bs
  rw[e]
  exact⟨.bl _,H,I.kept (t':=tk) (LSm.kept_iter hk),rfl,q⟩
def tRev (K:PySem.W.Frag) (t:TA):TE:=fun σ H Q=>t σ H fun vs H1=>∃ (p:Addr) (xs:List V),vs=[.ref p]∧SqL K H1 p xs∧∀ l,H1 l=none→Q (.ref l) (upd H1 l (.lst xs.reverse))
theorem pe_rev {K:PySem.W.Frag} {a:Expr} {ta:TA} {p0 p1 pz pos:Pos} (hK:X.K=K) (hr:X.A.handled=none) (hgl:Gl X "list") (hml:X.mg "list" = none) (hgr:Gl X "reversed") (hmr:X.mg "reversed" = none) (ha:PA X [a] ta) (hs:starEach [a] X.env=[(false,eval a X.env)]:=by rfl)
  (hs3:starEach [.Call (.Name "reversed" p1) [a] [] pz] X.env=[(false,eval (.Call (.Name "reversed" p1) [a] [] pz) X.env)]:=by rfl) :
  PE X (.Call (.Name "list" p0) [.Call (.Name "reversed" p1) [a] [] pz] [] pos) (tRev K ta):=by
 subst hK
 intro pins s σ H Q I h
 refine Call_ (ld_blt I hgl hml boot_list (PyProof.Rows.callWith_type1 ?_ hs3 rfl))
 rw[hs3]
 show wpAny _ _ (spliced ((false,eval (.Call (.Name "reversed" p1) [a] [] pz) X.env) :: [])) _ _ _
 refine Calls.spliced_cons ?_
 refine Call_ (ld_blt I hgr hmr boot_reversedB (PyProof.Rows.callWith_type1 (thn (ha pz pins s σ H _ I h) fun us s1 hs1=>?_) hs rfl))
 obtain⟨vs,H1,I1,r1,p,xs,e,hp,q⟩:=hs1
 subst e
 obtain⟨u,rfl,ru⟩:=vals1 r1
 cases (show u=Value.ref p from ru)
 obtain⟨its,rr,pl,hz⟩:=I1.list hp
 have hl:=pl.isList
 have hlt:p<s1.heap.objs.size:=by obtain⟨_,e,_⟩:=hl; exact Heap.lt_size e
 have hlen:=rr.length
 refine call_reversed_list hl (Calls.spliced_nil ?_)
 have I2:Inv X pins σ H1 { s1 with heap:=s1.heap.push (revObj p ((its.toArray.size:Int)-1)) }:=I1.kept (t':=s1.toks) fun b o e=>Heap.get?_push_of_some _ e
 refine call_list_revIt (it:=s1.heap.objs.size) (l:=p) (items:=its.toArray) hr (Nat.ne_of_lt hlt) ⟨_,Heap.get?_push_size _ rfl,rfl,rfl⟩ (hl.push _) (by rw[List.size_toArray]; omega) fun h' tk acc c hk hS hacc=>?_
 have hsz:(s1.heap.push (revObj p ((its.toArray.size:Int)-1))).objs.size=s1.heap.objs.size+1:=Heap.size_push _ _
 refine⟨.ref _,_,I1.laid (a:=(s1.heap.push (revObj p ((its.toArray.size:Int)-1))).objs.size) (o:=.lst xs.reverse) (t':=tk) (fun b o e=>hk b o (Nat.ne_of_lt (Heap.lt_size e)) (Heap.get?_push_of_some _ e)) (by rw[hsz]; omega) (show ObjOk X.prog X.w _ h' _ (.lst xs.reverse) from ⟨by rw[List.length_reverse]; exact hz,acc.toList,c,?_,by simpa using hS⟩),rfl,q _ (I1.hok.fresh (by rw[hsz]; omega))⟩
 obtain⟨hn,hv⟩:=hacc
 have hn':acc.toList.length=its.length:=by simpa using hn
 refine vals_ix (by rw[List.length_reverse]; omega) fun j x u hx hu=>?_
 have hj:=(List.getElem?_eq_some_iff.mp hx).1
 rw[List.length_reverse] at hj
 rw[List.getElem?_reverse hj] at hx
 have hu2:its.toArray[its.toArray.size-1-j]? = some u:=hv j u (by simpa using hu)
 obtain⟨u',hu',r'⟩:=rr.get hx
 have e2:its[xs.length-1-j]? = some u:=by
  have e3:its.toArray.size-1-j=xs.length-1-j:=by rw[List.size_toArray]; omega
  rw[e3] at hu2
  simpa using hu2
 rw[hu'] at e2
 cases e2
 exact r'
end
section
variable {K:PySem.W.Frag} {M H1:Hp} {p:Addr} {F:Nat→Tr}
theorem cm_tup {a:Addr} {xs:List V} {js:List Nat} {σ:St} {te:TE} {G:Hp→Prop} (hs:Same M H1) (ha:SqT K M a xs) (hl:xs.length≤1000) (hp:H1 p=none)
  (step:∀ i x Mi H (Qy:VK),xs[i]? = some x→Gr M H1 Mi H→(∀ y M4 H4,Gr Mi H M4 H4→At K M4 (F i) y→Qy y H4)→te ((captN 1 js σ).set 0 (some x)) H Qy)
  (after:∀ M' H' ys,Gr M H1 M' H'→M' p=none→H' p=some (.lst ys)→Ats K M' ((List.range xs.length).map F) ys→G H') :
  ∃ W:Nat→Nat→Hp→Prop,(∃ m,W 0 m (upd H1 p (.lst [])))∧∀ i m H,W i m H→((Itt K a).stop i H∧G H)∨((Itt K a).go i H∧∀ v H',(Itt K a).yld i H v H'→gName 0 v (captN 1 js σ) H' fun σ2 H2=>tNoTest σ2 H2 fun b H3=>if b=true then te σ2 H3 (fun y H4=>∃ ys,H4 p=some (.lst ys)∧ys.length<sizeLine∧∃ m',m'<m∧W (i+1) m' (upd H4 p (.lst (ys++[y])))) else ∃ m',m'<m∧W (i+1) m' H3):=by
 refine⟨Wc (Cw K M H1 p F) xs.length,⟨_,Nat.zero_le _,rfl,cw_start hs hp⟩,?_⟩
 rintro i m H ⟨hi,rfl,Mi,ys,g,mp,hy,at_⟩
 have hsq:SqT K H a xs:=g.mh.tup (g.mm.tup ha)
 rcases Nat.lt_or_ge i xs.length with hlt | hge
 ·refine .inr ⟨⟨xs,xs[i],hsq,List.getElem?_eq_getElem hlt⟩,?_⟩
  rintro v H' ⟨rfl,hv⟩
  refine noG ?_
  exact step i v Mi H' _ (hv xs hsq) g fun y M4 H4 g4 t=>cw_next hl hlt hp g mp hy at_ g4 t
 ·have:i=xs.length:=by omega
  subst this
  exact .inl ⟨⟨xs,hsq,Nat.le_refl _⟩,after Mi H ys g mp hy at_⟩
end
theorem for_zip {K:PySem.W.Frag} {a b:Addr} {xs ys:List V} {g:TG} {tb:TS} {D:Ends} {σ:St} {H:Hp} (Pv:Nat→St→Hp→Prop) (h0:Pv 0 σ H) (hlz:xs.length=ys.length) (hl:∀ i σ H,i≤xs.length→Pv i σ H→SqL K H a xs∧SqL K H b ys)
  (hs:∀ i x y T σ H,xs[i]? = some x→ys[i]? = some y→H T=none→Pv i σ H→g (.ref T) σ (upd H T (.tup [x,y])) fun σ2 H2=>tb { D with nx:=Pv (i+1),ct:=Pv (i+1),bk:=D.nx } σ2 H2) (hd:∀ σ H,Pv xs.length σ H→D.nx σ H) :
  ∃ W:Nat→Nat→St→Hp→Prop,(∃ m,W 0 m σ H)∧∀ i m σ H,W i m σ H →
   ((Itz K a b).stop i H∧D.nx σ H)∨((Itz K a b).go i H∧∃ N:St→Hp→Prop,(∀ σ' H',N σ' H'→∃ m',m'<m∧W (i+1) m' σ' H')∧∀ x H',(Itz K a b).yld i H x H'→g x σ H' fun σ2 H2=>tb { D with nx:=N,ct:=N,bk:=D.nx } σ2 H2):=by
 refine⟨fun i m σ H=>m=xs.length-i∧i≤xs.length∧Pv i σ H,⟨xs.length,by simp,Nat.zero_le _,h0⟩,?_⟩
 rintro i m σ H ⟨rfl,hi,pv⟩
 obtain⟨q1,q2⟩:=hl i σ H hi pv
 by_cases hlt:i<xs.length
 ·refine .inr ⟨⟨xs,ys,xs[i],ys[i]'(by omega),q1,q2,List.getElem?_eq_getElem hlt,List.getElem?_eq_getElem (by omega)⟩,Pv (i+1),fun σ' H' p'=>⟨xs.length-(i+1),by omega,rfl,hlt,p'⟩,?_⟩
  rintro v H' ⟨T,x,y,hT,rfl,hx,hy,rfl⟩
  exact hs i x y T σ H (hx xs q1) (hy ys q2) hT pv
 ·have e:i=xs.length:=by omega
  subst e
  exact .inl ⟨⟨xs,ys,q1,q2,.inl (Nat.le_refl _)⟩,hd σ H pv⟩
end L2
namespace L2
open PySem PySem.Spec PyProof.Rows
def Cb (M H1:Hp) (p:Addr) (f:Nat→Bool) (i:Nat) (H:Hp):Prop:=∃ Mi,Gr M H1 Mi H∧Mi p=none∧H p=some (.lst (((List.range i).map f).map V.bl))
section
variable {K:PySem.W.Frag} {M H1:Hp} {p:Addr} {f:Nat→Bool}
theorem cb_start (hs:Same M H1) (hp:H1 p=none):Cb M H1 p f 0 (upd H1 p (.lst [])):=⟨M,(Gr.refl hs).new hp,hs.free hp,upd_same⟩
theorem cb_next {n i:Nat} {H H4:Hp} {Mi M4:Hp} (hn:n≤1000) (hi:i<n) (hp:H1 p=none) (g:Gr M H1 Mi H) (mp:Mi p=none) (hy:H p=some (.lst (((List.range i).map f).map V.bl))) (g4:Gr Mi H M4 H4) :
  ∃ ys,H4 p=some (.lst ys)∧ys.length<sizeLine∧∃ m',m'<n-i∧Wc (Cb M H1 p f) n (i+1) m' (upd H4 p (.lst (ys++[.bl (f i)]))):=by
 have m4:M4 p=none:=g4.fr _ _ hy mp
 refine⟨_,g4.hh _ _ hy,small1000 (by simp; omega),n-(i+1),by omega,hi,rfl,M4,(g.trans g4).put hp m4 (g4.hh _ _ hy),m4,?_⟩
 rw[upd_same,List.range_succ,List.map_append,List.map_append]
 rfl
theorem cb_list {a:Addr} {xs:List V} {js:List Nat} {σ:St} {te:TE} {G:Hp→Prop} (hs:Same M H1) (ha:M a=some (.lst xs)) (hl:xs.length≤1000) (hp:H1 p=none)
  (step:∀ i x Mi H (Qy:VK),xs[i]? = some x→Gr M H1 Mi H→(∀ M4 H4,Gr Mi H M4 H4→Qy (.bl (f i)) H4)→te ((captN 1 js σ).set 0 (some x)) H Qy)
  (after:∀ M' H',Gr M H1 M' H'→M' p=none→H' p=some (.lst (((List.range xs.length).map f).map V.bl))→G H') :
  ∃ W:Nat→Nat→Hp→Prop,(∃ m,W 0 m (upd H1 p (.lst [])))∧∀ i m H,W i m H→((Itl K a).stop i H∧G H)∨((Itl K a).go i H∧∀ v H',(Itl K a).yld i H v H'→gName 0 v (captN 1 js σ) H' fun σ2 H2=>tNoTest σ2 H2 fun b H3=>if b=true then te σ2 H3 (fun y H4=>∃ ys,H4 p=some (.lst ys)∧ys.length<sizeLine∧∃ m',m'<m∧W (i+1) m' (upd H4 p (.lst (ys++[y])))) else ∃ m',m'<m∧W (i+1) m' H3):=by
 refine⟨Wc (Cb M H1 p f) xs.length,⟨_,Nat.zero_le _,rfl,cb_start hs hp⟩,?_⟩
 rintro i m H ⟨hi,rfl,Mi,g,mp,hy⟩
 have hsq:SqL K H a xs:=SqL.of (g.mh _ _ (g.mm _ _ ha))
 rcases Nat.lt_or_ge i xs.length with hlt | hge
 ·refine .inr ⟨⟨xs,xs[i],hsq,List.getElem?_eq_getElem hlt⟩,?_⟩
  rintro v H' ⟨rfl,hv⟩
  refine noG ?_
  exact step i v Mi H' _ (hv xs hsq) g fun M4 H4 g4=>cb_next hl hlt hp g mp hy g4
 ·have:i=xs.length:=by omega
  subst this
  exact .inl ⟨⟨xs,hsq,Nat.le_refl _⟩,after Mi H g mp hy⟩
theorem cb_zip {a b:Addr} {xs zs:List V} {js:List Nat} {σ:St} {te:TE} {G:Hp→Prop} (hs:Same M H1) (ha:M a=some (.lst xs)) (hb:M b=some (.lst zs)) (hlz:xs.length=zs.length) (hl:xs.length≤1000) (hp:H1 p=none)
  (step:∀ i x z Mi H (Qy:VK),xs[i]? = some x→zs[i]? = some z→Gr M H1 Mi H→(∀ M4 H4,Gr Mi H M4 H4→Qy (.bl (f i)) H4)→te (((captN 2 js σ).set 0 (some x)).set 1 (some z)) H Qy)
  (after:∀ M' H',Gr M H1 M' H'→M' p=none→H' p=some (.lst (((List.range xs.length).map f).map V.bl))→G H') :
  ∃ W:Nat→Nat→Hp→Prop,(∃ m,W 0 m (upd H1 p (.lst [])))∧∀ i m H,W i m H→((Itz K a b).stop i H∧G H)∨((Itz K a b).go i H∧∀ v H',(Itz K a b).yld i H v H'→gTup K 2 (gCons (gName 0) (gCons (gName 1) gNil)) v (captN 2 js σ) H' fun σ2 H2=>tNoTest σ2 H2 fun b H3=>if b=true then te σ2 H3 (fun y H4=>∃ ys,H4 p=some (.lst ys)∧ys.length<sizeLine∧∃ m',m'<m∧W (i+1) m' (upd H4 p (.lst (ys++[y])))) else ∃ m',m'<m∧W (i+1) m' H3):=by
 refine⟨Wc (Cb M H1 p f) xs.length,⟨_,Nat.zero_le _,rfl,cb_start hs hp⟩,?_⟩
 rintro i m H ⟨hi,rfl,Mi,g,mp,hy⟩
 have hsa:SqL K H a xs:=SqL.of (g.mh _ _ (g.mm _ _ ha))
 have hsb:SqL K H b zs:=SqL.of (g.mh _ _ (g.mm _ _ hb))
 rcases Nat.lt_or_ge i xs.length with hlt | hge
 ·refine .inr ⟨⟨xs,zs,xs[i],zs[i]'(by omega),hsa,hsb,List.getElem?_eq_getElem hlt,List.getElem?_eq_getElem (by omega)⟩,?_⟩
  rintro v H' ⟨T,x,z,hT,rfl,hx,hz,rfl⟩
  refine⟨T,[x,z],rfl,SqT.of upd_same,rfl,x,[z],rfl,z,[],rfl,rfl,?_⟩
  have hTp:p≠T:=ne_of_none hy hT
  have g2:Gr M H1 Mi (upd H T (.tup [x,z])):=g.new hT
  refine noT ?_
  exact step i x z Mi _ _ (hx xs hsa) (hz zs hsb) g2 fun M4 H4 g4=>cb_next hl hlt hp g2 mp (by rw[upd_ne hTp]; exact hy) g4
 ·have:i=xs.length:=by omega
  subst this
  exact .inl ⟨⟨xs,zs,hsa,hsb,.inl (Nat.le_refl _)⟩,after Mi H g mp hy⟩
theorem cb_enum {a:Addr} {xs:List V} {js:List Nat} {σ:St} {te:TE} {G:Hp→Prop} (hs:Same M H1) (ha:M a=some (.lst xs)) (hl:xs.length≤1000) (hp:H1 p=none)
  (step:∀ i x Mi H (Qy:VK),xs[i]? = some x→Gr M H1 Mi H→(∀ M4 H4,Gr Mi H M4 H4→Qy (.bl (f i)) H4)→te (((captN 2 js σ).set 0 (some (.int (i:Nat)))).set 1 (some x)) H Qy)
  (after:∀ M' H',Gr M H1 M' H'→M' p=none→H' p=some (.lst (((List.range xs.length).map f).map V.bl))→G H') :
  ∃ W:Nat→Nat→Hp→Prop,(∃ m,W 0 m (upd H1 p (.lst [])))∧∀ i m H,W i m H→((Ite K a).stop i H∧G H)∨((Ite K a).go i H∧∀ v H',(Ite K a).yld i H v H'→gTup K 2 (gCons (gName 0) (gCons (gName 1) gNil)) v (captN 2 js σ) H' fun σ2 H2=>tNoTest σ2 H2 fun b H3=>if b=true then te σ2 H3 (fun y H4=>∃ ys,H4 p=some (.lst ys)∧ys.length<sizeLine∧∃ m',m'<m∧W (i+1) m' (upd H4 p (.lst (ys++[y])))) else ∃ m',m'<m∧W (i+1) m' H3):=by
 refine⟨Wc (Cb M H1 p f) xs.length,⟨_,Nat.zero_le _,rfl,cb_start hs hp⟩,?_⟩
 rintro i m H ⟨hi,rfl,Mi,g,mp,hy⟩
 have hsa:SqL K H a xs:=SqL.of (g.mh _ _ (g.mm _ _ ha))
 rcases Nat.lt_or_ge i xs.length with hlt | hge
 ·refine .inr ⟨⟨xs,xs[i],hsa,List.getElem?_eq_getElem hlt⟩,?_⟩
  rintro v H' ⟨T,x,hT,rfl,hx,rfl⟩
  refine⟨T,[.int (i:Nat),x],rfl,SqT.of upd_same,rfl,.int (i:Nat),[x],rfl,x,[],rfl,rfl,?_⟩
  have hTp:p≠T:=ne_of_none hy hT
  have g2:Gr M H1 Mi (upd H T (.tup [.int (i:Nat),x])):=g.new hT
  refine noT ?_
  exact step i x Mi _ _ (hx xs hsa) g2 fun M4 H4 g4=>cb_next hl hlt hp g2 mp (by rw[upd_ne hTp]; exact hy) g4
 ·have:i=xs.length:=by omega
  subst this
  exact .inl ⟨⟨xs,hsa,Nat.le_refl _⟩,after Mi H g mp hy⟩
theorem all_rng {f:Nat→Bool} {n:Nat}:((List.range n).map f).all id=true↔∀ i,i<n→f i=true:=by
 rw[List.all_eq_true]
 constructor
 ·intro h i hi
  exact h (f i) (List.mem_map.mpr ⟨i,List.mem_range.mpr hi,rfl⟩)
 ·intro h b hb
  obtain⟨i,hi,rfl⟩:=List.mem_map.mp hb
  exact h i (List.mem_range.mp hi)
theorem any_rng {f:Nat→Bool} {n:Nat}:(!((List.range n).map f).any id)=true↔∀ i,i<n→f i=false:=by
 rw[Bool.not_eq_true',List.any_eq_false]
 constructor
 ·intro h i hi
  have:=h (f i) (List.mem_map.mpr ⟨i,List.mem_range.mpr hi,rfl⟩)
  simpa using this
 ·intro h b hb
  obtain⟨i,hi,rfl⟩:=List.mem_map.mp hb
  simpa using h i (List.mem_range.mp hi)
end
end L2
namespace L2
open PySem PySem.Spec PyProof.Rows
structure Cps (M H1 H:Hp) (p:Addr) (xs:List V) (ls:List Addr):Prop where
 at_:∀ (j:Nat) l,ls[j]? = some l→H1 l=none∧l≠p∧∃ b zs,xs[j]? = some (.ref b)∧M b=some (.lst zs)∧H l=some (.lst zs)
 inj:∀ (i j:Nat) l,ls[i]? = some l→ls[j]? = some l→i=j
theorem ct_copy {K:PySem.W.Frag} {M H1:Hp} {p a:Addr} {xs:List V} {js:List Nat} {σ:St} {te:TE} {G:Hp→Prop} (hs:Same M H1) (ha:SqT K M a xs) (hl:xs.length≤1000) (hp:H1 p=none)
  (hx:∀ (j:Nat) x,xs[j]? = some x→∃ b zs,x = .ref b∧M b=some (.lst zs))
  (step:∀ b zs H (Qy:VK),M b=some (.lst zs)→Gr M H1 M H→(∀ l,H l=none→Qy (.ref l) (upd H l (.lst zs)))→te ((captN 1 js σ).set 0 (some (.ref b))) H Qy)
  (after:∀ (ls:List Addr) H',Gr M H1 M H'→ls.length=xs.length→H' p=some (.lst (ls.map V.ref))→Cps M H1 H' p xs ls→G H') :
  ∃ W:Nat→Nat→Hp→Prop,(∃ m,W 0 m (upd H1 p (.lst [])))∧∀ i m H,W i m H→((Itt K a).stop i H∧G H)∨((Itt K a).go i H∧∀ v H',(Itt K a).yld i H v H'→gName 0 v (captN 1 js σ) H' fun σ2 H2=>tNoTest σ2 H2 fun b H3=>if b=true then te σ2 H3 (fun y H4=>∃ ys,H4 p=some (.lst ys)∧ys.length<sizeLine∧∃ m',m'<m∧W (i+1) m' (upd H4 p (.lst (ys++[y])))) else ∃ m',m'<m∧W (i+1) m' H3):=by
 have mp:M p=none:=hs.free hp
 refine⟨fun i m H=>i≤xs.length∧m=xs.length-i∧Gr M H1 M H∧∃ ls:List Addr,ls.length=i∧H p=some (.lst (ls.map V.ref))∧Cps M H1 H p xs ls,⟨_,Nat.zero_le _,rfl,(Gr.refl hs).new hp,[],rfl,upd_same,⟨fun j l h=>by simp at h,fun i j l h=>by simp at h⟩⟩,?_⟩
 rintro i m H ⟨hi,rfl,g,ls,hll,hy,C⟩
 have hsq:SqT K H a xs:=g.mh.tup (g.mm.tup ha)
 rcases Nat.lt_or_ge i xs.length with hlt | hge
 ·refine .inr ⟨⟨xs,xs[i],hsq,List.getElem?_eq_getElem hlt⟩,?_⟩
  rintro v H' ⟨rfl,hv⟩
  have hvi:=hv xs hsq
  obtain⟨b,zs,rfl,hb⟩:=hx i v hvi
  refine noG ?_
  refine step b zs H' _ hb g fun l hl'=>?_
  have hlp:l≠p:=fun e=>by rw[e,hy] at hl'; cases hl'
  have hl1:H1 l=none:=g.hfree hl'
  have hy2:upd H' l (.lst zs) p=some (.lst (ls.map V.ref)):=by rw[upd_ne hlp.symm]; exact hy
  refine⟨_,hy2,small1000 (by rw[List.length_map]; omega),xs.length-(i+1),by omega,hlt,rfl,(g.new hl').put hp mp hy2,ls++[l],by simp[hll],?_,?_,?_⟩
  ·rw[upd_same,List.map_append]; rfl
  ·intro j l' hj
   rcases Nat.lt_or_ge j ls.length with z | z
   ·rw[List.getElem?_append_left z] at hj
    obtain⟨c1,c2,b',zs',c3,c4,c5⟩:=C.at_ j l' hj
    refine⟨c1,c2,b',zs',c3,c4,?_⟩
    rw[upd_ne c2,upd_ne (fun e=>by rw[e,hl'] at c5; cases c5)]
    exact c5
   ·have e:j=ls.length:=by
     have:=(List.getElem?_eq_some_iff.mp hj).1
     simp at this
     omega
    subst e
    have:l'=l:=by simpa using hj.symm
    subst this
    exact⟨hl1,hlp,b,zs,by rw[hll]; exact hvi,hb,by rw[upd_ne hlp]; exact upd_same⟩
  ·have new:∀ (j:Nat),ls[j]? = some l→False:=fun j hj=>by
    obtain⟨_,_,_,_,_,_,c5⟩:=C.at_ j l hj
    rw[hl'] at c5
    cases c5
   intro x y l' hx' hy'
   rcases Nat.lt_or_ge x ls.length with z | z
   ·rcases Nat.lt_or_ge y ls.length with z2 | z2
    ·rw[List.getElem?_append_left z] at hx'
     rw[List.getElem?_append_left z2] at hy'
     exact C.inj x y l' hx' hy'
    ·have e:y=ls.length:=by
      have:=(List.getElem?_eq_some_iff.mp hy').1
      simp at this
      omega
     subst e
     have e2:l'=l:=by simpa using hy'.symm
     subst e2
     rw[List.getElem?_append_left z] at hx'
     exact (new x hx').elim
   ·have e:x=ls.length:=by
     have:=(List.getElem?_eq_some_iff.mp hx').1
     simp at this
     omega
    subst e
    have e2:l'=l:=by simpa using hx'.symm
    subst e2
    rcases Nat.lt_or_ge y ls.length with z2 | z2
    ·rw[List.getElem?_append_left z2] at hy'
     exact (new y hy').elim
    ·have:=(List.getElem?_eq_some_iff.mp hy').1
     simp at this
     omega
 ·have:i=xs.length:=by omega
  subst this
  exact .inl ⟨⟨xs,hsq,Nat.le_refl _⟩,after ls H g hll hy C⟩
theorem cut_1 {x:V} {ys:List V}:cutV (x :: ys) (some 1) none=ys:=by
 unfold cutV
 rw[HT.sIx_none]
 show ((x :: ys).drop (min 1 (ys.length+1))).take ((ys.length+1)-min 1 (ys.length+1))=ys
 rw[show min 1 (ys.length+1)=1 by omega]
 show ys.take _=ys
 exact List.take_of_length_le (by omega)
theorem cut_1no {x:V} {ys:List V}:¬ (HT.sIx (x :: ys).length 0 (some 1)=0∧HT.sIx (x :: ys).length (x :: ys).length none=(x :: ys).length):=by
 rintro⟨h,_⟩
 have e:min 1 (ys.length+1)=0:=h
 omega
theorem cut_to {xs:List V} {n:Nat} (h:n≤xs.length):cutV xs none (some (n:Int))=xs.take n:=by
 unfold cutV
 rw[HT.sIx_none,List.drop_zero,HT.sIx_nat,show min n xs.length-0=n by omega]
end L2
namespace SH
def dot:List Rat→List Rat→Rat
 | a :: l,b :: v=>a*b+dot l v
 | _,_=>0
theorem dot_nil_l (v:List Rat):dot [] v=0:=by cases v <;> rfl
theorem dot_nil_r (l:List Rat):dot l []=0:=by cases l <;> rfl
theorem dot_cons (a b:Rat) (l v:List Rat):dot (a :: l) (b :: v)=a*b+dot l v:=rfl
theorem dot_set_r:∀ (l v:List Rat) (p:Nat) (a b y:Rat),l[p]? = some a→v[p]? = some b→dot l (v.set p y)=dot l v+a*(y-b)
 | [],_,_,_,_,_,h,_=>by simp at h
 | _ :: _,[],_,_,_,_,_,h=>by simp at h
 | c :: l,d :: v,0,a,b,y,h1,h2=>by
  simp at h1 h2; subst h1 h2
  show c*y+dot l v=c*d+dot l v+c*(y-d)
  grind
 | c :: l,d :: v,p+1,a,b,y,h1,h2=>by
  have ih:=dot_set_r l v p a b y (by simpa using h1) (by simpa using h2)
  show c*d+dot l (v.set p y)=c*d+dot l v+a*(y-b)
  rw[ih]; grind
theorem dot_set_l:∀ (l v:List Rat) (p:Nat) (a b y:Rat),l[p]? = some a→v[p]? = some b→dot (l.set p y) v=dot l v+(y-a)*b
 | [],_,_,_,_,_,h,_=>by simp at h
 | _ :: _,[],_,_,_,_,_,h=>by simp at h
 | c :: l,d :: v,0,a,b,y,h1,h2=>by
  simp at h1 h2; subst h1 h2
  show y*d+dot l v=c*d+dot l v+(y-c)*d
  grind
 | c :: l,d :: v,p+1,a,b,y,h1,h2=>by
  have ih:=dot_set_l l v p a b y (by simpa using h1) (by simpa using h2)
  show c*d+dot (l.set p y) v=c*d+dot l v+(y-a)*b
  rw[ih]; grind
theorem dot_scale (c:Rat):∀ (l v:List Rat),dot (l.map fun x=>c*x) v=c*dot l v
 | [],v=>by rw[List.map_nil,dot_nil_l]; grind
 | _ :: _,[]=>by rw[dot_nil_r,dot_nil_r]; grind
 | a :: l,b :: v=>by
  show c*a*b+dot (l.map fun x=>c*x) v=c*(a*b+dot l v)
  rw[dot_scale c l v]; grind
theorem dot_comb (c:Rat):∀ (l t v:List Rat),l.length=t.length→dot (List.zipWith (fun a b=>a+c*b) l t) v=dot l v+c*dot t v
 | [],[],v,_=>by rw[List.zipWith_nil_left,dot_nil_l]; grind
 | a :: l,b :: t,[],_=>by rw[dot_nil_r,dot_nil_r,dot_nil_r]; grind
 | a :: l,b :: t,d :: v,h=>by
  show (a+c*b)*d+dot (List.zipWith (fun a b=>a+c*b) l t) v=a*d+dot l v+c*(b*d+dot t v)
  rw[dot_comb c l t v (by simpa using h)]; grind
 | [],_ :: _,_,h=>by simp at h
 | _ :: _,[],_,h=>by simp at h
theorem dot_zero:∀ (l:List Rat) (n:Nat),dot l (List.replicate n 0)=0
 | [],n=>dot_nil_l _
 | _ :: _,0=>dot_nil_r _
 | a :: l,n+1=>by
  show a*0+dot l (List.replicate n 0)=0
  rw[dot_zero l n]; grind
theorem dot_unit {l:List Rat} {n p:Nat} {a:Rat} (h:l[p]? = some a) (hp:p<n):dot l ((List.replicate n 0).set p 1)=a:=by
 rw[dot_set_r l _ p a 0 1 h (by rw[List.getElem?_replicate,if_pos hp]),dot_zero]
 grind
def told (l:List Rat) (p:Nat):List Rat:=(l.map fun x=>x / -(l.getD p 0)).set p (1 / l.getD p 0)
def putIn (l:List Rat) (p:Nat) (t:List Rat):List Rat:=(List.zipWith (fun a b=>a+l.getD p 0*b) l t).set p (l.getD p 0*t.getD p 0)
theorem getD_of {l:List Rat} {p:Nat} {a:Rat} (h:l[p]? = some a):l.getD p 0=a:=by simp[List.getD,h]
theorem told_len (l:List Rat) (p:Nat):(told l p).length=l.length:=by simp[told]
theorem putIn_len (l:List Rat) (p:Nat) (t:List Rat) (h:l.length=t.length):(putIn l p t).length=l.length:=by simp[putIn,h]
theorem map_get {l:List Rat} {p:Nat} {a:Rat} (f:Rat→Rat) (h:l[p]? = some a):(l.map f)[p]? = some (f a):=by rw[List.getElem?_map,h]; rfl
theorem dot_map_div (c:Rat) (l v:List Rat):dot (l.map fun x=>x / c) v=dot l v / c:=by
 have h:=dot_scale (c⁻¹) l v
 have e:(l.map fun x=>x / c)=l.map fun x=>c⁻¹*x:=List.map_congr_left fun x _=>by rw[Rat.div_def,Rat.mul_comm]
 rw[e,h,Rat.div_def,Rat.mul_comm]
theorem dot_told {l v:List Rat} {p:Nat} {a y:Rat} (h:l[p]? = some a) (ha:a≠0) (hv:v[p]? = some y):dot (told l p) v = -(dot l v / a)+(1 / a+1)*y:=by
 unfold told
 rw[getD_of h,dot_set_l _ v p (a / -a) y (1 / a) (map_get (fun x=>x / -a) h) hv,dot_map_div]
 grind
theorem told_at {l v:List Rat} {p:Nat} {a b y:Rat} (h:l[p]? = some a) (ha:a≠0) (hv:v[p]? = some b) (hy:y=dot l v):dot (told l p) (v.set p y)=b:=by
 have hp:p<v.length:=(List.getElem?_eq_some_iff.mp hv).1
 rw[dot_told h ha (y:=y) (by simp[List.getElem?_set,hp]),dot_set_r l v p a b y h hv,← hy]
 grind
theorem told_back {l v:List Rat} {p:Nat} {a y:Rat} (h:l[p]? = some a) (ha:a≠0) (hv:v[p]? = some y):dot l (v.set p (dot (told l p) v))=y:=by
 rw[dot_set_r l v p a y _ h hv,dot_told h ha hv]
 grind
theorem put_at {l t v:List Rat} {p:Nat} {c d y:Rat} (h:l[p]? = some c) (hd:t[p]? = some d) (hl:l.length=t.length) (hv:v[p]? = some y):dot (putIn l p t) v=dot l v+c*dot t v-c*y:=by
 unfold putIn
 rw[getD_of h,getD_of hd,dot_set_l _ v p (c+c*d) y (c*d) (by rw[List.getElem?_zipWith,h,hd]) hv,dot_comb c l t v hl]
 grind
theorem put_same {l t v:List Rat} {p:Nat} {c d b y:Rat} (h:l[p]? = some c) (hd:t[p]? = some d) (hl:l.length=t.length) (hv:v[p]? = some b) (ht:dot t (v.set p y)=b):dot (putIn l p t) (v.set p y)=dot l v:=by
 have hp:p<v.length:=(List.getElem?_eq_some_iff.mp hv).1
 rw[put_at h hd hl (y:=y) (by simp[List.getElem?_set,hp]),ht,dot_set_r l v p c b y h hv]
 grind
structure Sh where
 inn:List Int
 out:List Int
 ln:List (List Rat)
 gl:List Rat
def Sh.exch (s:Sh) (r p:Nat):Sh:=
 let t:=told (s.ln.getD r []) p
 ⟨s.inn.set r (s.out.getD p 0),s.out.set p (s.inn.getD r 0),(s.ln.map fun l=>putIn l p t).set r t,putIn s.gl p t⟩
structure Un (a b:List Int):Prop where
 l:∀ (i j:Nat) (u:Int),a[i]? = some u→a[j]? = some u→i=j
 r:∀ (i j:Nat) (u:Int),b[i]? = some u→b[j]? = some u→i=j
 x:∀ (i j:Nat) (u:Int),a[i]? = some u→b[j]? = some u→False
structure Sh.Ok (s:Sh):Prop where
 ln:s.ln.length=s.inn.length
 wd:∀ l∈s.ln,l.length=s.out.length+1
 gl:s.gl.length=s.out.length+1
 un:Un s.inn s.out
def Sh.vec (s:Sh) (x:Int→Rat) (g:Rat):List Rat:=s.out.map x++[g]
structure Sh.Fit (s:Sh) (x:Int→Rat) (g f:Rat):Prop where
 row:∀ (i:Nat) (u:Int) (l:List Rat),s.inn[i]? = some u→s.ln[i]? = some l→x u=dot l (s.vec x g)
 gol:f=dot s.gl (s.vec x g)
theorem get_set {α:Type} {l:List α} {r i:Nat} {v u:α} (h:(l.set r v)[i]? = some u):(i=r∧u=v)∨(i≠r∧l[i]? = some u):=by
 rw[List.getElem?_set] at h
 split at h
 ·split at h
  ·exact .inl ⟨by omega,(Option.some.inj h).symm⟩
  ·cases h
 ·exact .inr ⟨by omega,h⟩
theorem Un.swap {a b:List Int} {r p:Nat} {u v:Int} (n:Un a b) (hu:a[r]? = some u) (hv:b[p]? = some v):Un (a.set r v) (b.set p u):=by
 refine⟨fun i j w h1 h2=>?_,fun i j w h1 h2=>?_,fun i j w h1 h2=>?_⟩
 ·rcases get_set h1 with⟨e1,e2⟩ | ⟨e1,e2⟩ <;> rcases get_set h2 with⟨f1,f2⟩ | ⟨f1,f2⟩
  ·omega
  ·subst e2; exact (n.x _ _ _ f2 hv).elim
  ·subst f2; exact (n.x _ _ _ e2 hv).elim
  ·exact n.l _ _ _ e2 f2
 ·rcases get_set h1 with⟨e1,e2⟩ | ⟨e1,e2⟩ <;> rcases get_set h2 with⟨f1,f2⟩ | ⟨f1,f2⟩
  ·omega
  ·subst e2; exact (n.x _ _ _ hu f2).elim
  ·subst f2; exact (n.x _ _ _ hu e2).elim
  ·exact n.r _ _ _ e2 f2
 ·rcases get_set h1 with⟨e1,e2⟩ | ⟨e1,e2⟩ <;> rcases get_set h2 with⟨f1,f2⟩ | ⟨f1,f2⟩
  ·subst e2 f2; exact n.x _ _ _ hu hv
  ·subst e2; exact f1 (n.r _ _ _ f2 hv)
  ·subst f2; exact e1 (n.l _ _ _ e2 hu)
  ·exact n.x _ _ _ e2 f2
structure Sh.At (s:Sh) (r p:Nat) (u v:Int) (l:List Rat) (a:Rat):Prop where
 hu:s.inn[r]? = some u
 hv:s.out[p]? = some v
 hl:s.ln[r]? = some l
 ha:l[p]? = some a
 nz:a≠0
theorem gD {α:Type} {l:List α} {i:Nat} {a d:α} (h:l[i]? = some a):l.getD i d=a:=by simp[List.getD,h]
section
variable {s:Sh} {r p:Nat} {u v:Int} {l:List Rat} {a:Rat}
theorem Sh.exch_eq (h:s.At r p u v l a):s.exch r p=⟨s.inn.set r v,s.out.set p u,(s.ln.map fun l'=>putIn l' p (told l p)).set r (told l p),putIn s.gl p (told l p)⟩:=by
 unfold Sh.exch
 simp only [gD h.hl,gD h.hv,gD h.hu]
theorem Sh.Ok.exch (o:s.Ok) (h:s.At r p u v l a):(s.exch r p).Ok:=by
 rw[Sh.exch_eq h]
 have hl:=o.wd l (List.mem_of_getElem? h.hl)
 refine⟨by simp[o.ln],fun l' hl'=>?_,?_,o.un.swap h.hu h.hv⟩
 ·show l'.length=(s.out.set p u).length+1
  rw[List.length_set]
  rcases List.mem_or_eq_of_mem_set hl' with hm | hm
  ·obtain⟨k,hk,rfl⟩:=List.mem_map.mp hm
   rw[putIn_len _ _ _ (by rw[told_len,hl,o.wd k hk])]
   exact o.wd k hk
  ·rw[hm,told_len,hl]
 ·show (putIn s.gl p (told l p)).length=(s.out.set p u).length+1
  rw[List.length_set,putIn_len _ _ _ (by rw[told_len,hl,o.gl]),o.gl]
theorem Sh.vec_exch (h:s.At r p u v l a) (x:Int→Rat) (g:Rat):(s.exch r p).vec x g=(s.vec x g).set p (x u):=by
 rw[Sh.exch_eq h]
 have hp:p<(s.out.map x).length:=by rw[List.length_map]; exact (List.getElem?_eq_some_iff.mp h.hv).1
 show (s.out.set p u).map x++[g]=(s.out.map x++[g]).set p (x u)
 rw[List.set_append_left _ _ hp,List.map_set]
theorem Sh.vec_get (h:s.out[p]? = some v) (x:Int→Rat) (g:Rat):(s.vec x g)[p]? = some (x v):=by
 have hp:p<(s.out.map x).length:=by rw[List.length_map]; exact (List.getElem?_eq_some_iff.mp h).1
 show (s.out.map x++[g])[p]? = _
 rw[List.getElem?_append_left hp,List.getElem?_map,h]
 rfl
theorem Sh.put_same (o:s.Ok) (h:s.At r p u v l a) {x:Int→Rat} {g:Rat} (ht:x v=dot (told l p) ((s.vec x g).set p (x u))) {k:List Rat} (hk:k.length=s.out.length+1):dot (putIn k p (told l p)) ((s.vec x g).set p (x u))=dot k (s.vec x g):=by
 have hl:=o.wd l (List.mem_of_getElem? h.hl)
 have hp:p<s.out.length:=(List.getElem?_eq_some_iff.mp h.hv).1
 exact SH.put_same (c:=k[p]'(by omega)) (d:=(told l p)[p]'(by rw[told_len]; omega)) (List.getElem?_eq_getElem (by omega)) (List.getElem?_eq_getElem (by rw[told_len]; omega)) (by rw[told_len]; omega) (Sh.vec_get h.hv x g) ht.symm
theorem Sh.Fit.exch (o:s.Ok) (h:s.At r p u v l a) {x:Int→Rat} {g f:Rat} (ft:s.Fit x g f):(s.exch r p).Fit x g f:=by
 have hv:=Sh.vec_get h.hv x g
 have ht:x v=dot (told l p) ((s.vec x g).set p (x u)):=(told_at h.ha h.nz hv (ft.row r u l h.hu h.hl)).symm
 have ev:=Sh.vec_exch h x g
 refine⟨fun i w k h1 h2=>?_,?_⟩
 ·rw[ev]
  rw[Sh.exch_eq h] at h1 h2
  rcases get_set h1 with⟨e1,e2⟩ | ⟨e1,e2⟩ <;> rcases get_set h2 with⟨f1,f2⟩ | ⟨f1,f2⟩
  ·subst e2 f2; exact ht
  ·exact absurd e1 f1
  ·exact absurd f1 e1
  ·rw[List.getElem?_map] at f2
   cases hq:s.ln[i]? with
   | none=>rw[hq] at f2; cases f2
   | some k0=>
    rw[hq] at f2
    cases f2
    rw[Sh.put_same o h ht (o.wd k0 (List.mem_of_getElem? hq))]
    exact ft.row i w k0 e2 hq
 ·rw[ev,Sh.exch_eq h]
  rw[Sh.put_same o h ht o.gl]
  exact ft.gol
theorem Sh.Fit.unexch (o:s.Ok) (h:s.At r p u v l a) {x:Int→Rat} {g f:Rat} (ft:(s.exch r p).Fit x g f):s.Fit x g f:=by
 have hv:=Sh.vec_get h.hv x g
 have hp:p<(s.vec x g).length:=(List.getElem?_eq_some_iff.mp hv).1
 have ev:=Sh.vec_exch h x g
 have hr:r<s.inn.length:=(List.getElem?_eq_some_iff.mp h.hu).1
 have ht:x v=dot (told l p) ((s.vec x g).set p (x u)):=by
  rw[← ev]
  refine ft.row r v (told l p) ?_ ?_
  ·rw[Sh.exch_eq h]; simp[hr]
  ·rw[Sh.exch_eq h]; simp[o.ln,hr]
 have hb:dot l (s.vec x g)=x u:=by
  have hx:=told_back (v:=(s.vec x g).set p (x u)) h.ha h.nz (y:=x u) (by simp[hp])
  rw[← ht,List.set_set] at hx
  have e:(s.vec x g).set p (x v)=s.vec x g:=by
   apply List.ext_getElem?
   intro i
   rw[List.getElem?_set]
   split
   ·rename_i e; subst e; rw[hv]
   ·rfl
  rw[e] at hx
  exact hx
 refine⟨fun i w k h1 h2=>?_,?_⟩
 ·by_cases hi:i=r
  ·subst hi
   have ew:w=u:=Option.some.inj (h1.symm.trans h.hu)
   have ek:k=l:=Option.some.inj (h2.symm.trans h.hl)
   subst ew ek
   exact hb.symm
  ·have:=ft.row i w (putIn k p (told l p)) (by rw[Sh.exch_eq h]; simp[List.getElem?_set,Ne.symm hi,h1]) (by rw[Sh.exch_eq h]; simp[List.getElem?_set,Ne.symm hi,h2])
   rw[ev,Sh.put_same o h ht (o.wd k (List.mem_of_getElem? h2))] at this
   exact this
 ·have:=ft.gol
  rw[ev,Sh.exch_eq h] at this
  rw[← Sh.put_same o h ht o.gl]
  exact this
end
def idx:List Int→Int→Option Nat
 | [],_=>none
 | a :: l,u=>if a=u then some 0 else (idx l u).map (· + 1)
theorem idx_some:∀ {l:List Int} {u:Int} {i:Nat},idx l u=some i→l[i]? = some u
 | [],_,_,h=>by cases h
 | a :: l,u,i,h=>by
  unfold idx at h
  split at h
  ·rename_i e; cases h; rw[e]; rfl
  ·cases hq:idx l u with
   | none=>rw[hq] at h; cases h
   | some j=>rw[hq] at h; cases h; exact idx_some (l:=l) hq
theorem idx_none:∀ {l:List Int} {u:Int} {i:Nat},idx l u=none→l[i]?≠some u
 | [],_,_,_=>by simp
 | a :: l,u,i,h=>by
  unfold idx at h
  split at h
  ·cases h
  ·rename_i e
   have hq:idx l u=none:=by cases hq:idx l u with | none=>rfl | some j=>rw[hq] at h; cases h
   cases i with
   | zero=>intro z; exact e (Option.some.inj z)
   | succ i=>exact idx_none (l:=l) hq
def Sh.num (s:Sh) (w:List Rat) (g:Rat):Int→Rat:=fun n=>match idx s.out n with
 | some j=>w.getD j 0
 | none=>match idx s.inn n with
  | some i=>dot (s.ln.getD i []) (w++[g])
  | none=>0
theorem Sh.num_out {s:Sh} (o:s.Ok) {w:List Rat} {g:Rat} {j:Nat} {v:Int} (h:s.out[j]? = some v):s.num w g v=w.getD j 0:=by
 unfold Sh.num
 cases hq:idx s.out v with
 | none=>exact absurd h (idx_none hq)
 | some k=>rw[o.un.r _ _ _ (idx_some hq) h]
theorem Sh.num_inn {s:Sh} (o:s.Ok) {w:List Rat} {g:Rat} {i:Nat} {u:Int} {l:List Rat} (h:s.inn[i]? = some u) (hl:s.ln[i]? = some l):s.num w g u=dot l (w++[g]):=by
 unfold Sh.num
 cases hq:idx s.out u with
 | some k=>exact (o.un.x _ _ _ h (idx_some hq)).elim
 | none=>
  cases hk:idx s.inn u with
  | none=>exact absurd h (idx_none hk)
  | some k=>
   have e:=o.un.l _ _ _ (idx_some hk) h
   subst e
   show dot (s.ln.getD k []) (w++[g])=_
   rw[gD hl]
theorem Sh.num_vec {s:Sh} (o:s.Ok) {w:List Rat} {g:Rat} (hw:w.length=s.out.length):s.vec (s.num w g) g=w++[g]:=by
 unfold Sh.vec
 congr 1
 apply List.ext_getElem?
 intro i
 rw[List.getElem?_map]
 cases hq:s.out[i]? with
 | none=>
  have:s.out.length≤i:=List.getElem?_eq_none_iff.mp hq
  exact (List.getElem?_eq_none_iff.mpr (by omega)).symm
 | some v=>
  have hi:i<w.length:=by have:=(List.getElem?_eq_some_iff.mp hq).1; omega
  show some (s.num w g v)=_
  rw[Sh.num_out o hq,List.getElem?_eq_getElem hi,getD_of (List.getElem?_eq_getElem hi)]
theorem Sh.num_fit {s:Sh} (o:s.Ok) {w:List Rat} {g:Rat} (hw:w.length=s.out.length):s.Fit (s.num w g) g (dot s.gl (w++[g])):=
 ⟨fun i u l h1 h2=>by rw[Sh.num_vec o hw]; exact Sh.num_inn o h1 h2,by rw[Sh.num_vec o hw]⟩
end SH
namespace SH
def sm (n:Nat) (f:Nat→Int):Int:=match n with
 | 0=>0
 | n+1=>sm n f+f n
theorem pigeon:∀ (n:Nat) (f:Nat→Nat),(∀ i,i≤n→f i<n)→∃ i j,i<j∧j≤n∧f i=f j
 | 0,f,h=>absurd (h 0 (Nat.le_refl _)) (Nat.not_lt_zero _)
 | n+1,f,h=>by
  by_cases hc:∃ i,i≤n∧f i=f (n+1)
  ·obtain⟨i,hi,e⟩:=hc
   exact⟨i,n+1,by omega,Nat.le_refl _,e⟩
  ·-- swap the value n with f (n+1)
   have hne:∀ i,i≤n→f i≠f (n+1):=fun i hi e=>hc ⟨i,hi,e⟩
   let g:Nat→Nat:=fun i=>if f i=n then f (n+1) else f i
   have hg:∀ i,i≤n→g i<n:=by
    intro i hi
    have h1:=h i (by omega)
    have h2:=h (n+1) (Nat.le_refl _)
    have h3:=hne i hi
    show (if f i=n then f (n+1) else f i)<n
    split <;> omega
   obtain⟨i,j,hij,hj,e⟩:=pigeon n g hg
   refine⟨i,j,hij,by omega,?_⟩
   have h3:=hne i (by omega)
   have h4:=hne j hj
   have e':(if f i=n then f (n+1) else f i)=(if f j=n then f (n+1) else f j):=e
   split at e' <;> split at e' <;> omega
def dig (B c i:Nat):Nat:=c / B ^ i % B
theorem dig_eq {B:Nat} (hB:0<B):∀ (k c d:Nat),c<B ^ k→d<B ^ k→(∀ i,i<k→dig B c i=dig B d i)→c=d
 | 0,c,d,hc,hd,_=>by simp at hc hd; omega
 | k+1,c,d,hc,hd,h=>by
  have h0:c % B=d % B:=by simpa [dig] using h 0 (Nat.succ_pos _)
  have hq:c / B=d / B:=by
   refine dig_eq hB k (c / B) (d / B) ?_ ?_ fun i hi=>?_
   ·rw[Nat.div_lt_iff_lt_mul hB]; rw[Nat.pow_succ] at hc; exact hc
   ·rw[Nat.div_lt_iff_lt_mul hB]; rw[Nat.pow_succ] at hd; exact hd
   ·have:=h (i+1) (by omega)
    unfold dig at this ⊢
    rw[Nat.div_div_eq_div_mul,Nat.div_div_eq_div_mul,← Nat.pow_succ']
    exact this
  rw[← Nat.div_add_mod c B,← Nat.div_add_mod d B,h0,hq]
def put (C:Nat) (e:Nat→Nat):Nat→Nat
 | 0=>0
 | k+1=>put C e k*C+e k
theorem put_lt {C:Nat} {e:Nat→Nat}:∀ k,(∀ i,i<k→e i<C)→put C e k<C ^ k
 | 0,_=>by simp[put]
 | k+1,h=>by
  have h1:=put_lt k fun i hi=>h i (by omega)
  have h2:=h k (by omega)
  unfold put
  rw[Nat.pow_succ]
  have:(put C e k+1)*C≤C ^ k*C:=Nat.mul_le_mul_right _ h1
  rw[Nat.add_mul] at this
  omega
theorem put_inj {C:Nat} {e e':Nat→Nat}:∀ k,(∀ i,i<k→e i<C)→(∀ i,i<k→e' i<C)→put C e k=put C e' k→∀ i,i<k→e i=e' i
 | 0,_,_,_,i,hi=>absurd hi (Nat.not_lt_zero _)
 | k+1,h,h',q,i,hi=>by
  have a1:=h k (by omega)
  have a2:=h' k (by omega)
  unfold put at q
  have hC:0<C:=by omega
  have e1:put C e k=put C e' k:=by
   have this:(put C e k*C+e k) / C=(put C e' k*C+e' k) / C:=by rw[q]
   rw[Nat.mul_comm,Nat.mul_add_div hC,Nat.div_eq_of_lt a1,Nat.mul_comm,Nat.mul_add_div hC,Nat.div_eq_of_lt a2] at this
   simpa using this
  have e2:e k=e' k:=by rw[e1] at q; omega
  rcases Nat.lt_or_ge i k with hk | hk
  ·exact put_inj k (fun i hi=>h i (by omega)) (fun i hi=>h' i (by omega)) e1 i hk
  ·have:i=k:=by omega
   subst this; exact e2
theorem sm_sub (n:Nat) (f g:Nat→Int):sm n (fun i=>f i-g i)=sm n f-sm n g:=by
 induction n with
 | zero=>rfl
 | succ n ih=>unfold sm; rw[ih]; omega
theorem sm_congr {n:Nat} {f g:Nat→Int} (h:∀ i,i<n→f i=g i):sm n f=sm n g:=by
 induction n with
 | zero=>rfl
 | succ n ih=>unfold sm; rw[ih fun i hi=>h i (by omega),h n (by omega)]
theorem sm_bounds {n:Nat} {f lo hi:Nat→Int} (h:∀ i,i<n→lo i≤f i∧f i≤hi i):sm n lo≤sm n f∧sm n f≤sm n hi:=by
 induction n with
 | zero=>exact⟨Int.le_refl _,Int.le_refl _⟩
 | succ n ih=>
  have:=ih fun i hi=>h i (by omega)
  have:=h n (by omega)
  unfold sm
  omega
theorem sm_const (n:Nat) (c:Int):sm n (fun _=>c)=n*c:=by
 induction n with
 | zero=>simp[sm]
 | succ n ih=>unfold sm; rw[ih]; grind
theorem siegel {k N M:Nat} (hN:N=k+1) (hM:0<M) (A:Nat→Nat→Int) (hA:∀ d i,d<k→i<N→(A d i).natAbs≤M) :
  ∃ z:Nat→Int,(∃ i,i<N∧z i≠0)∧(∀ i,(z i).natAbs≤(N*(2*M)) ^ k)∧∀ d,d<k→sm N (fun i=>A d i*z i)=0:=by
 generalize hX:(N*(2*M)) ^ k=X
 have hB:0<N*(2*M):=by subst hN; exact Nat.mul_pos (by omega) (by omega)
 have hX1:0<X:=by rw[← hX]; exact Nat.pow_pos hB
 let S:Nat→Nat→Int:=fun c d=>sm N (fun i=>A d i*(dig (X+1) c i:Nat))
 have hS:∀ c d,d<k→-(N*(M*X):Nat)≤S c d∧S c d≤(N*(M*X):Nat):=by
  intro c d hd
  have:=sm_bounds (n:=N) (f:=fun i=>A d i*(dig (X+1) c i:Nat)) (lo:=fun _=>-((M*X:Nat):Int)) (hi:=fun _=>((M*X:Nat):Int)) (fun i hi=>by
   have h1:=hA d i hd hi
   have h2:dig (X+1) c i≤X:=Nat.le_of_lt_succ (Nat.mod_lt _ (Nat.succ_pos _))
   have h3:(A d i*((dig (X+1) c i:Nat):Int)).natAbs≤M*X:=by
    rw[Int.natAbs_mul,Int.natAbs_natCast]
    exact Nat.mul_le_mul h1 h2
   omega)
  rw[sm_const,sm_const] at this
  have e:((N*(M*X):Nat):Int)=(N:Int)*((M*X:Nat):Int):=by rw[Int.natCast_mul]
  rw[e]
  constructor
  ·have:=this.1; grind
  ·exact this.2
 let C:=N*(2*M)*X+1
 let T:Nat→Nat→Nat:=fun c d=>(S c d+(N*(M*X):Nat)).toNat
 have e2:2*(N*(M*X))=N*(2*M)*X:=by grind
 have hT:∀ c d,d<k→T c d<C:=by
  intro c d hd
  obtain⟨h1,h2⟩:=hS c d hd
  show (S c d+(N*(M*X):Nat)).toNat<N*(2*M)*X+1
  rw[← e2]
  omega
 have hlt:C ^ k<(X+1) ^ N:=by
  have h1:C≤N*(2*M)*(X+1):=by show N*(2*M)*X+1≤_; rw[Nat.mul_add]; omega
  have h2:C ^ k≤(N*(2*M)*(X+1)) ^ k:=Nat.pow_le_pow_left h1 k
  rw[Nat.mul_pow,hX] at h2
  rw[hN,Nat.pow_succ,Nat.mul_comm]
  have h3:0<(X+1) ^ k:=Nat.pow_pos (by omega)
  have h4:X*(X+1) ^ k<(X+1)*(X+1) ^ k:=Nat.mul_lt_mul_of_pos_right (by omega) h3
  omega
 obtain⟨c1,c2,hlt12,hle,e⟩:=pigeon (C ^ k) (fun c=>put C (T c) k) fun c _=>put_lt k fun d hd=>hT c d hd
 have eT:=put_inj k (fun d hd=>hT c1 d hd) (fun d hd=>hT c2 d hd) e
 refine⟨fun i=>(dig (X+1) c1 i:Nat)-(dig (X+1) c2 i:Nat),?_,?_,?_⟩
 ·rcases Classical.em (∃ i,i<N∧((dig (X+1) c1 i:Nat):Int)-(dig (X+1) c2 i:Nat)≠0) with h | h
  ·exact h
  ·have:c1=c2:=dig_eq (B:=X+1) (by omega) N c1 c2 (by omega) (by omega) fun i hi=>by
    rcases Classical.em (dig (X+1) c1 i=dig (X+1) c2 i) with q | q
    ·exact q
    ·exact absurd ⟨i,hi,by omega⟩ h
   omega
 ·intro i
  have h1:dig (X+1) c1 i≤X:=Nat.le_of_lt_succ (Nat.mod_lt _ (Nat.succ_pos _))
  have h2:dig (X+1) c2 i≤X:=Nat.le_of_lt_succ (Nat.mod_lt _ (Nat.succ_pos _))
  show (((dig (X+1) c1 i:Nat):Int)-(dig (X+1) c2 i:Nat)).natAbs≤X
  omega
 ·intro d hd
  have q:=eT d hd
  have q2:S c1 d=S c2 d:=by
   have a:=hS c1 d hd
   have b:=hS c2 d hd
   have q':(S c1 d+(N*(M*X):Nat)).toNat=(S c2 d+(N*(M*X):Nat)).toNat:=q
   omega
  rw[sm_congr (g:=fun i=>A d i*(dig (X+1) c1 i:Nat)-A d i*(dig (X+1) c2 i:Nat)) fun i hi=>by grind,sm_sub]
  have q3:sm N (fun i=>A d i*(dig (X+1) c1 i:Nat))=sm N (fun i=>A d i*(dig (X+1) c2 i:Nat)):=q2
  omega
end SH
namespace SH
def sq (n:Nat) (f:Nat→Rat):Rat:=match n with
 | 0=>0
 | n+1=>sq n f+f n
theorem sq_congr {n:Nat} {f g:Nat→Rat} (h:∀ i,i<n→f i=g i):sq n f=sq n g:=by
 induction n with
 | zero=>rfl
 | succ n ih=>unfold sq; rw[ih fun i hi=>h i (by omega),h n (by omega)]
theorem sq_add (n:Nat) (f g:Nat→Rat):sq n (fun i=>f i+g i)=sq n f+sq n g:=by
 induction n with
 | zero=>show (0:Rat)=0+0; grind
 | succ n ih=>unfold sq; rw[ih]; grind
theorem sq_mul (n:Nat) (c:Rat) (f:Nat→Rat):sq n (fun i=>c*f i)=c*sq n f:=by
 induction n with
 | zero=>simp[sq]
 | succ n ih=>unfold sq; rw[ih]; grind
theorem sq_zero (n:Nat):sq n (fun _=>0)=0:=by
 induction n with
 | zero=>rfl
 | succ n ih=>unfold sq; rw[ih]; grind
theorem sq_swap (n m:Nat) (f:Nat→Nat→Rat):sq n (fun i=>sq m (fun d=>f i d))=sq m (fun d=>sq n (fun i=>f i d)):=by
 induction n with
 | zero=>rw[show sq m (fun d=>sq 0 (fun i=>f i d))=sq m (fun _=>0) from rfl,sq_zero]; rfl
 | succ n ih=>
  show sq n (fun i=>sq m (fun d=>f i d))+sq m (fun d=>f n d)=sq m (fun d=>sq n (fun i=>f i d)+f n d)
  rw[ih,sq_add]
theorem sq_one {n j:Nat} (hj:j<n) (f:Nat→Rat) (h:∀ i,i<n→i≠j→f i=0):sq n f=f j:=by
 induction n with
 | zero=>omega
 | succ n ih=>
  unfold sq
  rcases Nat.lt_or_ge j n with q | q
  ·rw[ih q fun i hi=>h i (by omega),h n (by omega) (by omega)]; grind
  ·have:j=n:=by omega
   subst this
   rw[sq_congr (g:=fun _=>0) fun i hi=>h i (by omega) (by omega),sq_zero]; grind
theorem sq_shift (n:Nat) (f:Nat→Rat):sq (n+1) f=f 0+sq n (fun i=>f (i+1)):=by
 induction n with
 | zero=>show 0+f 0=f 0+0; grind
 | succ n ih=>show sq (n+1) f+f (n+1)=f 0+(sq n (fun i=>f (i+1))+f (n+1)); rw[ih]; grind
theorem dot_sq:∀ (l v:List Rat) (n:Nat),l.length=n→v.length=n→dot l v=sq n (fun i=>l.getD i 0*v.getD i 0)
 | [],_,0,_,_=>dot_nil_l _
 | a :: l,b :: v,n+1,h1,h2=>by
  rw[sq_shift,dot_cons,dot_sq l v n (by simpa using h1) (by simpa using h2)]
  rfl
 | [],_,n+1,h,_=>by simp at h
 | _ :: _,[],n+1,_,h=>by simp at h
 | _ :: _,_,0,h,_=>by simp at h
theorem sm_cast (n:Nat) (f:Nat→Int):((sm n f:Int):Rat)=sq n (fun i=>((f i:Int):Rat)):=by
 induction n with
 | zero=>rfl
 | succ n ih=>unfold sm sq; rw[← ih]; exact Rat.intCast_add ..
def Wh (c M:Nat) (a:Rat):Prop:=∃ z:Int,a*((c:Int):Rat)=(z:Rat)∧z.natAbs≤M
def WhL (c M:Nat) (l:List Rat):Prop:=∀ (i:Nat) (a:Rat),l[i]? = some a→Wh c M a
theorem wh_zero (c M:Nat):Wh c M 0:=⟨0,by simp,by simp⟩
theorem wh_getD {c M:Nat} {l:List Rat} (h:WhL c M l) (i:Nat):Wh c M (l.getD i 0):=by
 cases hq:l[i]? with
 | none=>rw[show l.getD i 0=0 by simp[List.getD,hq]]; exact wh_zero c M
 | some a=>rw[getD_of hq]; exact h i a hq
structure Sh.Eqv (s0 s:Sh):Prop where
 ok0:s0.Ok
 ok:s.Ok
 n:s.out.length=s0.out.length
 to:∀ x g f,s0.Fit x g f→s.Fit x g f
 fro:∀ x g f,s.Fit x g f→s0.Fit x g f
 nmo:∀ q∈s.out,q∈s0.inn∨q∈s0.out
 nmi:∀ q∈s.inn,q∈s0.inn∨q∈s0.out
theorem Sh.Eqv.refl {s:Sh} (o:s.Ok):s.Eqv s:=⟨o,o,rfl,fun _ _ _ h=>h,fun _ _ _ h=>h,fun _ h=>.inr h,fun _ h=>.inl h⟩
theorem Sh.Eqv.step {s0 s:Sh} (e:s0.Eqv s) {r p:Nat} {u v:Int} {l:List Rat} {a:Rat} (h:s.At r p u v l a):s0.Eqv (s.exch r p):=by
 refine⟨e.ok0,e.ok.exch h,?_,fun x g f q=>(e.to x g f q).exch e.ok h,fun x g f q=>e.fro x g f (q.unexch e.ok h),fun q hq=>?_,fun q hq=>?_⟩
 ·rw[Sh.exch_eq h]; simp[e.n]
 ·rw[Sh.exch_eq h] at hq
  rcases List.mem_or_eq_of_mem_set hq with z | z
  ·exact e.nmo q z
  ·subst z; exact e.nmi _ (List.mem_of_getElem? h.hu)
 ·rw[Sh.exch_eq h] at hq
  rcases List.mem_or_eq_of_mem_set hq with z | z
  ·exact e.nmi q z
  ·subst z; exact e.nmo _ (List.mem_of_getElem? h.hv)
def Sh.row (s:Sh) (q:Int):List Rat:=match idx s.out q with
 | some j=>(List.replicate (s.out.length+1) 0).set j 1
 | none=>match idx s.inn q with
  | some i=>s.ln.getD i []
  | none=>List.replicate (s.out.length+1) 0
section
variable {s0 s:Sh} {c M:Nat}
theorem wh_rep (c M n:Nat):WhL c M (List.replicate n 0):=fun i a h=>by
 rw[List.getElem?_replicate] at h
 split at h
 ·cases h; exact wh_zero c M
 ·cases h
theorem wh_unit (hc:c≤M) (n j:Nat):WhL c M ((List.replicate n 0).set j 1):=fun i a h=>by
 rcases get_set h with⟨_,e⟩ | ⟨_,e⟩
 ·subst e; exact⟨c,by rw[Rat.one_mul],by simpa using hc⟩
 ·exact wh_rep c M n i a e
theorem Sh.row_wh (o:s0.Ok) (hc:c≤M) (hl:∀ l∈s0.ln,WhL c M l) (q:Int):WhL c M (s0.row q):=by
 unfold Sh.row
 split
 ·exact wh_unit hc _ _
 ·split
  ·rename_i i hi
   intro j a ha
   cases hq:s0.ln[i]? with
   | none=>rw[show s0.ln.getD i []=[] by simp[List.getD,hq]] at ha; simp at ha
   | some l=>rw[gD hq] at ha; exact hl l (List.mem_of_getElem? hq) j a ha
  ·exact wh_rep _ _ _
theorem Sh.row_len (o:s0.Ok) {q:Int}:(s0.row q).length=s0.out.length+1:=by
 unfold Sh.row
 split
 ·simp
 ·split
  ·rename_i i hi
   have hlt:i<s0.ln.length:=by rw[o.ln]; exact (List.getElem?_eq_some_iff.mp (idx_some hi)).1
   rw[gD (List.getElem?_eq_getElem hlt)]
   exact o.wd _ (List.getElem_mem hlt)
  ·simp
theorem Sh.row_val (o:s0.Ok) {q:Int} (hq:q∈s0.inn∨q∈s0.out) {x:Int→Rat} {g f:Rat} (ft:s0.Fit x g f):dot (s0.row q) (s0.vec x g)=x q:=by
 unfold Sh.row
 cases h1:idx s0.out q with
 | some j=>
  have hj:=idx_some h1
  have hv:=Sh.vec_get hj x g
  have hjl:j<s0.out.length:=(List.getElem?_eq_some_iff.mp hj).1
  show dot ((List.replicate (s0.out.length+1) 0).set j 1) (s0.vec x g)=x q
  rw[dot_set_l _ _ j 0 (x q) 1 (by rw[List.getElem?_replicate,if_pos (by omega)]) hv]
  have:∀ (n:Nat) (v:List Rat),dot (List.replicate n 0) v=0:=by
   intro n
   induction n with
   | zero=>intro v; exact dot_nil_l v
   | succ n ih=>intro v; cases v with
    | nil=>rfl
    | cons b v=>show 0*b+dot (List.replicate n 0) v=0; rw[ih]; grind
  rw[this]; grind
 | none=>
  cases h2:idx s0.inn q with
  | some i=>
   have hi:=idx_some h2
   have hlt:i<s0.ln.length:=by rw[o.ln]; exact (List.getElem?_eq_some_iff.mp hi).1
   show dot (s0.ln.getD i []) (s0.vec x g)=x q
   rw[gD (List.getElem?_eq_getElem hlt)]
   exact (ft.row i q _ hi (List.getElem?_eq_getElem hlt)).symm
  | none=>
   rcases hq with z | z
   ·obtain⟨i,hi⟩:=List.mem_iff_getElem?.mp z
    exact absurd hi (idx_none h2)
   ·obtain⟨i,hi⟩:=List.mem_iff_getElem?.mp z
    exact absurd hi (idx_none h1)
theorem vec_len (s:Sh) (x:Int→Rat) (g:Rat):(s.vec x g).length=s.out.length+1:=by simp[Sh.vec]
theorem Sh.Eqv.small (e:s0.Eqv s) (hc0:0<c) (hc:c≤M) (hl:∀ l∈s0.ln,WhL c M l) {R:List Rat} (hR:WhL c M R) (hRl:R.length=s0.out.length+1) {l:List Rat}
  (hv:∀ x g f,s0.Fit x g f→dot R (s0.vec x g)=dot l (s.vec x g)) (hll:l.length=s.out.length+1) :
  ∀ (j:Nat) (a:Rat),l[j]? = some a→∃ t b:Int,b≠0∧a=Rat.divInt t b∧t.natAbs≤((s0.out.length+2)*(2*M)) ^ (s0.out.length+1)∧b.natAbs≤((s0.out.length+2)*(2*M)) ^ (s0.out.length+1):=by
 generalize hn:s0.out.length+1=k
 have hM:0<M:=by omega
 let V:Nat→List Rat:=fun i=>if i<s0.out.length then s0.row (s.out.getD i 0) else if i=s0.out.length then (List.replicate k 0).set s0.out.length 1 else R
 have hVw:∀ i,WhL c M (V i):=by
  intro i
  show WhL c M (if i<s0.out.length then s0.row (s.out.getD i 0) else if i=s0.out.length then (List.replicate k 0).set s0.out.length 1 else R)
  split
  ·exact Sh.row_wh e.ok0 hc hl _
  ·split
   ·exact wh_unit hc _ _
   ·exact hR
 have hVl:∀ i,(V i).length=k:=by
  intro i
  show (if i<s0.out.length then s0.row (s.out.getD i 0) else if i=s0.out.length then (List.replicate k 0).set s0.out.length 1 else R).length=k
  split
  ·rw[Sh.row_len e.ok0,hn]
  ·split
   ·simp
   ·rw[hRl,hn]
 have hA:∀ d i,∃ z:Int,(V i).getD d 0*((c:Int):Rat)=(z:Rat)∧z.natAbs≤M:=fun d i=>wh_getD (hVw i) d
 obtain⟨z,⟨i0,hi0,hz0⟩,hzb,hz⟩:=siegel (k:=k) (N:=k+1) rfl hM (fun d i=>Classical.choose (hA d i)) fun d i _ _=>(Classical.choose_spec (hA d i)).2
 have hcq:((c:Int):Rat)≠0:=by
  intro h
  have:((c:Int):Rat)=((0:Int):Rat):=h
  have:=Rat.intCast_inj.mp this
  omega
 have hzq:∀ d,d<k→sq (k+1) (fun i=>(V i).getD d 0*(z i:Rat))=0:=by
  intro d hd
  have h1:=congrArg (fun t:Int=>(t:Rat)) (hz d hd)
  have h2:((sm (k+1) (fun i=>Classical.choose (hA d i)*z i):Int):Rat)=0:=h1
  rw[sm_cast] at h2
  have h3:sq (k+1) (fun i=>((Classical.choose (hA d i)*z i:Int):Rat))=((c:Int):Rat)*sq (k+1) (fun i=>(V i).getD d 0*(z i:Rat)):=by
   rw[← sq_mul]
   refine sq_congr fun i _=>?_
   rw[Rat.intCast_mul,← (Classical.choose_spec (hA d i)).1]
   grind
  rw[h3] at h2
  rcases Rat.mul_eq_zero.mp h2 with q | q
  ·exact absurd q hcq
  ·exact q
 have key:∀ x g f,s0.Fit x g f→sq k (fun i=>(z i:Rat)*(s.vec x g).getD i 0)+(z k:Rat)*dot l (s.vec x g)=0:=by
  intro x g f ft
  have h0:sq (k+1) (fun i=>(z i:Rat)*dot (V i) (s0.vec x g))=0:=by
   have h1:sq (k+1) (fun i=>(z i:Rat)*dot (V i) (s0.vec x g))=sq (k+1) (fun i=>sq k (fun d=>(s0.vec x g).getD d 0*((V i).getD d 0*(z i:Rat)))):=by
    refine sq_congr fun i _=>?_
    rw[dot_sq (V i) (s0.vec x g) k (hVl i) (by rw[vec_len,hn]),← sq_mul]
    exact sq_congr fun d _=>by grind
   rw[h1,sq_swap]
   rw[sq_congr (g:=fun _=>0) fun d hd=>by rw[sq_mul,hzq d hd]; grind]
   exact sq_zero k
  have h2:sq (k+1) (fun i=>(z i:Rat)*dot (V i) (s0.vec x g))=sq k (fun i=>(z i:Rat)*dot (V i) (s0.vec x g))+(z k:Rat)*dot (V k) (s0.vec x g):=rfl
  rw[h2] at h0
  have h3:V k=R:=by
   show (if k<s0.out.length then s0.row (s.out.getD k 0) else if k=s0.out.length then (List.replicate k 0).set s0.out.length 1 else R)=R
   rw[if_neg (by omega),if_neg (by omega)]
  rw[h3,hv x g f ft] at h0
  refine Eq.trans ?_ h0
  congr 1
  refine sq_congr fun i hi=>?_
  congr 1
  show _=dot (if i<s0.out.length then s0.row (s.out.getD i 0) else if i=s0.out.length then (List.replicate k 0).set s0.out.length 1 else R) (s0.vec x g)
  by_cases hlt:i<s0.out.length
  ·rw[if_pos hlt]
   have hi2:i<s.out.length:=by rw[e.n]; exact hlt
   have ho:=List.getElem?_eq_getElem hi2
   rw[gD ho,Sh.row_val e.ok0 (e.nmo _ (List.getElem_mem hi2)) ft,getD_of (Sh.vec_get ho x g)]
  ·have hie:i=s0.out.length:=by omega
   rw[if_neg hlt,if_pos hie]
   have e1:(s0.vec x g)[s0.out.length]? = some g:=by
    show (s0.out.map x++[g])[s0.out.length]? = some g
    rw[List.getElem?_append_right (by simp)]; simp
   have e2:(s.vec x g)[i]? = some g:=by
    show (s.out.map x++[g])[i]? = some g
    rw[List.getElem?_append_right (by simp[e.n,hie])]; simp[e.n,hie]
   rw[getD_of e2,dot_set_l _ _ s0.out.length 0 g 1 (by rw[List.getElem?_replicate,if_pos (by omega)]) e1]
   have:∀ (n:Nat) (v:List Rat),dot (List.replicate n 0) v=0:=by
    intro n
    induction n with
    | zero=>intro v; exact dot_nil_l v
    | succ n ih=>intro v; cases v with
     | nil=>rfl
     | cons b v=>show 0*b+dot (List.replicate n 0) v=0; rw[ih]; grind
   rw[this]; grind
 have hk2:k=s.out.length+1:=by rw[← hn,e.n]
 have unit:∀ (j:Nat) (a:Rat),l[j]? = some a→(z j:Rat)+(z k:Rat)*a=0:=by
  intro j a ha
  have hj:j<k:=by have:=(List.getElem?_eq_some_iff.mp ha).1; omega
  let W:List Rat:=(List.replicate k 0).set j 1
  have hW:W=W.take s.out.length++[W.getD s.out.length 0]:=by
   have hWl:W.length=s.out.length+1:=by show ((List.replicate k 0).set j 1).length=_; simp[hk2]
   apply List.ext_getElem?
   intro i
   rcases Nat.lt_or_ge i s.out.length with q | q
   ·rw[List.getElem?_append_left (by simp; omega),List.getElem?_take,if_pos q]
   ·rw[List.getElem?_append_right (by simp; omega)]
    have hmin:(W.take s.out.length).length=s.out.length:=by simp; omega
    rw[hmin]
    rcases Nat.eq_or_lt_of_le q with q2 | q2
    ·subst q2
     rw[Nat.sub_self]
     show _=some (W.getD s.out.length 0)
     have hlt:s.out.length<W.length:=by omega
     rw[List.getElem?_eq_getElem hlt,getD_of (List.getElem?_eq_getElem hlt)]
    ·rw[List.getElem?_eq_none_iff.mpr (by omega),List.getElem?_eq_none_iff.mpr (by simp; omega)]
  have hwl:(W.take s.out.length).length=s.out.length:=by
   show (((List.replicate k 0).set j 1).take s.out.length).length=_
   simp; omega
  have ft:=Sh.num_fit e.ok (w:=W.take s.out.length) (g:=W.getD s.out.length 0) hwl
  have ky:=key _ _ _ (e.fro _ _ _ ft)
  rw[Sh.num_vec e.ok hwl,← hW] at ky
  rw[dot_unit ha hj] at ky
  rw[sq_one hj _ fun i hi hne=>?_] at ky
  ·have:W.getD j 0=1:=getD_of (by show ((List.replicate k 0).set j 1)[j]? = some 1; simp[hj])
   rw[this] at ky
   grind
  ·have:W.getD i 0=0:=getD_of (by
    show ((List.replicate k 0).set j 1)[i]? = some 0
    rw[List.getElem?_set,if_neg (by omega),List.getElem?_replicate,if_pos hi])
   rw[this]; grind
 have hzk:z k≠0:=by
  intro hz0'
  apply hz0
  rcases Nat.lt_or_ge i0 k with q | q
  ·have hil:i0<l.length:=by omega
   have h:=unit i0 _ (List.getElem?_eq_getElem hil)
   rw[hz0'] at h
   have h':((z i0:Int):Rat)=((0:Int):Rat):=by
    have:((0:Int):Rat)=0:=rfl
    rw[this] at h ⊢
    grind
   exact Rat.intCast_inj.mp h'
  ·have:i0=k:=by omega
   rw[this]; exact hz0'
 intro j a ha
 refine⟨-(z j),z k,hzk,?_,?_,?_⟩
 ·have h:=unit j a ha
  have hne:((z k:Int):Rat)≠0:=fun q=>hzk (Rat.intCast_inj.mp (show ((z k:Int):Rat)=((0:Int):Rat) from q))
  rw[Rat.divInt_eq_div]
  have:((-(z j):Int):Rat) = -((z j:Int):Rat):=Rat.intCast_neg ..
  rw[this]
  grind
 ·rw[Int.natAbs_neg]
  have:=hzb j
  rw[← hn] at this ⊢
  exact this
 ·have:=hzb k
  rw[← hn] at this ⊢
  exact this
end
end SH
namespace SH
theorem Sh.Eqv.sizes {s0 s:Sh} {c M:Nat} (e:s0.Eqv s) (hc0:0<c) (hc:c≤M) (hl:∀ l∈s0.ln,WhL c M l) (hg:WhL c M s0.gl) {l:List Rat} (h:l∈s.ln∨l=s.gl) :
  ∀ (j:Nat) (a:Rat),l[j]? = some a→∃ t b:Int,b≠0∧a=Rat.divInt t b∧t.natAbs≤((s0.out.length+2)*(2*M)) ^ (s0.out.length+1)∧b.natAbs≤((s0.out.length+2)*(2*M)) ^ (s0.out.length+1):=by
 rcases h with h | h
 ·obtain⟨i,hi⟩:=List.mem_iff_getElem?.mp h
  have hil:i<s.inn.length:=by rw[← e.ok.ln]; exact (List.getElem?_eq_some_iff.mp hi).1
  have hu:=List.getElem?_eq_getElem hil
  refine e.small hc0 hc hl (R:=s0.row s.inn[i]) (Sh.row_wh e.ok0 hc hl _) (Sh.row_len e.ok0) (fun x g f ft=>?_) (e.ok.wd l h)
  rw[Sh.row_val e.ok0 (e.nmi _ (List.getElem_mem hil)) ft]
  exact (e.to x g f ft).row i _ l hu hi
 ·subst h
  exact e.small hc0 hc hl hg e.ok0.gl (fun x g f ft=>by rw[← ft.gol]; exact (e.to x g f ft).gol) e.ok.gl
theorem dot_nonpos:∀ {l v:List Rat},(∀ (j:Nat) (a b:Rat),l[j]? = some a→v[j]? = some b→a*b≤0)→dot l v≤0
 | [],v,_=>by rw[dot_nil_l]; grind
 | _ :: _,[],_=>by rw[dot_nil_r]; grind
 | a :: l,b :: v,h=>by
  have h0:=h 0 a b rfl rfl
  have ih:=dot_nonpos (l:=l) (v:=v) fun j x y hx hy=>h (j+1) x y hx hy
  rw[dot_cons]
  grind
theorem dot_neg:∀ {l v:List Rat} {p:Nat} {c d:Rat},(∀ (j:Nat) (a b:Rat),l[j]? = some a→v[j]? = some b→a*b≤0)→l[p]? = some c→v[p]? = some d→c*d<0→dot l v<0
 | [],v,_,_,_,_,h,_,_=>by simp at h
 | _ :: _,[],_,_,_,_,_,h,_=>by simp at h
 | a :: l,b :: v,0,c,d,h,hc,hd,hn=>by
  simp at hc hd; subst hc hd
  have ih:=dot_nonpos (l:=l) (v:=v) fun j x y hx hy=>h (j+1) x y hx hy
  rw[dot_cons]
  grind
 | a :: l,b :: v,p+1,c,d,h,hc,hd,hn=>by
  have h0:=h 0 a b rfl rfl
  have ih:=dot_neg (l:=l) (v:=v) (p:=p) (c:=c) (d:=d) (fun j x y hx hy=>h (j+1) x y hx hy) (by simpa using hc) (by simpa using hd) hn
  rw[dot_cons]
  grind
theorem dot_app:∀ (l v:List Rat) (g:Rat),l.length=v.length+1→dot l (v++[g])=dot (l.take v.length) v+l.getD v.length 0*g
 | [],_,_,h=>by simp at h
 | [a],[],g,_=>by show a*g+0=0+a*g; grind
 | a :: l,b :: v,g,h=>by
  have ih:=dot_app l v g (by simpa using h)
  show a*b+dot l (v++[g])=a*b+dot (l.take v.length) v+l.getD v.length 0*g
  rw[ih]; grind
 | _ :: _ :: _,[],_,h=>by simp at h
theorem mul_np {a b:Rat} (ha:a≤0) (hb:0≤b):a*b≤0:=by
 have:=Rat.mul_nonneg (show 0≤-a by grind) hb
 grind
theorem mul_ng {a b:Rat} (ha:0<a) (hb:b<0):a*b<0:=by
 have:=Rat.mul_pos ha (show 0 < -b by grind)
 grind
def Sh.base (s:Sh) (l:List Rat):Rat:=l.getD s.out.length 0
structure RuleA (s:Sh) (u v:Int) (l:List Rat) (a:Rat):Prop where
 short:s.base l<0
 help:0<a
 ls:∀ (i:Nat) (w:Int) (k:List Rat),s.inn[i]? = some w→s.ln[i]? = some k→s.base k<0→u≤w
 lg:∀ (j:Nat) (w:Int),s.out[j]? = some w→0<s.gl.getD j 0→u<w
 lh:∀ (j:Nat) (w:Int),s.out[j]? = some w→0<l.getD j 0→v≤w
structure RuleB (s:Sh) (p:Nat) (u v:Int) (a:Rat):Prop where
 gain:0<s.gl.getD p 0
 bnd:a<0
 lg:∀ (j:Nat) (w:Int),s.out[j]? = some w→0<s.gl.getD j 0→v≤w
 ls:∀ (i:Nat) (w:Int) (k:List Rat),s.inn[i]? = some w→s.ln[i]? = some k→s.base k<0→v<w
 lb:∀ (i:Nat) (w:Int) (k:List Rat),s.inn[i]? = some w→s.ln[i]? = some k→k.getD p 0<0→u≤w
def Step (s s':Sh) (u v:Int):Prop:=∃ r p l a,s.At r p u v l a∧s'=s.exch r p∧(RuleA s u v l a∨RuleB s p u v a)
structure TRow (s:Sh) (k:Int) (l:List Rat):Prop where
 len:l.length=s.out.length+1
 lo:∀ (j:Nat) (w:Int),s.out[j]? = some w→w<k→l.getD j 0≤0
 at_:∃ p,s.out[p]? = some k∧0<l.getD p 0
structure TNum (s:Sh) (k:Int) (y:Int→Rat):Prop where
 lo:∀ w,w<k→0≤y w
 at_:y k<0
 hi:∀ w∈s.out,k<w→y w=0
theorem vec_split (s:Sh) (y:Int→Rat) (g:Rat) {l:List Rat} (hl:l.length=s.out.length+1):dot l (s.vec y g)=dot (l.take s.out.length) (s.out.map y)+s.base l*g:=by
 have:=dot_app l (s.out.map y) g (by simpa using hl)
 rw[List.length_map] at this
 exact this
theorem take_getD {l:List Rat} {n j:Nat} {a:Rat} (h:(l.take n)[j]? = some a):l.getD j 0=a:=by
 rw[List.getElem?_take] at h
 split at h
 ·exact getD_of h
 ·cases h
theorem trow_neg {s:Sh} (o:s.Ok) {k:Int} {l:List Rat} {y:Int→Rat} (g:Rat) (R:TRow s k l) (Y:TNum s k y):dot l (s.vec y g)<s.base l*g:=by
 rw[vec_split s y g R.len]
 obtain⟨p,hp,hpos⟩:=R.at_
 have hpl:p<s.out.length:=(List.getElem?_eq_some_iff.mp hp).1
 have:dot (l.take s.out.length) (s.out.map y)<0:=by
  refine dot_neg (p:=p) (c:=l.getD p 0) (d:=y k) (fun j a b ha hb=>?_) ?_ ?_ (mul_ng hpos Y.at_)
  ·rw[List.getElem?_map] at hb
   cases hw:s.out[j]? with
   | none=>rw[hw] at hb; cases hb
   | some w=>
    rw[hw] at hb
    have eb:y w=b:=Option.some.inj hb
    have ea:=take_getD ha
    subst eb ea
    rcases Int.lt_or_le w k with q | q
    ·exact mul_np (R.lo j w hw q) (Y.lo w q)
    ·rcases Int.lt_or_eq_of_le q with q | q
     ·rw[Y.hi w (List.mem_of_getElem? hw) q]; grind
     ·subst q
      have e:=o.un.r _ _ _ hw hp
      subst e
      have:=mul_ng hpos Y.at_
      grind
  ·rw[List.getElem?_take,if_pos hpl,List.getElem?_eq_getElem (by rw[R.len]; omega),getD_of (List.getElem?_eq_getElem (by rw[R.len]; omega))]
  ·rw[List.getElem?_map,hp]; rfl
 grind
def Sh.pt (s:Sh):Int→Rat:=s.num (List.replicate s.out.length 0) 1
def Sh.way (s:Sh) (p:Nat):Int→Rat:=s.num ((List.replicate s.out.length 0).set p 1) 0
section
variable {s:Sh}
theorem base_dot (o:s.Ok) {l:List Rat} (hl:l.length=s.out.length+1):dot l (List.replicate s.out.length 0++[1])=s.base l:=by
 rw[dot_app l _ 1 (by simpa using hl),dot_zero,List.length_replicate]
 show 0+s.base l*1=s.base l
 grind
theorem way_dot (o:s.Ok) {l:List Rat} (hl:l.length=s.out.length+1) {p:Nat} (hp:p<s.out.length):dot l ((List.replicate s.out.length 0).set p 1++[0])=l.getD p 0:=by
 rw[dot_app l _ 0 (by simpa using hl)]
 have h:(l.take s.out.length)[p]? = some (l.getD p 0):=by
  rw[List.getElem?_take,if_pos hp,List.getElem?_eq_getElem (by omega),getD_of (List.getElem?_eq_getElem (by omega))]
 rw[List.length_set,List.length_replicate,dot_unit h hp]
 grind
theorem pt_fit (o:s.Ok):s.Fit s.pt 1 (s.base s.gl):=by
 have:=Sh.num_fit o (w:=List.replicate s.out.length 0) (g:=1) (by simp)
 rw[base_dot o o.gl] at this
 exact this
theorem way_fit (o:s.Ok) {p:Nat} (hp:p<s.out.length):s.Fit (s.way p) 0 (s.gl.getD p 0):=by
 have:=Sh.num_fit o (w:=(List.replicate s.out.length 0).set p 1) (g:=0) (by simp)
 rw[way_dot o o.gl hp] at this
 exact this
theorem pt_out (o:s.Ok) {j:Nat} {w:Int} (h:s.out[j]? = some w):s.pt w=0:=by
 unfold Sh.pt
 rw[Sh.num_out o h]
 have hj:j<s.out.length:=(List.getElem?_eq_some_iff.mp h).1
 exact getD_of (by rw[List.getElem?_replicate,if_pos hj])
theorem pt_inn (o:s.Ok) {i:Nat} {w:Int} {l:List Rat} (h:s.inn[i]? = some w) (hl:s.ln[i]? = some l):s.pt w=s.base l:=by
 unfold Sh.pt
 rw[Sh.num_inn o h hl,base_dot o (o.wd l (List.mem_of_getElem? hl))]
theorem way_out (o:s.Ok) {p j:Nat} {w:Int} (h:s.out[j]? = some w):s.way p w=if j=p then 1 else 0:=by
 unfold Sh.way
 rw[Sh.num_out o h]
 have hj:j<s.out.length:=(List.getElem?_eq_some_iff.mp h).1
 by_cases e:j=p
 ·subst e; rw[if_pos rfl]; exact getD_of (by simp[hj])
 ·rw[if_neg e]; exact getD_of (by rw[List.getElem?_set,if_neg (by omega),List.getElem?_replicate,if_pos hj])
theorem way_inn (o:s.Ok) {p:Nat} (hp:p<s.out.length) {i:Nat} {w:Int} {l:List Rat} (h:s.inn[i]? = some w) (hl:s.ln[i]? = some l):s.way p w=l.getD p 0:=by
 unfold Sh.way
 rw[Sh.num_inn o h hl,way_dot o (o.wd l (List.mem_of_getElem? hl)) hp]
theorem num_else {w:List Rat} {g:Rat} {q:Int} (h1:q∉s.inn) (h2:q∉s.out):s.num w g q=0:=by
 unfold Sh.num
 cases hq:idx s.out q with
 | some j=>exact absurd (List.mem_of_getElem? (idx_some hq)) h2
 | none=>cases hk:idx s.inn q with
  | some i=>exact absurd (List.mem_of_getElem? (idx_some hk)) h1
  | none=>rfl
theorem inn_line (o:s.Ok) {q:Int} (h:q∈s.inn):∃ (i:Nat) (l:List Rat),s.inn[i]? = some q∧s.ln[i]? = some l:=by
 obtain⟨i,hi⟩:=List.mem_iff_getElem?.mp h
 have hil:i<s.ln.length:=by rw[o.ln]; exact (List.getElem?_eq_some_iff.mp hi).1
 exact⟨i,_,hi,List.getElem?_eq_getElem hil⟩
theorem pt_lo (o:s.Ok) {k:Int} (h:∀ (i:Nat) (w:Int) (l:List Rat),s.inn[i]? = some w→s.ln[i]? = some l→w<k→0≤s.base l):∀ w,w<k→0≤s.pt w:=by
 intro w hw
 by_cases h1:w∈s.inn
 ·obtain⟨i,l,hi,hl⟩:=inn_line o h1
  rw[pt_inn o hi hl]
  exact h i w l hi hl hw
 ·by_cases h2:w∈s.out
  ·obtain⟨j,hj⟩:=List.mem_iff_getElem?.mp h2
   rw[pt_out o hj]; grind
  ·unfold Sh.pt; rw[num_else h1 h2]; grind
end
theorem no_both {d d':Sh} {k:Int} (o:d.Ok) (o':d'.Ok) (to:∀ x g f,d'.Fit x g f→d.Fit x g f) (fro:∀ x g f,d.Fit x g f→d'.Fit x g f)
  (st:∀ q,k<q→(q∈d.out↔q∈d'.out)) {e e':Sh} {u v':Int} (h:Step d e u k) (hu:u<k) (h':Step d' e' k v') (hv':v'<k):False:=by
 obtain⟨r,p,l,a,A,_,R⟩:=h
 obtain⟨r',p',l',a',A',_,R'⟩:=h'
 have hpl:p<d.out.length:=(List.getElem?_eq_some_iff.mp A.hv).1
 have hpl':p'<d'.out.length:=(List.getElem?_eq_some_iff.mp A'.hv).1
 have hl:=o.wd l (List.mem_of_getElem? A.hl)
 have hl':=o'.wd l' (List.mem_of_getElem? A'.hl)
 have ea:l.getD p 0=a:=getD_of A.ha
 have ea':l'.getD p' 0=a':=getD_of A'.ha
 have row:(∃ b:Rat,b=d.base l∧b<0∧TRow d k l)∨(TRow d k d.gl∧RuleB d p u k a):=by
  rcases R with R | R
  ·refine .inl ⟨_,rfl,R.short,hl,fun j w hw hlt=>?_,p,A.hv,by rw[ea]; exact R.help⟩
   rcases Classical.em (0<l.getD j 0) with q | q
   ·have:=R.lh j w hw q; omega
   ·grind
  ·refine .inr ⟨⟨o.gl,fun j w hw hlt=>?_,p,A.hv,R.gain⟩,R⟩
   rcases Classical.em (0<d.gl.getD j 0) with q | q
   ·have:=R.lg j w hw q; omega
   ·grind
 rcases R' with R' | R'
 ·-- the base of d'
  have Y:TNum d k d'.pt:=by
   refine⟨pt_lo o' fun i w m hi hm hlt=>?_,?_,fun w hw hlt=>?_⟩
   ·rcases Classical.em (d'.base m<0) with q | q
    ·have:=R'.ls i w m hi hm q; omega
    ·grind
   ·rw[pt_inn o' A'.hu A'.hl]; exact R'.short
   ·obtain⟨j,hj⟩:=List.mem_iff_getElem?.mp ((st w hlt).mp hw)
    exact pt_out o' hj
  have ft:=to _ _ _ (pt_fit o')
  rcases row with⟨b,eb,hb,T⟩ | ⟨T,RB⟩
  ·have h1:=trow_neg o 1 T Y
   rw[← ft.row r u l A.hu A.hl,← eb] at h1
   have h2:=Y.lo u hu
   grind
  ·have h1:=trow_neg o 1 T Y
   rw[← ft.gol] at h1
   have ft2:=fro _ _ _ (pt_fit o)
   have h2:=ft2.gol
   rw[vec_split d' d.pt 1 o'.gl] at h2
   have h3:dot (d'.gl.take d'.out.length) (d'.out.map d.pt)≤0:=by
    refine dot_nonpos fun j x y hx hy=>?_
    rw[List.getElem?_map] at hy
    cases hw:d'.out[j]? with
    | none=>rw[hw] at hy; cases hy
    | some w=>
     rw[hw] at hy
     have ey:d.pt w=y:=Option.some.inj hy
     have ex:=take_getD hx
     subst ey ex
     rcases Int.lt_or_le w k with q | q
     ·refine mul_np ?_ (pt_lo o (k:=k) (fun i w m hi hm hlt=>?_) w q)
      ·rcases Classical.em (0<d'.gl.getD j 0) with z | z
       ·have:=R'.lg j w hw z; omega
       ·grind
      ·rcases Classical.em (d.base m<0) with z | z
       ·have:=RB.ls i w m hi hm z; omega
       ·grind
     ·rcases Int.lt_or_eq_of_le q with q | q
      ·obtain⟨i,hi⟩:=List.mem_iff_getElem?.mp ((st w q).mpr (List.mem_of_getElem? hw))
       rw[pt_out o hi]; grind
      ·subst q
       exact (o'.un.x _ _ _ A'.hu hw).elim
   grind
 ·-- the way of d'
  have Y:TNum d k (d'.way p'):=by
   refine⟨fun w hw=>?_,?_,fun w hw hlt=>?_⟩
   ·by_cases h1:w∈d'.inn
    ·obtain⟨i,m,hi,hm⟩:=inn_line o' h1
     rw[way_inn o' hpl' hi hm]
     rcases Classical.em (m.getD p' 0<0) with q | q
     ·have:=R'.lb i w m hi hm q; omega
     ·grind
    ·by_cases h2:w∈d'.out
     ·obtain⟨j,hj⟩:=List.mem_iff_getElem?.mp h2
      rw[way_out o' hj]; split <;> grind
     ·unfold Sh.way; rw[num_else h1 h2]; grind
   ·rw[way_inn o' hpl' A'.hu A'.hl,ea']; exact R'.bnd
   ·obtain⟨j,hj⟩:=List.mem_iff_getElem?.mp ((st w hlt).mp hw)
    rw[way_out o' hj,if_neg]
    intro e; subst e
    have:w=v':=Option.some.inj (hj.symm.trans A'.hv)
    omega
  have ft:=to _ _ _ (way_fit o' hpl')
  rcases row with⟨b,eb,hb,T⟩ | ⟨T,RB⟩
  ·have h1:=trow_neg o 0 T Y
   rw[← ft.row r u l A.hu A.hl] at h1
   have h2:=Y.lo u hu
   grind
  ·have h1:=trow_neg o 0 T Y
   rw[← ft.gol] at h1
   have:=R'.gain
   grind
structure Run (L:Nat) (S:Nat→Sh) (U W:Nat→Int):Prop where
 ok:∀ t,t≤L→(S t).Ok
 st:∀ t,t<L→Step (S t) (S (t+1)) (U t) (W t)
section
variable {L:Nat} {S:Nat→Sh} {U W:Nat→Int}
theorem Run.fits (R:Run L S U W):∀ (n a:Nat),a+n≤L→∀ x g f,(S a).Fit x g f↔(S (a+n)).Fit x g f
 | 0,a,_,x,g,f=>Iff.rfl
 | n+1,a,h,x,g,f=>by
  refine (R.fits n a (by omega) x g f).trans ?_
  obtain⟨r,p,l,b,A,e,_⟩:=R.st (a+n) (by omega)
  have o:=R.ok (a+n) (by omega)
  show (S (a+n)).Fit x g f↔(S (a+n+1)).Fit x g f
  rw[e]
  exact⟨fun q=>q.exch o A,fun q=>q.unexch o A⟩
theorem Run.fit (R:Run L S U W) {a b:Nat} (ha:a≤L) (hb:b≤L) (x g f):(S a).Fit x g f→(S b).Fit x g f:=by
 intro q
 have h1:=(R.fits a 0 (by omega) x g f).mpr (by rw[Nat.zero_add]; exact q)
 have h2:=(R.fits b 0 (by omega) x g f).mp h1
 rw[Nat.zero_add] at h2
 exact h2
theorem step_mem {s s':Sh} {u v q:Int} (h:Step s s' u v) (h1:q≠u) (h2:q≠v):q∈s.out↔q∈s'.out:=by
 obtain⟨r,p,l,a,A,e,_⟩:=h
 rw[e,Sh.exch_eq A]
 constructor
 ·intro hq
  obtain⟨j,hj⟩:=List.mem_iff_getElem?.mp hq
  refine List.mem_iff_getElem?.mpr ⟨j,?_⟩
  show (s.out.set p u)[j]? = some q
  rw[List.getElem?_set,if_neg,hj]
  intro e; subst e
  exact h2 (Option.some.inj (hj.symm.trans A.hv))
 ·intro hq
  rcases List.mem_or_eq_of_mem_set hq with z | z
  ·exact z
  ·exact absurd z h1
theorem Run.stays (R:Run L S U W) {q:Int}:∀ (n a:Nat),a+n≤L→(∀ t,t<L→q≠U t∧q≠W t)→(q∈(S a).out↔q∈(S (a+n)).out)
 | 0,a,_,_=>Iff.rfl
 | n+1,a,h,hn=>(R.stays n a (by omega) hn).trans (step_mem (R.st (a+n) (by omega)) (hn (a+n) (by omega)).1 (hn (a+n) (by omega)).2)
theorem Run.stay (R:Run L S U W) {q:Int} {a b:Nat} (ha:a≤L) (hb:b≤L) (hn:∀ t,t<L→q≠U t∧q≠W t):q∈(S a).out↔q∈(S b).out:=by
 have h1:=R.stays a 0 (by omega) hn
 have h2:=R.stays b 0 (by omega) hn
 rw[Nat.zero_add] at h1 h2
 exact h1.symm.trans h2
theorem Run.left (R:Run L S U W) {k:Int}:∀ (n a:Nat),a+n≤L→k∉(S a).out→k∈(S (a+n)).out→∃ t,a≤t∧t<a+n∧U t=k
 | 0,a,_,h1,h2=>absurd h2 h1
 | n+1,a,h,h1,h2=>by
  by_cases hk:k∈(S (a+n)).out
  ·obtain⟨t,t1,t2,e⟩:=R.left n a (by omega) h1 hk
   exact⟨t,t1,by omega,e⟩
  ·refine⟨a+n,by omega,by omega,?_⟩
   rcases Classical.em (U (a+n)=k) with q | q
   ·exact q
   ·have hs:=R.st (a+n) (by omega)
    have hW:W (a+n)≠k:=by
     intro e
     obtain⟨r,p,l,b,A,e2,_⟩:=hs
     have h2':k∈(S (a+n+1)).out:=h2
     rw[e2,Sh.exch_eq A] at h2'
     rcases List.mem_or_eq_of_mem_set h2' with z | z
     ·exact hk z
     ·exact q z.symm
    exact absurd ((step_mem hs (Ne.symm q) (Ne.symm hW)).mpr h2) hk
theorem Run.entered (R:Run L S U W) {k:Int}:∀ (n a:Nat),a+n≤L→k∈(S a).out→k∉(S (a+n)).out→∃ t,a≤t∧t<a+n∧W t=k
 | 0,a,_,h1,h2=>absurd h1 h2
 | n+1,a,h,h1,h2=>by
  by_cases hk:k∈(S (a+n)).out
  ·refine⟨a+n,by omega,by omega,?_⟩
   rcases Classical.em (W (a+n)=k) with q | q
   ·exact q
   ·have hs:=R.st (a+n) (by omega)
    have hU:U (a+n)≠k:=by
     intro e
     obtain⟨r,p,l,b,A,e2,_⟩:=hs
     rw[e] at A
     exact (R.ok (a+n) (by omega)).un.x _ _ _ A.hu (List.mem_iff_getElem?.mp hk).choose_spec
    exact absurd ((step_mem hs (Ne.symm hU) (Ne.symm q)).mp hk) h2
  ·obtain⟨t,t1,t2,e⟩:=R.entered n a (by omega) h1 hk
   exact⟨t,t1,by omega,e⟩
theorem step_out {s s':Sh} {u v:Int} (o:s.Ok) (h:Step s s' u v):v∈s.out∧u∉s.out∧v∉s'.out∧u∈s'.out:=by
 obtain⟨r,p,l,a,A,e,_⟩:=h
 have hp:p<s.out.length:=(List.getElem?_eq_some_iff.mp A.hv).1
 refine⟨List.mem_of_getElem? A.hv,fun z=>?_,fun z=>?_,?_⟩
 ·obtain⟨j,hj⟩:=List.mem_iff_getElem?.mp z
  exact o.un.x _ _ _ A.hu hj
 ·rw[e,Sh.exch_eq A] at z
  have z':v∈s.out.set p u:=z
  obtain⟨j,hj⟩:=List.mem_iff_getElem?.mp z'
  rcases get_set hj with⟨e1,e2⟩ | ⟨e1,e2⟩
  ·rw[e2] at A; exact o.un.x _ _ _ A.hu A.hv
  ·exact e1 (o.un.r _ _ _ e2 A.hv)
 ·rw[e,Sh.exch_eq A]
  exact List.mem_iff_getElem?.mpr ⟨p,by show (s.out.set p u)[p]? = some u; simp[hp]⟩
theorem Run.once (R:Run L S U W) {k:Int} (hn:∀ t,t<L→U t≤k∧W t≤k) {te tl:Nat} (he:te<L) (hl:tl<L) (ee:W te=k) (el:U tl=k):False:=by
 have s1:=R.st te he
 have s2:=R.st tl hl
 rw[ee] at s1
 rw[el] at s2
 have o1:=R.ok te (by omega)
 have o2:=R.ok tl (by omega)
 have n1:U te<k:=by
  have a:=(hn te he).1
  have b:=step_out o1 s1
  rcases Int.lt_or_eq_of_le a with q | q
  ·exact q
  ·rw[q] at b; exact absurd b.1 b.2.1
 have n2:W tl<k:=by
  have a:=(hn tl hl).2
  have b:=step_out o2 s2
  rcases Int.lt_or_eq_of_le a with q | q
  ·exact q
  ·rw[q] at b; exact absurd b.1 b.2.1
 exact no_both o1 o2 (fun x g f=>R.fit (by omega) (by omega) x g f) (fun x g f=>R.fit (by omega) (by omega) x g f) (fun q hq=>R.stay (by omega) (by omega) fun t ht=>⟨by have:=(hn t ht).1; omega,by have:=(hn t ht).2; omega⟩) s1 n1 s2 n2
theorem Run.one_move (R:Run L S U W) {k:Int} (hn:∀ t,t<L→U t≤k∧W t≤k) {a b:Nat} (hab:a<b) (hb:b<L) (ma:U a=k∨W a=k) (mb:U b=k∨W b=k):False:=by
 have oa:=R.ok a (by omega)
 have ob:=R.ok b (by omega)
 have sa:=step_out oa (R.st a (by omega))
 have sb:=step_out ob (R.st b (by omega))
 rcases ma with ma | ma <;> rcases mb with mb | mb
 ·rw[ma] at sa
  rw[mb] at sb
  obtain⟨t,_,t2,e⟩:=R.entered (b-(a+1)) (a+1) (by omega) sa.2.2.2 (by rw[show a+1+(b-(a+1))=b by omega]; exact sb.2.1)
  exact R.once hn (by omega) (by omega) e ma
 ·exact R.once hn (by omega) (by omega) mb ma
 ·exact R.once hn (by omega) (by omega) ma mb
 ·rw[ma] at sa
  rw[mb] at sb
  obtain⟨t,_,t2,e⟩:=R.left (b-(a+1)) (a+1) (by omega) sa.2.2.1 (by rw[show a+1+(b-(a+1))=b by omega]; exact sb.1)
  exact R.once hn (by omega) (by omega) ma e
end
theorem Run.sub {L:Nat} {S:Nat→Sh} {U W:Nat→Int} (R:Run L S U W) {a n:Nat} (h:a+n≤L):Run n (fun t=>S (a+t)) (fun t=>U (a+t)) (fun t=>W (a+t)):=
 ⟨fun t ht=>R.ok (a+t) (by omega),fun t ht=>R.st (a+t) (by omega)⟩
theorem Run.short:∀ (K L:Nat) (S:Nat→Sh) (U W:Nat→Int),Run L S U W→(∀ t,t<L→(0≤U t∧U t<K)∧(0≤W t∧W t<K))→L<2 ^ K
 | 0,L,S,U,W,R,h=>by
  rcases Nat.eq_zero_or_pos L with q | q
  ·subst q; decide
  ·have:=h 0 q; omega
 | K+1,L,S,U,W,R,h=>by
  rw[Nat.pow_succ]
  by_cases hm:∃ t,t<L∧(U t=K∨W t=K)
  ·obtain⟨t,ht,mt⟩:=hm
   have hn:∀ t,t<L→U t≤(K:Int)∧W t≤(K:Int):=fun t ht=>by have:=h t ht; omega
   have h1:=Run.short K t _ _ _ (R.sub (a:=0) (n:=t) (by omega)) fun i hi=>by
    rw[Nat.zero_add]
    have q:=h i (by omega)
    have z:¬ (U i=K∨W i=K):=fun z=>R.one_move hn hi ht z mt
    omega
   have h2:=Run.short K (L-(t+1)) _ _ _ (R.sub (a:=t+1) (n:=L-(t+1)) (by omega)) fun i hi=>by
    have q:=h (t+1+i) (by omega)
    have z:¬ (U (t+1+i)=K∨W (t+1+i)=K):=fun z=>R.one_move hn (show t<t+1+i by omega) (by omega) mt z
    omega
   omega
  ·have:=Run.short K L S U W R fun t ht=>by
    have q:=h t ht
    have z:¬ (U t=K∨W t=K):=fun z=>hm ⟨t,ht,z⟩
    omega
   omega
end SH
namespace SH
def Reach (K L:Nat) (s:Sh):Prop:=∃ S U W,Run L S U W∧S L=s∧∀ t,t<L→(0≤U t∧U t<(K:Int))∧(0≤W t∧W t<(K:Int))
theorem Reach.start {K:Nat} {s:Sh} (o:s.Ok):Reach K 0 s:=⟨fun _=>s,fun _=>0,fun _=>0,⟨fun _ _=>o,fun t ht=>absurd ht (by omega)⟩,rfl,fun t ht=>absurd ht (by omega)⟩
theorem Reach.lt {K L:Nat} {s:Sh} (h:Reach K L s):L<2 ^ K:=by
 obtain⟨S,U,W,R,_,b⟩:=h
 exact Run.short K L S U W R b
theorem Reach.step {K L:Nat} {s s':Sh} {u v:Int} (h:Reach K L s) (o':s'.Ok) (st:Step s s' u v) (hu:0≤u∧u<(K:Int)) (hv:0≤v∧v<(K:Int)):Reach K (L+1) s':=by
 obtain⟨S,U,W,R,e,b⟩:=h
 refine⟨fun t=>if t≤L then S t else s',fun t=>if t<L then U t else u,fun t=>if t<L then W t else v,⟨fun t ht=>?_,fun t ht=>?_⟩,?_,fun t ht=>?_⟩
 ·by_cases q:t≤L
  ·simp only [q,if_true]; exact R.ok t q
  ·simp only [q,if_false]; exact o'
 ·by_cases q:t<L
  ·have q1:t≤L:=by omega
   have q2:t+1≤L:=by omega
   simp only [q,q1,q2,if_true]; exact R.st t q
  ·have q0:t=L:=by omega
   subst q0
   simp only [Nat.lt_irrefl,Nat.le_refl,if_true,if_false,show ¬ (t+1≤t) by omega]
   rw[e]; exact st
 ·simp only [show ¬ (L+1≤L) by omega,if_false]
 ·by_cases q:t<L
  ·simp only [q,if_true]; exact b t q
  ·simp only [q,if_false]; exact⟨hu,hv⟩
def coef (keys:List Int) (vals:List Rat) (k:Int):Rat:=match idx keys k with
 | some i=>vals.getD i 0
 | none=>0
theorem idx_of {l:List Int} {u:Int} {i:Nat} (un:∀ (i j:Nat) (u:Int),l[i]? = some u→l[j]? = some u→i=j) (h:l[i]? = some u):idx l u=some i:=by
 cases q:idx l u with
 | none=>exact absurd h (idx_none q)
 | some j=>rw[un j i u (idx_some q) h]
theorem coef_at {keys:List Int} {vals:List Rat} {k:Int} {i:Nat} (un:∀ (i j:Nat) (u:Int),keys[i]? = some u→keys[j]? = some u→i=j) (h:keys[i]? = some k):coef keys vals k=vals.getD i 0:=by
 unfold coef; rw[idx_of un h]
theorem coef_no {keys:List Int} {vals:List Rat} {k:Int} (h:k∉keys):coef keys vals k=0:=by
 unfold coef
 cases q:idx keys k with
 | none=>rfl
 | some j=>exact absurd (List.mem_of_getElem? (idx_some q)) h
theorem coef_cons (w:Int) (keys:List Int) (a:Rat) (vals:List Rat) (k:Int):coef (w :: keys) (a :: vals) k=if w=k then a else coef keys vals k:=by
 unfold coef
 rw[show idx (w :: keys) k=if w=k then some 0 else (idx keys k).map (· + 1) from rfl]
 by_cases h:w=k
 ·simp[h]
 ·rw[if_neg h,if_neg h]
  cases idx keys k <;> simp
theorem un_tail {w:Int} {l:List Int} (un:∀ (i j:Nat) (u:Int),(w :: l)[i]? = some u→(w :: l)[j]? = some u→i=j):(∀ (i j:Nat) (u:Int),l[i]? = some u→l[j]? = some u→i=j)∧w∉l:=by
 refine⟨fun i j u h1 h2=>?_,fun h=>?_⟩
 ·have:=un (i+1) (j+1) u (by simpa using h1) (by simpa using h2)
  omega
 ·obtain⟨i,hi⟩:=List.mem_iff_getElem?.mp h
  have:=un 0 (i+1) w rfl (by simpa using hi)
  omega
theorem reidx (N:Nat) (x:Int→Rat):∀ (keys:List Int) (vals:List Rat),keys.length=vals.length→(∀ w∈keys,0≤w∧w<(N:Int))→(∀ (i j:Nat) (u:Int),keys[i]? = some u→keys[j]? = some u→i=j) →
  dot vals (keys.map x)=sq N fun i=>coef keys vals i*x i
 | [],[],_,_,_=>by
  rw[show sq N (fun i=>coef [] [] i*x i)=sq N (fun _=>0) from sq_congr fun i _=>by rw[coef_no (by simp)]; grind,sq_zero]; rfl
 | w :: keys,a :: vals,hl,hb,un=>by
  obtain⟨un',nw⟩:=un_tail un
  have ih:=reidx N x keys vals (by simpa using hl) (fun v hv=>hb v (List.mem_cons_of_mem _ hv)) un'
  obtain⟨h0,h1⟩:=hb w List.mem_cons_self
  obtain⟨n,rfl⟩:=Int.eq_ofNat_of_zero_le h0
  have hn:n<N:=by omega
  have e:sq N (fun i=>coef ((n:Int) :: keys) (a :: vals) i*x i)=sq N (fun i=>(if i=n then a*x i else 0)+coef keys vals i*x i):=sq_congr fun i _=>by
   rw[coef_cons]
   by_cases h:i=n
   ·subst h
    rw[if_pos rfl,if_pos rfl,coef_no nw]; grind
   ·rw[if_neg (by omega),if_neg h]; grind
  rw[e,sq_add,sq_one (j:=n) hn (fun i=>if i=n then a*x i else 0) (fun i _ h=>if_neg h),← ih]
  simp only [if_true]
  rfl
 | [],_ :: _,hl,_,_=>by simp at hl
 | _ :: _,[],hl,_,_=>by simp at hl
theorem sq_split (n m:Nat) (f:Nat→Rat):sq (n+m) f=sq n f+sq m fun i=>f (n+i):=by
 induction m with
 | zero=>show sq n f=sq n f+0; grind
 | succ m ih=>
  have e1:sq (n+(m+1)) f=sq (n+m) f+f (n+m):=by show sq (n+m+1) f=_; rfl
  have e2:sq (m+1) (fun i=>f (n+i))=sq m (fun i=>f (n+i))+f (n+m):=rfl
  rw[e1,e2,ih]; grind
def nms (lo:Int) (n:Nat):List Int:=(List.range n).map fun i=>lo+(i:Nat)
theorem nms_get {lo:Int} {n i:Nat} (h:i<n):(nms lo n)[i]? = some (lo+(i:Nat)):=by simp[nms,h]
theorem nms_inv {lo:Int} {n i:Nat} {u:Int} (h:(nms lo n)[i]? = some u):i<n∧u=lo+(i:Nat):=by
 have hi:i<n:=by have:=(List.getElem?_eq_some_iff.mp h).1; simpa [nms] using this
 rw[nms_get hi] at h
 exact⟨hi,(Option.some.inj h).symm⟩
theorem nms_len (lo:Int) (n:Nat):(nms lo n).length=n:=by simp[nms]
def qs (l:List Int):List Rat:=l.map fun (z:Int)=>(z:Rat)
def lineOf (row:List Int) (a:Int):List Rat:=qs (row.map (fun z=>-z)++[a])
def sh0 (U:List (List Int)) (am gn:List Int):Sh:=⟨nms gn.length am.length,nms 0 gn.length,List.zipWith lineOf U am,qs (gn++[0])⟩
structure Task (U:List (List Int)) (am gn:List Int):Prop where
 hm:U.length=am.length
 hw:∀ row∈U,row.length=gn.length
section
variable {U:List (List Int)} {am gn:List Int}
theorem line_get (T:Task U am gn) {i:Nat} {l:List Rat} (h:(sh0 U am gn).ln[i]? = some l):∃ row a,U[i]? = some row∧am[i]? = some a∧l=lineOf row a:=by
 have h':(List.zipWith lineOf U am)[i]? = some l:=h
 rw[List.getElem?_zipWith] at h'
 cases e1:U[i]? with
 | none=>rw[e1] at h'; simp at h'
 | some row=>
  cases e2:am[i]? with
  | none=>rw[e1,e2] at h'; simp at h'
  | some a=>rw[e1,e2] at h'; simp at h'; exact⟨row,a,rfl,rfl,h'.symm⟩
theorem line_mk {i:Nat} {row:List Int} {a:Int} (h1:U[i]? = some row) (h2:am[i]? = some a):(sh0 U am gn).ln[i]? = some (lineOf row a):=by
 show (List.zipWith lineOf U am)[i]? = _
 rw[List.getElem?_zipWith,h1,h2]
theorem sh0_ok (T:Task U am gn):(sh0 U am gn).Ok:=by
 refine⟨?_,fun l hl=>?_,?_,⟨fun i j u h1 h2=>?_,fun i j u h1 h2=>?_,fun i j u h1 h2=>?_⟩⟩
 ·show (List.zipWith lineOf U am).length=(nms gn.length am.length).length
  rw[nms_len,List.length_zipWith,T.hm]; omega
 ·obtain⟨i,hi⟩:=List.mem_iff_getElem?.mp hl
  obtain⟨row,a,e1,e2,rfl⟩:=line_get T hi
  have:=T.hw row (List.mem_of_getElem? e1)
  show (lineOf row a).length=(nms 0 gn.length).length+1
  simp[lineOf,qs,nms_len,this]
 ·show (qs (gn++[0])).length=(nms 0 gn.length).length+1
  simp[qs,nms_len]
 ·have a:=nms_inv h1; have b:=nms_inv h2; omega
 ·have a:=nms_inv h1; have b:=nms_inv h2; omega
 ·have a:=nms_inv h1; have b:=nms_inv h2; omega
end
def col (U:List (List Int)) (j:Nat):List Int:=U.map fun row=>row.getD j 0
structure PlanR (U:List (List Int)) (am gn:List Int) (x:List Rat):Prop where
 len:x.length=gn.length
 pos:∀ a∈x,0≤a
 fit:∀ (i:Nat) row a,U[i]? = some row→am[i]? = some a→dot (qs row) x≤(a:Rat)
structure BestR (U:List (List Int)) (am gn:List Int) (x y:List Rat):Prop where
 plan:PlanR U am gn x
 len:y.length=am.length
 pos:∀ a∈y,0≤a
 cov:∀ (j:Nat) g,gn[j]? = some g→(g:Rat)≤dot (qs (col U j)) y
 eq:dot (qs am) y=dot (qs gn) x
structure NoneR (U:List (List Int)) (am gn:List Int) (w:List Rat):Prop where
 len:w.length=am.length
 pos:∀ a∈w,0≤a
 cov:∀ (j:Nat),j<gn.length→0≤dot (qs (col U j)) w
 neg:dot (qs am) w<0
structure EndR (U:List (List Int)) (am gn:List Int) (x d:List Rat):Prop where
 plan:PlanR U am gn x
 len:d.length=gn.length
 pos:∀ a∈d,0≤a
 way:∀ row∈U,dot (qs row) d≤0
 gain:0<dot (qs gn) d
def at_ (f:Int→Rat) (lo:Int) (n:Nat):List Rat:=(nms lo n).map f
theorem at_len (f:Int→Rat) (lo:Int) (n:Nat):(at_ f lo n).length=n:=by simp[at_,nms_len]
theorem at_get (f:Int→Rat) (lo:Int) {n i:Nat} (h:i<n):(at_ f lo n)[i]? = some (f (lo+(i:Nat))):=by
 unfold at_; rw[List.getElem?_map,nms_get h]; rfl
theorem at_getD (f:Int→Rat) (lo:Int) {n i:Nat} (h:i<n):(at_ f lo n).getD i 0=f (lo+(i:Nat)):=getD_of (at_get f lo h)
theorem at_pos {f:Int→Rat} {lo:Int} {n:Nat} (h:∀ i:Nat,i<n→0≤f (lo+(i:Nat))):∀ a∈at_ f lo n,0≤a:=fun a ha=>by
 obtain⟨i,hi⟩:=List.mem_iff_getElem?.mp ha
 have hl:i<n:=by have:=(List.getElem?_eq_some_iff.mp hi).1; rwa [at_len] at this
 rw[at_get f lo hl] at hi
 cases hi
 exact h i hl
section
variable {U:List (List Int)} {am gn:List Int}
theorem qs_len (l:List Int):(qs l).length=l.length:=by simp[qs]
theorem qs_getD (l:List Int) (i:Nat):(qs l).getD i 0=((l.getD i 0:Int):Rat):=by
 unfold qs
 simp only [List.getD,List.getElem?_map]
 cases l[i]? <;> simp
theorem sh0_row (T:Task U am gn) {x:Int→Rat} {g f:Rat} (ft:(sh0 U am gn).Fit x g f) {i:Nat} {row:List Int} {a:Int} (h1:U[i]? = some row) (h2:am[i]? = some a) :
  x ((gn.length:Int)+(i:Nat)) = -(dot (qs row) (at_ x 0 gn.length))+(a:Rat)*g:=by
 have hi:i<am.length:=(List.getElem?_eq_some_iff.mp h2).1
 have hr:=T.hw row (List.mem_of_getElem? h1)
 rw[ft.row i _ _ (nms_get hi) (line_mk h1 h2)]
 show dot (lineOf row a) ((nms 0 gn.length).map x++[g])=_
 rw[dot_app _ _ g (by simp[lineOf,qs,nms_len,hr])]
 have e1:(lineOf row a).take ((nms 0 gn.length).map x).length=(qs row).map fun z=>(-1)*z:=by
  rw[List.length_map,nms_len]
  unfold lineOf qs
  rw[List.map_append,List.take_append_of_le_length (by simp[hr]),List.take_of_length_le (by simp[hr]),List.map_map,List.map_map]
  refine List.map_congr_left fun z _=>?_
  show ((-z:Int):Rat)=(-1)*(z:Rat)
  rw[Rat.intCast_neg]; grind
 have e2:(lineOf row a).getD ((nms 0 gn.length).map x).length 0=(a:Rat):=by
  rw[List.length_map,nms_len]
  unfold lineOf
  rw[qs_getD]
  simp[List.getD,hr]
 rw[e1,e2,dot_scale]
 show _ = -(dot (qs row) ((nms 0 gn.length).map x))+_
 grind
theorem sh0_goal {x:Int→Rat} {g f:Rat} (ft:(sh0 U am gn).Fit x g f):f=dot (qs gn) (at_ x 0 gn.length):=by
 rw[ft.gol]
 show dot (qs (gn++[0])) ((nms 0 gn.length).map x++[g])=_
 rw[dot_app _ _ g (by simp[qs,nms_len])]
 have e1:(qs (gn++[0])).take ((nms 0 gn.length).map x).length=qs gn:=by
  rw[List.length_map,nms_len]
  unfold qs
  rw[List.map_append,List.take_append_of_le_length (by simp),List.take_of_length_le (by simp)]
 have e2:(qs (gn++[0])).getD ((nms 0 gn.length).map x).length 0=0:=by
  rw[List.length_map,nms_len,qs_getD]
  simp[List.getD]
 rw[e1,e2]
 show dot (qs gn) ((nms 0 gn.length).map x)+0*g=_
 unfold at_; grind
end
end SH
namespace SH
section
variable {U:List (List Int)} {am gn:List Int}
theorem line_base {row:List Int} {a:Int} {n:Nat} (h:row.length=n):(lineOf row a).getD n 0=(a:Rat):=by
 unfold lineOf
 rw[qs_getD]
 simp[List.getD,h]
theorem line_at {row:List Int} {a:Int} {j:Nat} (h:j<row.length):(lineOf row a).getD j 0 = -((row.getD j 0:Int):Rat):=by
 unfold lineOf
 rw[qs_getD,← Rat.intCast_neg]
 congr 1
 simp[List.getD,List.getElem?_append_left,h]
theorem col_getD {j i:Nat} {row:List Int} (h:U[i]? = some row):(col U j).getD i 0=row.getD j 0:=by
 unfold col
 simp[List.getD,List.getElem?_map,h]
theorem cert (T:Task U am gn) {π:Int→Rat} {β γ:Rat} (h:∀ x g f,(sh0 U am gn).Fit x g f→sq (gn.length+am.length) (fun i=>π i*x i)=β*g+γ*f) :
  (∀ j:Nat,j<gn.length→dot (qs (col U j)) (at_ π gn.length am.length)=π j-γ*((gn.getD j 0:Int):Rat))∧dot (qs am) (at_ π gn.length am.length)=β:=by
 have o:=sh0_ok T
 have ol:(sh0 U am gn).out.length=gn.length:=nms_len _ _
 have outj:∀ {j:Nat},j<gn.length→(sh0 U am gn).out[j]? = some (j:Int):=fun {j} hj=>by
  show (nms 0 gn.length)[j]? = _
  rw[nms_get hj]; simp
 have get:∀ {i:Nat},i<am.length→∃ row a,U[i]? = some row∧am[i]? = some a∧row.length=gn.length:=fun {i} hi=>by
  have h1:i<U.length:=by rw[T.hm]; exact hi
  exact⟨U[i],am[i],List.getElem?_eq_getElem h1,List.getElem?_eq_getElem hi,T.hw _ (List.getElem_mem h1)⟩
 refine⟨fun j hj=>?_,?_⟩
 ·have e:=h _ _ _ (way_fit o (p:=j) (by rw[ol]; exact hj))
  rw[sq_split,sq_one (j:=j) hj _ (fun i hi hne=>by
   rw[way_out o (outj hi),if_neg hne]; grind)] at e
  rw[way_out o (outj hj),if_pos rfl] at e
  have e2:sq am.length (fun i=>π ((gn.length+i:Nat):Int)*(sh0 U am gn).way j ((gn.length+i:Nat):Int))=sq am.length (fun i=>(-1)*((qs (col U j)).getD i 0*(at_ π gn.length am.length).getD i 0)):=sq_congr fun i hi=>by
   obtain⟨row,a,h1,h2,h3⟩:=get hi
   have hin:(sh0 U am gn).inn[i]? = some ((gn.length+i:Nat):Int):=by
    show (nms gn.length am.length)[i]? = _
    rw[nms_get hi]; simp
   rw[way_inn o (by rw[ol]; exact hj) hin (line_mk h1 h2),line_at (by omega),at_getD _ _ hi,qs_getD,col_getD h1]
   rw[show ((gn.length+i:Nat):Int)=(gn.length:Int)+(i:Nat) by simp]
   grind
  rw[e2,sq_mul] at e
  rw[dot_sq _ _ am.length (by rw[qs_len]; simp[col,T.hm]) (at_len _ _ _)]
  have e3:(sh0 U am gn).gl.getD j 0=((gn.getD j 0:Int):Rat):=by
   show (qs (gn++[0])).getD j 0=_
   rw[qs_getD]; simp[List.getD,List.getElem?_append_left,hj]
  rw[e3] at e
  grind
 ·have e:=h _ _ _ (pt_fit o)
  rw[sq_split] at e
  have e1:sq gn.length (fun i=>π (i:Int)*(sh0 U am gn).pt i)=0:=by
   rw[show sq gn.length (fun i=>π (i:Int)*(sh0 U am gn).pt i)=sq gn.length (fun _=>0) from sq_congr fun i hi=>by rw[pt_out o (outj hi)]; grind,sq_zero]
  have e2:sq am.length (fun i=>π ((gn.length+i:Nat):Int)*(sh0 U am gn).pt ((gn.length+i:Nat):Int))=sq am.length (fun i=>(qs am).getD i 0*(at_ π gn.length am.length).getD i 0):=sq_congr fun i hi=>by
   obtain⟨row,a,h1,h2,h3⟩:=get hi
   have hin:(sh0 U am gn).inn[i]? = some ((gn.length+i:Nat):Int):=by
    show (nms gn.length am.length)[i]? = _
    rw[nms_get hi]; simp
   rw[pt_inn o hin (line_mk h1 h2)]
   unfold Sh.base
   rw[ol,line_base h3,at_getD _ _ hi,qs_getD,show am.getD i 0=a by simp[List.getD,h2]]
   rw[show ((gn.length+i:Nat):Int)=(gn.length:Int)+(i:Nat) by simp]
   grind
  have e3:(sh0 U am gn).base (sh0 U am gn).gl=0:=by
   unfold Sh.base
   rw[ol]
   show (qs (gn++[0])).getD gn.length 0=0
   rw[qs_getD]; simp[List.getD]
  rw[e1,e2,e3] at e
  rw[dot_sq _ _ am.length (qs_len _) (at_len _ _ _)]
  grind
end
def Nm (K:Nat) (s:Sh):Prop:=(∀ w∈s.inn,0≤w∧w<(K:Int))∧∀ w∈s.out,0≤w∧w<(K:Int)
def Sh.bases (s:Sh):List Rat:=s.ln.map s.base
def Sh.planF (s:Sh):Int→Rat:=coef s.inn s.bases
def Sh.priceF (s:Sh):Int→Rat:=coef s.out ((s.gl.take s.out.length).map fun x=>-x)
def Sh.weightF (s:Sh) (r:Nat):Int→Rat:=fun k=>if k=s.inn.getD r 0 then 1 else coef s.out (((s.ln.getD r []).take s.out.length).map fun x=>-x) k
def Sh.wayF (s:Sh) (p:Nat):Int→Rat:=fun k=>if k=s.out.getD p 0 then 1 else coef s.inn (s.ln.map fun l=>l.getD p 0) k
section
variable {s:Sh} {K:Nat}
theorem planF_pt (o:s.Ok) (w:Int):s.planF w=s.pt w:=by
 unfold Sh.planF
 by_cases h:w∈s.inn
 ·obtain⟨i,l,hi,hl⟩:=inn_line o h
  rw[pt_inn o hi hl,coef_at o.un.l hi]
  exact getD_of (by unfold Sh.bases; rw[List.getElem?_map,hl]; rfl)
 ·rw[coef_no h]
  by_cases h2:w∈s.out
  ·obtain⟨j,hj⟩:=List.mem_iff_getElem?.mp h2
   rw[pt_out o hj]
  ·unfold Sh.pt; rw[num_else h h2]
theorem wayF_way (o:s.Ok) {p:Nat} {v:Int} (hp:s.out[p]? = some v) (w:Int):s.wayF p w=s.way p w:=by
 have hpl:p<s.out.length:=(List.getElem?_eq_some_iff.mp hp).1
 unfold Sh.wayF
 rw[show s.out.getD p 0=v by simp[List.getD,hp]]
 by_cases h:w=v
 ·subst h
  rw[if_pos rfl,way_out o hp,if_pos rfl]
 ·rw[if_neg h]
  by_cases h1:w∈s.inn
  ·obtain⟨i,l,hi,hl⟩:=inn_line o h1
   rw[way_inn o hpl hi hl,coef_at o.un.l hi]
   exact getD_of (by rw[List.getElem?_map,hl]; rfl)
  ·rw[coef_no h1]
   by_cases h2:w∈s.out
   ·obtain⟨j,hj⟩:=List.mem_iff_getElem?.mp h2
    rw[way_out o hj,if_neg]
    intro e; subst e
    rw[hp] at hj; exact h (Option.some.inj hj).symm
   ·unfold Sh.way; rw[num_else h1 h2]
theorem dot_negs (l v:List Rat):dot (l.map fun x=>-x) v = -dot l v:=by
 have:=dot_scale (-1) l v
 rw[show (fun x:Rat=>-1*x)=fun x=>-x from funext fun x=>by grind] at this
 rw[this]; grind
theorem row_all (o:s.Ok) (nm:Nm K s) {l:List Rat} (hl:l.length=s.out.length+1) (x:Int→Rat) (g:Rat) :
  dot l (s.vec x g) = -sq K (fun i=>coef s.out ((l.take s.out.length).map fun x=>-x) i*x i)+s.base l*g:=by
 rw[vec_split s x g hl]
 have:=reidx K x s.out ((l.take s.out.length).map fun x=>-x) (by simp[hl]) nm.2 o.un.r
 rw[dot_negs] at this
 grind
end
end SH
namespace SH
def Sh.noG (s:Sh):Sh:=⟨s.inn,s.out,s.ln,s.gl.map fun _=>0⟩
theorem dot_zeros:∀ (l v:List Rat),dot (l.map fun _=>0) v=0
 | [],v=>dot_nil_l v
 | _ :: _,[]=>dot_nil_r _
 | a :: l,b :: v=>by
  show 0*b+dot (l.map fun _=>0) v=0
  rw[dot_zeros l v]; grind
section
variable {s s0:Sh} {K:Nat}
theorem noG_ok (o:s.Ok):s.noG.Ok:=⟨o.ln,o.wd,by show (s.gl.map _).length=_; rw[List.length_map]; exact o.gl,o.un⟩
theorem noG_fit {x:Int→Rat} {g f:Rat}:s.noG.Fit x g f↔(∃ f',s.Fit x g f')∧f=0:=by
 constructor
 ·intro h
  refine⟨⟨dot s.gl (s.vec x g),h.row,rfl⟩,?_⟩
  rw[h.gol]
  exact dot_zeros _ _
 ·rintro⟨⟨f',h⟩,rfl⟩
  exact⟨h.row,(dot_zeros _ _).symm⟩
theorem Sh.Eqv.noG (e:s0.Eqv s):s0.noG.Eqv s.noG:=
 ⟨noG_ok e.ok0,noG_ok e.ok,e.n,fun x g f h=>by
  obtain⟨⟨f',q⟩,z⟩:=noG_fit.mp h
  exact noG_fit.mpr ⟨⟨f',e.to x g f' q⟩,z⟩,fun x g f h=>by
  obtain⟨⟨f',q⟩,z⟩:=noG_fit.mp h
  exact noG_fit.mpr ⟨⟨f',e.fro x g f' q⟩,z⟩,e.nmo,e.nmi⟩
theorem Sh.Eqv.nm (e:s0.Eqv s) (h:Nm K s0):Nm K s:=
 ⟨fun w hw=>(e.nmi w hw).elim (h.1 w) (h.2 w),fun w hw=>(e.nmo w hw).elim (h.1 w) (h.2 w)⟩
theorem pt_pos (o:s.Ok) (hb:∀ l∈s.ln,0≤s.base l) (w:Int):0≤s.pt w:=by
 by_cases h1:w∈s.inn
 ·obtain⟨i,l,hi,hl⟩:=inn_line o h1
  rw[pt_inn o hi hl]
  exact hb l (List.mem_of_getElem? hl)
 ·by_cases h2:w∈s.out
  ·obtain⟨j,hj⟩:=List.mem_iff_getElem?.mp h2
   rw[pt_out o hj]; grind
  ·unfold Sh.pt; rw[num_else h1 h2]; grind
theorem way_pos (o:s.Ok) {p:Nat} (hp:p<s.out.length) (hb:∀ l∈s.ln,0≤l.getD p 0) (w:Int):0≤s.way p w:=by
 by_cases h1:w∈s.inn
 ·obtain⟨i,l,hi,hl⟩:=inn_line o h1
  rw[way_inn o hp hi hl]
  exact hb l (List.mem_of_getElem? hl)
 ·by_cases h2:w∈s.out
  ·obtain⟨j,hj⟩:=List.mem_iff_getElem?.mp h2
   rw[way_out o hj]; split <;> grind
  ·unfold Sh.way; rw[num_else h1 h2]; grind
theorem coef_negs {keys:List Int} {l:List Rat} {n:Nat} (h:∀ j,j<n→l.getD j 0≤0) (k:Int):0≤coef keys ((l.take n).map fun x=>-x) k:=by
 unfold coef
 cases q:idx keys k with
 | none=>exact Rat.le_refl
 | some i=>
  show 0≤((l.take n).map fun x=>-x).getD i 0
  cases e:(l.take n)[i]? with
  | none=>rw[show ((l.take n).map fun x=>-x).getD i 0=0 by simp only [List.getD,List.getElem?_map,e]; rfl]; exact Rat.le_refl
  | some a=>
   rw[getD_of (show ((l.take n).map fun x=>-x)[i]? = some (-a) by rw[List.getElem?_map,e]; rfl)]
   have hi:i<n:=by
    have:=(List.getElem?_eq_some_iff.mp e).1
    rw[List.length_take] at this; omega
   have:=h i hi
   rw[take_getD e] at this
   grind
end
section
variable {U:List (List Int)} {am gn:List Int} {s s2:Sh}
theorem sh0_nm (T:Task U am gn):Nm (gn.length+am.length) (sh0 U am gn):=by
 refine⟨fun w hw=>?_,fun w hw=>?_⟩
 ·obtain⟨i,hi⟩:=List.mem_iff_getElem?.mp hw
  have:=nms_inv hi; omega
 ·obtain⟨i,hi⟩:=List.mem_iff_getElem?.mp hw
  have:=nms_inv hi; omega
theorem at_congr {f g:Int→Rat} (lo:Int) (n:Nat) (h:∀ w,f w=g w):at_ f lo n=at_ g lo n:=by
 rw[show f=g from funext h]
theorem plan_ok (T:Task U am gn) (o:s.Ok) (fro:∀ x g f,s.Fit x g f→∃ f',(sh0 U am gn).Fit x g f') (hb:∀ l∈s.ln,0≤s.base l):PlanR U am gn (at_ s.planF 0 gn.length):=by
 rw[at_congr 0 gn.length (planF_pt o)]
 refine⟨at_len _ _ _,at_pos fun i _=>pt_pos o hb _,fun i row a h1 h2=>?_⟩
 obtain⟨f',ft⟩:=fro _ _ _ (pt_fit o)
 have e:=sh0_row T ft h1 h2
 have:=pt_pos o hb ((gn.length:Int)+(i:Nat))
 grind
theorem best_ok (T:Task U am gn) (e:(sh0 U am gn).Eqv s) (hb:∀ l∈s.ln,0≤s.base l) (hg:∀ j,j<s.out.length→s.gl.getD j 0≤0):BestR U am gn (at_ s.planF 0 gn.length) (at_ s.priceF gn.length am.length):=by
 have nm:=e.nm (sh0_nm T)
 obtain⟨c1,c2⟩:=cert T (π:=s.priceF) (β:=s.base s.gl) (γ:=-1) fun x g f ft=>by
  have h:=(e.to x g f ft).gol
  rw[row_all e.ok nm e.ok.gl] at h
  unfold Sh.priceF
  grind
 have pp:∀ w,0≤s.priceF w:=fun w=>coef_negs hg w
 refine⟨plan_ok T e.ok (fun x g f h=>⟨f,e.fro x g f h⟩) hb,at_len _ _ _,at_pos fun i _=>pp _,fun j g hj=>?_,?_⟩
 ·have hl:j<gn.length:=(List.getElem?_eq_some_iff.mp hj).1
  rw[c1 j hl,show gn.getD j 0=g by simp[List.getD,hj]]
  have:=pp j
  grind
 ·rw[c2,at_congr 0 gn.length (planF_pt e.ok)]
  exact sh0_goal (e.fro _ _ _ (pt_fit e.ok))
theorem none_ok (T:Task U am gn) (o:s.Ok) (nm:Nm (gn.length+am.length) s) (to:∀ x g f,(sh0 U am gn).Fit x g f→∃ f',s.Fit x g f') {r:Nat} {u:Int} {l:List Rat} (hu:s.inn[r]? = some u) (hl:s.ln[r]? = some l) (hb:s.base l<0)
  (hn:∀ j,j<s.out.length→l.getD j 0≤0):NoneR U am gn (at_ (s.weightF r) gn.length am.length):=by
 have eu:s.inn.getD r 0=u:=by simp[List.getD,hu]
 have el:s.ln.getD r []=l:=by simp[List.getD,hl]
 have nu:u∉s.out:=fun z=>by
  obtain⟨j,hj⟩:=List.mem_iff_getElem?.mp z
  exact o.un.x _ _ _ hu hj
 have ub:=nm.1 u (List.mem_of_getElem? hu)
 obtain⟨n,rfl⟩:=Int.eq_ofNat_of_zero_le ub.1
 obtain⟨c1,c2⟩:=cert T (π:=s.weightF r) (β:=s.base l) (γ:=0) fun x g f ft=>by
  obtain⟨f',ft'⟩:=to x g f ft
  have h:=ft'.row r _ l hu hl
  rw[row_all o nm (o.wd l (List.mem_of_getElem? hl))] at h
  have e:sq (gn.length+am.length) (fun i=>s.weightF r i*x i)=sq (gn.length+am.length) (fun i=>(if i=n then x i else 0)+coef s.out ((l.take s.out.length).map fun x=>-x) i*x i):=sq_congr fun i _=>by
   unfold Sh.weightF
   rw[eu,el]
   by_cases hi:i=n
   ·subst hi
    rw[if_pos rfl,if_pos rfl,coef_no nu]; grind
   ·rw[if_neg (by omega),if_neg hi]; grind
  rw[e,sq_add,sq_one (j:=n) (by omega) (fun i=>if i=n then x i else 0) (fun i _ h=>if_neg h)]
  simp only [if_true]
  grind
 have pp:∀ w,0≤s.weightF r w:=fun w=>by
  unfold Sh.weightF
  split
  ·grind
  ·rw[el]; exact coef_negs hn w
 refine⟨at_len _ _ _,at_pos fun i _=>pp _,fun j hj=>?_,?_⟩
 ·rw[c1 j hj]
  have:=pp j
  grind
 ·rw[c2]; exact hb
theorem end_ok (T:Task U am gn) (e:(sh0 U am gn).Eqv s) {p:Nat} {v:Int} (hp:s.out[p]? = some v) (hg:0<s.gl.getD p 0) (hl:∀ l∈s.ln,0≤l.getD p 0) {x:List Rat} (hx:PlanR U am gn x):EndR U am gn x (at_ (s.wayF p) 0 gn.length):=by
 have hpl:p<s.out.length:=(List.getElem?_eq_some_iff.mp hp).1
 have ft:=e.fro _ _ _ (way_fit e.ok hpl)
 rw[at_congr 0 gn.length (wayF_way e.ok hp)]
 refine⟨hx,at_len _ _ _,at_pos fun i _=>way_pos e.ok hpl hl _,fun row hr=>?_,?_⟩
 ·obtain⟨i,hi⟩:=List.mem_iff_getElem?.mp hr
  have hi2:i<am.length:=by rw[← T.hm]; exact (List.getElem?_eq_some_iff.mp hi).1
  have h1:=sh0_row T ft hi (List.getElem?_eq_getElem hi2)
  have h2:=way_pos e.ok hpl hl ((gn.length:Int)+(i:Nat))
  grind
 ·rw[← sh0_goal ft]; exact hg
end
section
variable {U:List (List Int)} {am gn:List Int}
end
end SH
namespace SH
section
variable {U:List (List Int)} {am gn:List Int}
theorem qs_get {l:List Int} {j:Nat} {d:Rat} (h:(qs l)[j]? = some d):∃ g,l[j]? = some g∧d=(g:Rat):=by
 unfold qs at h
 rw[List.getElem?_map] at h
 cases e:l[j]? with
 | none=>rw[e] at h; cases h
 | some a=>rw[e] at h; cases h; exact⟨a,rfl,rfl⟩
end
end SH
namespace SH
def LiR (s:Sh) (j:Nat):Option Nat→Prop
 | none=>∀ l∈s.ln,0≤l.getD j 0
 | some r=>∃ u l,s.inn[r]? = some u∧s.ln[r]? = some l∧l.getD j 0<0∧∀ (i:Nat) (w:Int) (k:List Rat),s.inn[i]? = some w→s.ln[i]? = some k→k.getD j 0<0→u≤w
def LoR (s:Sh) (l:List Rat):Option Nat→Prop
 | none=>∀ j,j<s.out.length→l.getD j 0≤0
 | some p=>∃ v,s.out[p]? = some v∧0<l.getD p 0∧∀ (j:Nat) (w:Int),s.out[j]? = some w→0<l.getD j 0→v≤w
def SrR (s:Sh):Option Nat→Option Nat→Prop
 | none,none=>LiR s s.out.length none∧LoR s s.gl none
 | some r,none=>∃ u l,s.inn[r]? = some u∧s.ln[r]? = some l∧s.base l<0∧LoR s l none
 | none,some p=>∃ v,s.out[p]? = some v∧0<s.gl.getD p 0∧LiR s p none
 | some _,some _=>False
theorem gI {l:List Int} {i:Nat} {a:Int} (h:l[i]? = some a):l.getD i 0=a:=by simp[List.getD,h]
section
variable {s:Sh} {o1 o2:Option Nat}
theorem goA (o:s.Ok) {r:Nat} (h1:LiR s s.out.length (some r)) (h2:LoR s s.gl o2) (c:∀ p,o2=some p→s.inn.getD r 0<s.out.getD p 0) :
  ∃ u l,s.inn[r]? = some u∧s.ln[r]? = some l∧s.base l<0∧∀ p,LoR s l (some p)→∃ v a,s.At r p u v l a∧Step s (s.exch r p) u v:=by
 obtain⟨u,l,hu,hl,hb,hm⟩:=h1
 refine⟨u,l,hu,hl,hb,fun p hp=>?_⟩
 obtain⟨v,hv,pos,hmin⟩:=hp
 have hpl:p<s.out.length:=(List.getElem?_eq_some_iff.mp hv).1
 have hll:=o.wd l (List.mem_of_getElem? hl)
 have ha:=List.getElem?_eq_getElem (show p<l.length by omega)
 have ea:=getD_of ha
 rw[ea] at pos
 have A:s.At r p u v l (l[p]'(by omega)):=⟨hu,hv,hl,ha,by intro z; rw[z] at pos; exact absurd pos (by grind)⟩
 refine⟨v,_,A,r,p,l,_,A,rfl,.inl ⟨hb,pos,hm,fun j w hj hg=>?_,hmin⟩⟩
 cases o2 with
 | none=>
  have:=h2 j (List.getElem?_eq_some_iff.mp hj).1
  grind
 | some p2=>
  obtain⟨v2,hv2,_,hm2⟩:=h2
  have c2:=c p2 rfl
  rw[gI hu,gI hv2] at c2
  have:=hm2 j w hj hg
  omega
theorem goB (o:s.Ok) {p:Nat} (h2:LoR s s.gl (some p)) (h1:LiR s s.out.length o1) (c:∀ r,o1=some r→¬ s.inn.getD r 0<s.out.getD p 0) :
  ∃ v,s.out[p]? = some v∧0<s.gl.getD p 0∧∀ r,LiR s p (some r)→∃ u l a,s.At r p u v l a∧Step s (s.exch r p) u v:=by
 obtain⟨v,hv,pos,hmin⟩:=h2
 refine⟨v,hv,pos,fun r hr=>?_⟩
 obtain⟨u,l,hu,hl,hb,hm⟩:=hr
 have hpl:p<s.out.length:=(List.getElem?_eq_some_iff.mp hv).1
 have hll:=o.wd l (List.mem_of_getElem? hl)
 have ha:=List.getElem?_eq_getElem (show p<l.length by omega)
 have ea:=getD_of ha
 rw[ea] at hb
 have A:s.At r p u v l (l[p]'(by omega)):=⟨hu,hv,hl,ha,by intro z; rw[z] at hb; exact absurd hb (by grind)⟩
 refine⟨u,l,_,A,r,p,l,_,A,rfl,.inr ⟨pos,hb,hmin,fun i w k hi hk hg=>?_,hm⟩⟩
 cases o1 with
 | none=>
  have:=h1 k (List.mem_of_getElem? hk)
  have hg':k.getD s.out.length 0<0:=hg
  grind
 | some r2=>
  obtain⟨u2,l2,hu2,_,_,hm2⟩:=h1
  have c2:=c r2 rfl
  rw[gI hu2,gI hv] at c2
  have h3:=hm2 i w k hi hk hg
  have h4:u2≠v:=fun z=>o.un.x _ _ _ hu2 (z▸hv)
  omega
end
theorem Sh.Eqv.trans {a b c:Sh} (x:a.Eqv b) (y:b.Eqv c):a.Eqv c:=
 ⟨x.ok0,y.ok,y.n.trans x.n,fun p g f h=>y.to _ _ _ (x.to _ _ _ h),fun p g f h=>x.fro _ _ _ (y.fro _ _ _ h),fun q h=>(y.nmo q h).elim (x.nmi q) (x.nmo q),fun q h=>(y.nmi q h).elim (x.nmi q) (x.nmo q)⟩
theorem Sh.Eqv.sm {s0 s:Sh} (e:s0.Eqv s) (hn:s0.out.length≤7) (hl:∀ l∈s0.ln,WhL 1 (2 ^ 100) l) (hg:WhL 1 (2 ^ 100) s0.gl) {l:List Rat} (h:l∈s.ln∨l=s.gl):∀ a∈l,FM.Sm 1000 a:=fun a ha=>by
 obtain⟨j,hj⟩:=List.mem_iff_getElem?.mp ha
 obtain⟨t,b,hb,rfl,ht,hbn⟩:=e.sizes (by decide) (Nat.one_le_two_pow) hl hg h j a hj
 have big:((s0.out.length+2)*(2*2 ^ 100)) ^ (s0.out.length+1)<2 ^ 1000:=by
  refine Nat.lt_of_le_of_lt (Nat.pow_le_pow_left (m:=9*(2*2 ^ 100)) (Nat.mul_le_mul_right _ (by omega)) _) ?_
  refine Nat.lt_of_le_of_lt (Nat.pow_le_pow_right (by decide) (show s0.out.length+1≤8 by omega)) ?_
  decide +kernel
 exact⟨Nat.lt_of_le_of_lt (FM.num_le hb) (Nat.lt_of_le_of_lt ht big),Nat.lt_of_le_of_lt (FM.den_le hb) (Nat.lt_of_le_of_lt hbn big)⟩
theorem wh_int {z:Int} {M:Nat} (h:z.natAbs≤M):Wh 1 M (z:Rat):=⟨z,by simp,h⟩
theorem qs_wh {l:List Int} {M:Nat} (h:∀ z∈l,z.natAbs≤M):WhL 1 M (qs l):=fun i a hi=>by
 obtain⟨g,e,rfl⟩:=qs_get hi
 exact wh_int (h g (List.mem_of_getElem? e))
structure Small (U:List (List Int)) (am gn:List Int):Prop where
 u:∀ row∈U,∀ z∈row,z.natAbs≤2 ^ 100
 a:∀ z∈am,z.natAbs≤2 ^ 100
 g:∀ z∈gn,z.natAbs≤2 ^ 100
section
variable {U:List (List Int)} {am gn:List Int}
theorem sh0_wh (T:Task U am gn) (S:Small U am gn):(∀ l∈(sh0 U am gn).ln,WhL 1 (2 ^ 100) l)∧WhL 1 (2 ^ 100) (sh0 U am gn).gl:=by
 refine⟨fun l hl=>?_,qs_wh fun z hz=>?_⟩
 ·obtain⟨i,hi⟩:=List.mem_iff_getElem?.mp hl
  obtain⟨row,a,e1,e2,rfl⟩:=line_get T hi
  refine qs_wh fun z hz=>?_
  rcases List.mem_append.mp hz with q | q
  ·obtain⟨y,hy,rfl⟩:=List.mem_map.mp q
   rw[Int.natAbs_neg]
   exact S.u row (List.mem_of_getElem? e1) y hy
  ·have:z=a:=by simpa using q
   subst this
   exact S.a z (List.mem_of_getElem? e2)
 ·rcases List.mem_append.mp hz with q | q
  ·exact S.g z q
  ·have:z=0:=by simpa using q
   subst this
   exact Nat.zero_le _
theorem noG_wh {s:Sh}:WhL 1 (2 ^ 100) s.noG.gl:=fun i a h=>by
 have h':(s.gl.map fun _=>(0:Rat))[i]? = some a:=h
 rw[List.getElem?_map] at h'
 cases e:s.gl[i]? with
 | none=>rw[e] at h'; cases h'
 | some x=>rw[e] at h'; cases h'; exact wh_zero _ _
theorem noG_none {s s':Sh} (e:s.noG.Eqv s') {p:Nat} {v:Int} (hp:s'.out[p]? = some v) (h:0<s'.gl.getD p 0):False:=by
 have ft:=e.fro _ _ _ (way_fit e.ok (List.getElem?_eq_some_iff.mp hp).1)
 obtain⟨_,z⟩:=noG_fit.mp ft
 grind
inductive Ans where
 | best (x y:List Rat) | no (w:List Rat) | endl (x d:List Rat)
def Right (U:List (List Int)) (am gn:List Int):Ans→Prop
 | .best x y=>BestR U am gn x y
 | .no w=>NoneR U am gn w
 | .endl x d=>EndR U am gn x d
def SmLs (n:Nat) (l:List Rat):Prop:=∀ a∈l,FM.Sm n a
def Ans.Sm:Ans→Prop
 | .best x y=>SmLs 1000 x∧SmLs 1000 y
 | .no w=>SmLs 1000 w
 | .endl x d=>SmLs 1000 x∧SmLs 1000 d
theorem sm_zero {n:Nat} (h:0<n):FM.Sm n 0:=⟨Nat.two_pow_pos n,Nat.one_lt_two_pow (by omega)⟩
theorem sm_onE {n:Nat} (h:0<n):FM.Sm n 1:=⟨Nat.one_lt_two_pow (by omega),Nat.one_lt_two_pow (by omega)⟩
theorem sm_neg' {n:Nat} {r:Rat} (h:FM.Sm n r):FM.Sm n (-r):=⟨by rw[Rat.neg_num,Int.natAbs_neg]; exact h.1,by rw[Rat.neg_den]; exact h.2⟩
theorem coef_sm {keys:List Int} {vals:List Rat} (h:SmLs 1000 vals) (k:Int):FM.Sm 1000 (coef keys vals k):=by
 unfold coef
 cases q:idx keys k with
 | none=>exact sm_zero (by decide)
 | some i=>
  show FM.Sm 1000 (vals.getD i 0)
  cases e:vals[i]? with
  | none=>rw[show vals.getD i 0=0 by simp[List.getD,e]]; exact sm_zero (by decide)
  | some a=>rw[getD_of e]; exact h a (List.mem_of_getElem? e)
theorem at_sm {f:Int→Rat} (h:∀ k,FM.Sm 1000 (f k)) (lo:Int) (n:Nat):SmLs 1000 (at_ f lo n):=fun a ha=>by
 obtain⟨k,_,rfl⟩:=List.mem_map.mp ha
 exact h k
theorem getD_sm {l:List Rat} (h:SmLs 1000 l) (i:Nat):FM.Sm 1000 (l.getD i 0):=by
 cases e:l[i]? with
 | none=>rw[show l.getD i 0=0 by simp[List.getD,e]]; exact sm_zero (by decide)
 | some a=>rw[getD_of e]; exact h a (List.mem_of_getElem? e)
theorem negs_sm {l:List Rat} (h:SmLs 1000 l) (n:Nat):SmLs 1000 ((l.take n).map fun x=>-x):=fun a ha=>by
 obtain⟨b,hb,rfl⟩:=List.mem_map.mp ha
 exact sm_neg' (h b (List.mem_of_mem_take hb))
section
variable {s:Sh} (hs:∀ l,(l∈s.ln∨l=s.gl)→∀ a∈l,FM.Sm 1000 a)
include hs
theorem planF_sm (k:Int):FM.Sm 1000 (s.planF k):=coef_sm (fun a ha=>by
 obtain⟨l,hl,rfl⟩:=List.mem_map.mp ha
 exact getD_sm (hs l (.inl hl)) _) k
theorem priceF_sm (k:Int):FM.Sm 1000 (s.priceF k):=coef_sm (negs_sm (hs _ (.inr rfl)) _) k
theorem weightF_sm (r:Nat) (k:Int):FM.Sm 1000 (s.weightF r k):=by
 unfold Sh.weightF
 split
 ·exact sm_onE (by decide)
 ·refine coef_sm (negs_sm ?_ _) k
  cases e:s.ln[r]? with
  | none=>rw[show s.ln.getD r []=[] by simp[List.getD,e]]; intro a ha; cases ha
  | some l=>rw[show s.ln.getD r []=l by simp[List.getD,e]]; exact hs l (.inl (List.mem_of_getElem? e))
theorem wayF_sm (p:Nat) (k:Int):FM.Sm 1000 (s.wayF p k):=by
 unfold Sh.wayF
 split
 ·exact sm_onE (by decide)
 ·exact coef_sm (fun a ha=>by
   obtain⟨l,hl,rfl⟩:=List.mem_map.mp ha
   exact getD_sm (hs l (.inl hl)) _) k
end
end
end SH
namespace SH
theorem num_lt {r:Rat}:r.num<0↔r<0:=by
 constructor
 ·intro h
  rcases Classical.em (r<0) with q | q
  ·exact q
  ·have:0≤r:=by grind
   have:=Rat.num_nonneg.mpr this
   omega
 ·intro h
  rcases Int.lt_or_le r.num 0 with q | q
  ·exact q
  ·have:=Rat.num_nonneg.mp q
   grind
theorem num_gt {r:Rat}:0<r.num↔0<r:=by
 have h:=num_lt (r:=-r)
 rw[Rat.neg_num] at h
 constructor
 ·intro q
  have:=h.mp (by omega)
  grind
 ·intro q
  have:=h.mpr (by grind)
  omega
def tk (ns:List Int) (x:List Rat):Nat→Int × Int
 | 0=>(0,1)
 | k+1=>((tk ns x k).1*((x.getD k 0).den:Int)+ns.getD k 0*(x.getD k 0).num*(tk ns x k).2,(tk ns x k).2*((x.getD k 0).den:Int))
def tot (ns:List Int) (x:List Rat):Int × Int:=tk ns x ns.length
theorem tk_pos (ns:List Int) (x:List Rat):∀ k,0<(tk ns x k).2
 | 0=>by show (0:Int)<1; decide
 | k+1=>Int.mul_pos (tk_pos ns x k) (by have:=(x.getD k 0).den_pos; omega)
theorem den_q (r:Rat):r*(((r.den:Nat):Int):Rat)=(r.num:Rat):=by
 have hd:((r.den:Int))≠0:=by have:=r.den_pos; omega
 have e:r=(r.num:Rat) / (((r.den:Nat):Int):Rat):=by
  conv=>lhs; rw[← Rat.num_divInt_den r]
  exact Rat.divInt_eq_div _ _
 have hq:(((r.den:Nat):Int):Rat)≠0:=fun z=>hd (Rat.intCast_inj.mp (z:(((r.den:Nat):Int):Rat)=((0:Int):Rat)))
 conv=>lhs; lhs; rw[e]
 grind
theorem tk_val (ns:List Int) (x:List Rat):∀ k,((tk ns x k).1:Rat)=sq k (fun i=>((ns.getD i 0:Int):Rat)*x.getD i 0)*((tk ns x k).2:Rat)
 | 0=>by show ((0:Int):Rat)=0*((1:Int):Rat); grind
 | k+1=>by
  have ih:=tk_val ns x k
  have hd:=den_q (x.getD k 0)
  show (((tk ns x k).1*((x.getD k 0).den:Int)+ns.getD k 0*(x.getD k 0).num*(tk ns x k).2:Int):Rat)=(sq k (fun i=>((ns.getD i 0:Int):Rat)*x.getD i 0)+((ns.getD k 0:Int):Rat)*x.getD k 0)*(((tk ns x k).2*((x.getD k 0).den:Int):Int):Rat)
  rw[Rat.intCast_add,Rat.intCast_mul,Rat.intCast_mul,Rat.intCast_mul,Rat.intCast_mul,ih,← hd]
  grind
theorem tot_val {ns:List Int} {x:List Rat} (h:x.length=ns.length):((tot ns x).1:Rat)=dot (qs ns) x*((tot ns x).2:Rat):=by
 unfold tot
 rw[tk_val,dot_sq (qs ns) x ns.length (qs_len _) h]
 congr 1
 exact sq_congr fun i _=>by rw[qs_getD]
theorem tot_pos (ns:List Int) (x:List Rat):0<(tot ns x).2:=tk_pos _ _ _
theorem mul_le_iff {a b c:Rat} (hc:0<c):a*c≤b*c↔a≤b:=⟨fun h=>Rat.le_of_mul_le_mul_right h hc,fun h=>Rat.mul_le_mul_of_nonneg_right h (Rat.le_of_lt hc)⟩
theorem castpos {z:Int} (h:0<z):(0:Rat)<(z:Rat):=Rat.intCast_pos.mpr h
section
variable {ns:List Int} {x:List Rat}
theorem tot_le (h:x.length=ns.length) (a:Int):(tot ns x).1≤a*(tot ns x).2↔dot (qs ns) x≤(a:Rat):=by
 rw[← Rat.intCast_le_intCast,Rat.intCast_mul,tot_val h]
 exact mul_le_iff (castpos (tot_pos ns x))
theorem tot_ge (h:x.length=ns.length) (a:Int):a*(tot ns x).2≤(tot ns x).1↔(a:Rat)≤dot (qs ns) x:=by
 rw[← Rat.intCast_le_intCast,Rat.intCast_mul,tot_val h]
 exact mul_le_iff (castpos (tot_pos ns x))
theorem tot_neg (h:x.length=ns.length):(tot ns x).1<0↔dot (qs ns) x<0:=by
 have:=tot_ge h 0
 rw[Int.zero_mul] at this
 constructor
 ·intro q
  rcases Classical.em (dot (qs ns) x<0) with z | z
  ·exact z
  ·have:=this.mpr (by show (0:Rat)≤_; grind)
   omega
 ·intro q
  rcases Int.lt_or_le (tot ns x).1 0 with z | z
  ·exact z
  ·have:=this.mp z
   have h2:(0:Rat)≤dot (qs ns) x:=this
   grind
theorem tot_gt (h:x.length=ns.length):0<(tot ns x).1↔0<dot (qs ns) x:=by
 have:=tot_le h 0
 rw[Int.zero_mul] at this
 constructor
 ·intro q
  rcases Classical.em (0<dot (qs ns) x) with z | z
  ·exact z
  ·have:=this.mpr (by show _≤(0:Rat); grind)
   omega
 ·intro q
  rcases Int.lt_or_le 0 (tot ns x).1 with z | z
  ·exact z
  ·have:=this.mp z
   have h2:dot (qs ns) x≤(0:Rat):=this
   grind
theorem tot_cross {ms:List Int} {y:List Rat} (h:x.length=ns.length) (h2:y.length=ms.length):(tot ns x).1*(tot ms y).2=(tot ms y).1*(tot ns x).2↔dot (qs ns) x=dot (qs ms) y:=by
 have p1:=castpos (tot_pos ns x)
 have p2:=castpos (tot_pos ms y)
 rw[← Rat.intCast_inj,Rat.intCast_mul,Rat.intCast_mul,tot_val h,tot_val h2]
 constructor
 ·intro e
  have e2:(dot (qs ns) x-dot (qs ms) y)*(((tot ns x).2:Rat)*((tot ms y).2:Rat))=0:=by grind
  rcases Rat.mul_eq_zero.mp e2 with q | q
  ·grind
  ·rcases Rat.mul_eq_zero.mp q with z | z <;> grind
 ·intro e
  rw[e]; grind
end
end SH
namespace SH
end SH
namespace SH
section
variable {U:List (List Int)} {am gn:List Int}
end
end SH
namespace SH
end SH
namespace W1
open PySem PySem.Spec L2
def top (i:Nat):Stmt:=PySem.Challenge.pw_wareplan_k05_whole_stands.main.body.getD i (.Pass ⟨0,0,0,0⟩)
abbrev s_common_divisor:Stmt:=top 6
abbrev s_made:Stmt:=top 7
abbrev s_opposite:Stmt:=top 8
abbrev s_plus:Stmt:=top 9
abbrev s_times:Stmt:=top 10
abbrev s_over:Stmt:=top 11
abbrev s_less:Stmt:=top 12
abbrev s_total:Stmt:=top 14
abbrev s_none_below_nought:Stmt:=top 15
abbrev s_possible:Stmt:=top 16
abbrev s_used_by:Stmt:=top 17
abbrev s_covered:Stmt:=top 18
abbrev s_equal:Stmt:=top 19
abbrev s_best_stands:Stmt:=top 20
abbrev s_none_stands:Stmt:=top 21
abbrev s_endless_stands:Stmt:=top 22
abbrev s_stands:Stmt:=top 23
abbrev s_solved_for:Stmt:=top 26
abbrev s_with_put_in:Stmt:=top 27
abbrev s_exchanged:Stmt:=top 28
abbrev s_in_fractions:Stmt:=top 30
abbrev s_stock_line:Stmt:=top 31
abbrev s_first_sheet:Stmt:=top 32
abbrev s_least_place:Stmt:=top 33
abbrev s_least_short:Stmt:=top 34
abbrev s_least_gaining:Stmt:=top 35
abbrev s_least_helping:Stmt:=top 36
abbrev s_least_bounding:Stmt:=top 37
abbrev s_searched:Stmt:=top 38
abbrev s_of_wares:Stmt:=top 39
abbrev s_of_stocks:Stmt:=top 40
abbrev s_plan_of:Stmt:=top 41
abbrev s_prices_of:Stmt:=top 42
abbrev s_weights_of:Stmt:=top 43
abbrev s_way_of:Stmt:=top 44
abbrev s_without_gains:Stmt:=top 45
abbrev s_solved_with_way:Stmt:=top 46
abbrev s_solved:Stmt:=top 47
abbrev s_Lwhole:Stmt:=top 49
abbrev s_Lat:Stmt:=top 50
abbrev s_Lsame:Stmt:=top 51
abbrev s_Lcommon:Stmt:=top 52
abbrev s_Lis_fraction:Stmt:=top 53
abbrev s_Lare_fractions:Stmt:=top 54
abbrev s_Lnumber_of:Stmt:=top 55
abbrev s_Ltask_of:Stmt:=top 56
abbrev s_Ltotal:Stmt:=top 57
abbrev s_Lnone_below:Stmt:=top 58
abbrev s_Lwithin:Stmt:=top 59
abbrev s_Lcolumn:Stmt:=top 60
abbrev s_Lbest_right:Stmt:=top 61
abbrev s_Lnone_right:Stmt:=top 62
abbrev s_Lendless_right:Stmt:=top 63
abbrev s_Lshown_right:Stmt:=top 64
abbrev s_Lis_answer:Stmt:=top 65
abbrev s_Lspoilt:Stmt:=top 66
abbrev s_Lother_form:Stmt:=top 67
abbrev s_Lat_the_edge:Stmt:=top 68
abbrev s_Lof_turned:Stmt:=top 69
abbrev s_law:Stmt:=top 70
abbrev s_Sheet___init__:Stmt:=inClass (top 25) 0
theorem sc_common_divisor:FnScope ["one","two","rest"] ["one","two"] (defScope s_common_divisor):=⟨rfl,rfl,rfl,by decide +kernel,rfl,by decide +kernel,by decide +kernel⟩
theorem sc_made:FnScope ["top","bottom","divisor"] ["top","bottom"] (defScope s_made):=⟨rfl,rfl,rfl,by decide +kernel,rfl,by decide +kernel,by decide +kernel⟩
theorem sc_opposite:FnScope ["fraction"] ["fraction"] (defScope s_opposite):=⟨rfl,rfl,rfl,by decide +kernel,rfl,by decide +kernel,by decide +kernel⟩
theorem sc_plus:FnScope ["one","two"] ["one","two"] (defScope s_plus):=⟨rfl,rfl,rfl,by decide +kernel,rfl,by decide +kernel,by decide +kernel⟩
theorem sc_times:FnScope ["one","two"] ["one","two"] (defScope s_times):=⟨rfl,rfl,rfl,by decide +kernel,rfl,by decide +kernel,by decide +kernel⟩
theorem sc_over:FnScope ["one","two"] ["one","two"] (defScope s_over):=⟨rfl,rfl,rfl,by decide +kernel,rfl,by decide +kernel,by decide +kernel⟩
theorem sc_less:FnScope ["one","two"] ["one","two"] (defScope s_less):=⟨rfl,rfl,rfl,by decide +kernel,rfl,by decide +kernel,by decide +kernel⟩
theorem sc_total:FnScope ["numbers","fractions","top","bottom","number","fraction"] ["numbers","fractions"] (defScope s_total):=⟨rfl,rfl,rfl,by decide +kernel,rfl,by decide +kernel,by decide +kernel⟩
theorem sc_none_below_nought:FnScope ["fractions"] ["fractions"] (defScope s_none_below_nought):=⟨rfl,rfl,rfl,by decide +kernel,rfl,by decide +kernel,by decide +kernel⟩
theorem sc_possible:FnScope ["uses","amounts","plan","within"] ["uses","amounts","plan"] (defScope s_possible):=⟨rfl,rfl,rfl,by decide +kernel,rfl,by decide +kernel,by decide +kernel⟩
theorem sc_used_by:FnScope ["ware","uses"] ["ware","uses"] (defScope s_used_by):=⟨rfl,rfl,rfl,by decide +kernel,rfl,by decide +kernel,by decide +kernel⟩
theorem sc_covered:FnScope ["uses","wanted","fractions","short"] ["uses","wanted","fractions"] (defScope s_covered):=⟨rfl,rfl,rfl,by decide +kernel,rfl,by decide +kernel,by decide +kernel⟩
theorem sc_equal:FnScope ["one","two"] ["one","two"] (defScope s_equal):=⟨rfl,rfl,rfl,by decide +kernel,rfl,by decide +kernel,by decide +kernel⟩
theorem sc_best_stands:FnScope ["uses","amounts","gains","plan","prices"] ["uses","amounts","gains","plan","prices"] (defScope s_best_stands):=⟨rfl,rfl,rfl,by decide +kernel,rfl,by decide +kernel,by decide +kernel⟩
theorem sc_none_stands:FnScope ["uses","amounts","gains","weights"] ["uses","amounts","gains","weights"] (defScope s_none_stands):=⟨rfl,rfl,rfl,by decide +kernel,rfl,by decide +kernel,by decide +kernel⟩
theorem sc_endless_stands:FnScope ["uses","amounts","gains","plan","way"] ["uses","amounts","gains","plan","way"] (defScope s_endless_stands):=⟨rfl,rfl,rfl,by decide +kernel,rfl,by decide +kernel,by decide +kernel⟩
theorem sc_stands:FnScope ["uses","amounts","gains","answer"] ["uses","amounts","gains","answer"] (defScope s_stands):=⟨rfl,rfl,rfl,by decide +kernel,rfl,by decide +kernel,by decide +kernel⟩
theorem sc_solved_for:FnScope ["line","place","divisor","told"] ["line","place"] (defScope s_solved_for):=⟨rfl,rfl,rfl,by decide +kernel,rfl,by decide +kernel,by decide +kernel⟩
theorem sc_with_put_in:FnScope ["line","place","told","factor","new"] ["line","place","told"] (defScope s_with_put_in):=⟨rfl,rfl,rfl,by decide +kernel,rfl,by decide +kernel,by decide +kernel⟩
theorem sc_exchanged:FnScope ["sheet","row","place","told","lines","goal","inner","outer"] ["sheet","row","place"] (defScope s_exchanged):=⟨rfl,rfl,rfl,by decide +kernel,rfl,by decide +kernel,by decide +kernel⟩
theorem sc_in_fractions:FnScope ["numbers"] ["numbers"] (defScope s_in_fractions):=⟨rfl,rfl,rfl,by decide +kernel,rfl,by decide +kernel,by decide +kernel⟩
theorem sc_stock_line:FnScope ["row","amount"] ["row","amount"] (defScope s_stock_line):=⟨rfl,rfl,rfl,by decide +kernel,rfl,by decide +kernel,by decide +kernel⟩
theorem sc_first_sheet:FnScope ["uses","amounts","gains","wares","inner","lines"] ["uses","amounts","gains"] (defScope s_first_sheet):=⟨rfl,rfl,rfl,by decide +kernel,rfl,by decide +kernel,by decide +kernel⟩
theorem sc_least_place:FnScope ["unknowns","places"] ["unknowns","places"] (defScope s_least_place):=⟨rfl,rfl,rfl,by decide +kernel,rfl,by decide +kernel,by decide +kernel⟩
theorem sc_least_short:FnScope ["sheet"] ["sheet"] (defScope s_least_short):=⟨rfl,rfl,rfl,by decide +kernel,rfl,by decide +kernel,by decide +kernel⟩
theorem sc_least_gaining:FnScope ["sheet"] ["sheet"] (defScope s_least_gaining):=⟨rfl,rfl,rfl,by decide +kernel,rfl,by decide +kernel,by decide +kernel⟩
theorem sc_least_helping:FnScope ["sheet","row","line"] ["sheet","row"] (defScope s_least_helping):=⟨rfl,rfl,rfl,by decide +kernel,rfl,by decide +kernel,by decide +kernel⟩
theorem sc_least_bounding:FnScope ["sheet","place"] ["sheet","place"] (defScope s_least_bounding):=⟨rfl,rfl,rfl,by decide +kernel,rfl,by decide +kernel,by decide +kernel⟩
theorem sc_searched:FnScope ["sheet","row","place"] ["sheet"] (defScope s_searched):=⟨rfl,rfl,rfl,by decide +kernel,rfl,by decide +kernel,by decide +kernel⟩
theorem sc_of_wares:FnScope ["sheet","known"] ["sheet","known"] (defScope s_of_wares):=⟨rfl,rfl,rfl,by decide +kernel,rfl,by decide +kernel,by decide +kernel⟩
theorem sc_of_stocks:FnScope ["sheet","known","wares"] ["sheet","known"] (defScope s_of_stocks):=⟨rfl,rfl,rfl,by decide +kernel,rfl,by decide +kernel,by decide +kernel⟩
theorem sc_plan_of:FnScope ["sheet"] ["sheet"] (defScope s_plan_of):=⟨rfl,rfl,rfl,by decide +kernel,rfl,by decide +kernel,by decide +kernel⟩
theorem sc_prices_of:FnScope ["sheet"] ["sheet"] (defScope s_prices_of):=⟨rfl,rfl,rfl,by decide +kernel,rfl,by decide +kernel,by decide +kernel⟩
theorem sc_weights_of:FnScope ["sheet","row","known"] ["sheet","row"] (defScope s_weights_of):=⟨rfl,rfl,rfl,by decide +kernel,rfl,by decide +kernel,by decide +kernel⟩
theorem sc_way_of:FnScope ["sheet","place","known"] ["sheet","place"] (defScope s_way_of):=⟨rfl,rfl,rfl,by decide +kernel,rfl,by decide +kernel,by decide +kernel⟩
theorem sc_without_gains:FnScope ["sheet"] ["sheet"] (defScope s_without_gains):=⟨rfl,rfl,rfl,by decide +kernel,rfl,by decide +kernel,by decide +kernel⟩
theorem sc_solved_with_way:FnScope ["sheet","place","found"] ["sheet","place"] (defScope s_solved_with_way):=⟨rfl,rfl,rfl,by decide +kernel,rfl,by decide +kernel,by decide +kernel⟩
theorem sc_solved:FnScope ["uses","amounts","gains","found"] ["uses","amounts","gains"] (defScope s_solved):=⟨rfl,rfl,rfl,by decide +kernel,rfl,by decide +kernel,by decide +kernel⟩
theorem sc_Lwhole:FnScope ["_law_found"] ["_law_found"] (defScope s_Lwhole):=⟨rfl,rfl,rfl,by decide +kernel,rfl,by decide +kernel,by decide +kernel⟩
theorem sc_Lat:FnScope ["_law_script","_law_k"] ["_law_script","_law_k"] (defScope s_Lat):=⟨rfl,rfl,rfl,by decide +kernel,rfl,by decide +kernel,by decide +kernel⟩
theorem sc_Lsame:FnScope ["_law_found","_law_due","_law_left","_law_right","_law_one","_law_two"] ["_law_found","_law_due"] (defScope s_Lsame):=⟨rfl,rfl,rfl,by decide +kernel,rfl,by decide +kernel,by decide +kernel⟩
theorem sc_Lcommon:FnScope ["_law_one","_law_two","_law_rest"] ["_law_one","_law_two"] (defScope s_Lcommon):=⟨rfl,rfl,rfl,by decide +kernel,rfl,by decide +kernel,by decide +kernel⟩
theorem sc_Lis_fraction:FnScope ["_law_found"] ["_law_found"] (defScope s_Lis_fraction):=⟨rfl,rfl,rfl,by decide +kernel,rfl,by decide +kernel,by decide +kernel⟩
theorem sc_Lare_fractions:FnScope ["_law_found","_law_count","_law_one"] ["_law_found","_law_count"] (defScope s_Lare_fractions):=⟨rfl,rfl,rfl,by decide +kernel,rfl,by decide +kernel,by decide +kernel⟩
theorem sc_Lnumber_of:FnScope ["_law_cell","_law_low","_law_high","_law_far"] ["_law_cell","_law_low","_law_high"] (defScope s_Lnumber_of):=⟨rfl,rfl,rfl,by decide +kernel,rfl,by decide +kernel,by decide +kernel⟩
theorem sc_Ltask_of:FnScope ["_law_script","_law_least","_law_more","_law_wares","_law_stocks","_law_low","_law_uses","_law_k","_law_amounts","_law_gains","_law_j","_law_row"] ["_law_script","_law_least"] (defScope s_Ltask_of):=⟨rfl,rfl,rfl,by decide +kernel,rfl,by decide +kernel,by decide +kernel⟩
theorem sc_Ltotal:FnScope ["_law_numbers","_law_fractions","_law_top","_law_bottom","_law_k"] ["_law_numbers","_law_fractions"] (defScope s_Ltotal):=⟨rfl,rfl,rfl,by decide +kernel,rfl,by decide +kernel,by decide +kernel⟩
theorem sc_Lnone_below:FnScope ["_law_row","_law_one"] ["_law_row"] (defScope s_Lnone_below):=⟨rfl,rfl,rfl,by decide +kernel,rfl,by decide +kernel,by decide +kernel⟩
theorem sc_Lwithin:FnScope ["_law_uses","_law_amounts","_law_plan","_law_k","_law_top","_law_bottom"] ["_law_uses","_law_amounts","_law_plan"] (defScope s_Lwithin):=⟨rfl,rfl,rfl,by decide +kernel,rfl,by decide +kernel,by decide +kernel⟩
theorem sc_Lcolumn:FnScope ["_law_uses","_law_k"] ["_law_uses","_law_k"] (defScope s_Lcolumn):=⟨rfl,rfl,rfl,by decide +kernel,rfl,by decide +kernel,by decide +kernel⟩
theorem sc_Lbest_right:FnScope ["_law_uses","_law_amounts","_law_gains","_law_plan","_law_prices","_law_k","_law_worth","_law_cost","_law_top","_law_bottom"] ["_law_uses","_law_amounts","_law_gains","_law_plan","_law_prices"] (defScope s_Lbest_right):=⟨rfl,rfl,rfl,by decide +kernel,rfl,by decide +kernel,by decide +kernel⟩
theorem sc_Lnone_right:FnScope ["_law_uses","_law_amounts","_law_gains","_law_weights","_law_k"] ["_law_uses","_law_amounts","_law_gains","_law_weights"] (defScope s_Lnone_right):=⟨rfl,rfl,rfl,by decide +kernel,rfl,by decide +kernel,by decide +kernel⟩
theorem sc_Lendless_right:FnScope ["_law_uses","_law_amounts","_law_gains","_law_plan","_law_way","_law_row"] ["_law_uses","_law_amounts","_law_gains","_law_plan","_law_way"] (defScope s_Lendless_right):=⟨rfl,rfl,rfl,by decide +kernel,rfl,by decide +kernel,by decide +kernel⟩
theorem sc_Lshown_right:FnScope ["_law_uses","_law_amounts","_law_gains","_law_found"] ["_law_uses","_law_amounts","_law_gains","_law_found"] (defScope s_Lshown_right):=⟨rfl,rfl,rfl,by decide +kernel,rfl,by decide +kernel,by decide +kernel⟩
theorem sc_Lis_answer:FnScope ["_law_found","_law_wares","_law_stocks"] ["_law_found","_law_wares","_law_stocks"] (defScope s_Lis_answer):=⟨rfl,rfl,rfl,by decide +kernel,rfl,by decide +kernel,by decide +kernel⟩
theorem sc_Lspoilt:FnScope ["_law_found","_law_spot","_law_way","_law_lists","_law_row","_law_place","_law_top","_law_bottom"] ["_law_found","_law_spot","_law_way"] (defScope s_Lspoilt):=⟨rfl,rfl,rfl,by decide +kernel,rfl,by decide +kernel,by decide +kernel⟩
theorem sc_Lother_form:FnScope ["_law_script","_law_wares","_law_stocks","_law_cells","_law_way"] ["_law_script","_law_wares","_law_stocks"] (defScope s_Lother_form):=⟨rfl,rfl,rfl,by decide +kernel,rfl,by decide +kernel,by decide +kernel⟩
theorem sc_Lat_the_edge:FnScope ["_law_uses","_law_gains","_law_cell","_law_stocks","_law_noughts","_law_rows","_law_contrary","_law_plan"] ["_law_uses","_law_gains","_law_cell"] (defScope s_Lat_the_edge):=⟨rfl,rfl,rfl,by decide +kernel,rfl,by decide +kernel,by decide +kernel⟩
theorem sc_Lof_turned:FnScope ["_law_uses","_law_amounts","_law_gains","_law_rows","_law_found"] ["_law_uses","_law_amounts","_law_gains"] (defScope s_Lof_turned):=⟨rfl,rfl,rfl,by decide +kernel,rfl,by decide +kernel,by decide +kernel⟩
theorem sc_law:FnScope ["_law_script","_law_least","_law_answer","_law_way","_law_handed","_law_told","_law_found","_law_due","_law_uses","_law_amounts","_law_gains","_law_edge"] ["_law_script"] (defScope s_law):=⟨rfl,rfl,rfl,by decide +kernel,rfl,by decide +kernel,by decide +kernel⟩
theorem sc_Sheet___init__:FnScope ["self","inner","outer","lines","goal"] ["self","inner","outer","lines","goal"] (defScope s_Sheet___init__):=⟨rfl,rfl,rfl,by decide +kernel,rfl,by decide +kernel,by decide +kernel⟩
set_option genInjectivity false in
set_option genSizeOf false in
structure Adr where
 f_common_divisor:Addr
 d_common_divisor:FuncData
 f_made:Addr
 d_made:FuncData
 f_opposite:Addr
 d_opposite:FuncData
 f_plus:Addr
 d_plus:FuncData
 f_times:Addr
 d_times:FuncData
 f_over:Addr
 d_over:FuncData
 f_less:Addr
 d_less:FuncData
 f_total:Addr
 d_total:FuncData
 f_none_below_nought:Addr
 d_none_below_nought:FuncData
 f_possible:Addr
 d_possible:FuncData
 f_used_by:Addr
 d_used_by:FuncData
 f_covered:Addr
 d_covered:FuncData
 f_equal:Addr
 d_equal:FuncData
 f_best_stands:Addr
 d_best_stands:FuncData
 f_none_stands:Addr
 d_none_stands:FuncData
 f_endless_stands:Addr
 d_endless_stands:FuncData
 f_stands:Addr
 d_stands:FuncData
 f_solved_for:Addr
 d_solved_for:FuncData
 f_with_put_in:Addr
 d_with_put_in:FuncData
 f_exchanged:Addr
 d_exchanged:FuncData
 f_in_fractions:Addr
 d_in_fractions:FuncData
 f_stock_line:Addr
 d_stock_line:FuncData
 f_first_sheet:Addr
 d_first_sheet:FuncData
 f_least_place:Addr
 d_least_place:FuncData
 f_least_short:Addr
 d_least_short:FuncData
 f_least_gaining:Addr
 d_least_gaining:FuncData
 f_least_helping:Addr
 d_least_helping:FuncData
 f_least_bounding:Addr
 d_least_bounding:FuncData
 f_searched:Addr
 d_searched:FuncData
 f_of_wares:Addr
 d_of_wares:FuncData
 f_of_stocks:Addr
 d_of_stocks:FuncData
 f_plan_of:Addr
 d_plan_of:FuncData
 f_prices_of:Addr
 d_prices_of:FuncData
 f_weights_of:Addr
 d_weights_of:FuncData
 f_way_of:Addr
 d_way_of:FuncData
 f_without_gains:Addr
 d_without_gains:FuncData
 f_solved_with_way:Addr
 d_solved_with_way:FuncData
 f_solved:Addr
 d_solved:FuncData
 f_Lwhole:Addr
 d_Lwhole:FuncData
 f_Lat:Addr
 d_Lat:FuncData
 f_Lsame:Addr
 d_Lsame:FuncData
 f_Lcommon:Addr
 d_Lcommon:FuncData
 f_Lis_fraction:Addr
 d_Lis_fraction:FuncData
 f_Lare_fractions:Addr
 d_Lare_fractions:FuncData
 f_Lnumber_of:Addr
 d_Lnumber_of:FuncData
 f_Ltask_of:Addr
 d_Ltask_of:FuncData
 f_Ltotal:Addr
 d_Ltotal:FuncData
 f_Lnone_below:Addr
 d_Lnone_below:FuncData
 f_Lwithin:Addr
 d_Lwithin:FuncData
 f_Lcolumn:Addr
 d_Lcolumn:FuncData
 f_Lbest_right:Addr
 d_Lbest_right:FuncData
 f_Lnone_right:Addr
 d_Lnone_right:FuncData
 f_Lendless_right:Addr
 d_Lendless_right:FuncData
 f_Lshown_right:Addr
 d_Lshown_right:FuncData
 f_Lis_answer:Addr
 d_Lis_answer:FuncData
 f_Lspoilt:Addr
 d_Lspoilt:FuncData
 f_Lother_form:Addr
 d_Lother_form:FuncData
 f_Lat_the_edge:Addr
 d_Lat_the_edge:FuncData
 f_Lof_turned:Addr
 d_Lof_turned:FuncData
 f_law:Addr
 d_law:FuncData
 f_Sheet___init__:Addr
 d_Sheet___init__:FuncData
 c_PlanError:Addr
 c_NoFraction:Addr
 c_Sheet:Addr
 k_NOUGHT:Addr
 k_ONE:Addr
structure Txt (K:PySem.W.Frag) (mg:Str→Option Value) (t:Adr):Prop where
 F_common_divisor:Fun K "common_divisor" "common_divisor" s_common_divisor t.f_common_divisor t.d_common_divisor
 b_common_divisor:Binds K t.d_common_divisor ["one","two"] []
 m_common_divisor:mg "common_divisor" = some (.ref t.f_common_divisor)
 F_made:Fun K "made" "made" s_made t.f_made t.d_made
 b_made:Binds K t.d_made ["top","bottom"] []
 m_made:mg "made" = some (.ref t.f_made)
 F_opposite:Fun K "opposite" "opposite" s_opposite t.f_opposite t.d_opposite
 b_opposite:Binds K t.d_opposite ["fraction"] []
 m_opposite:mg "opposite" = some (.ref t.f_opposite)
 F_plus:Fun K "plus" "plus" s_plus t.f_plus t.d_plus
 b_plus:Binds K t.d_plus ["one","two"] []
 m_plus:mg "plus" = some (.ref t.f_plus)
 F_times:Fun K "times" "times" s_times t.f_times t.d_times
 b_times:Binds K t.d_times ["one","two"] []
 m_times:mg "times" = some (.ref t.f_times)
 F_over:Fun K "over" "over" s_over t.f_over t.d_over
 b_over:Binds K t.d_over ["one","two"] []
 m_over:mg "over" = some (.ref t.f_over)
 F_less:Fun K "less" "less" s_less t.f_less t.d_less
 b_less:Binds K t.d_less ["one","two"] []
 m_less:mg "less" = some (.ref t.f_less)
 F_total:Fun K "total" "total" s_total t.f_total t.d_total
 b_total:Binds K t.d_total ["numbers","fractions"] []
 m_total:mg "total" = some (.ref t.f_total)
 F_none_below_nought:Fun K "none_below_nought" "none_below_nought" s_none_below_nought t.f_none_below_nought t.d_none_below_nought
 b_none_below_nought:Binds K t.d_none_below_nought ["fractions"] []
 m_none_below_nought:mg "none_below_nought" = some (.ref t.f_none_below_nought)
 F_possible:Fun K "possible" "possible" s_possible t.f_possible t.d_possible
 b_possible:Binds K t.d_possible ["uses","amounts","plan"] []
 m_possible:mg "possible" = some (.ref t.f_possible)
 F_used_by:Fun K "used_by" "used_by" s_used_by t.f_used_by t.d_used_by
 b_used_by:Binds K t.d_used_by ["ware","uses"] []
 m_used_by:mg "used_by" = some (.ref t.f_used_by)
 F_covered:Fun K "covered" "covered" s_covered t.f_covered t.d_covered
 b_covered:Binds K t.d_covered ["uses","wanted","fractions"] []
 m_covered:mg "covered" = some (.ref t.f_covered)
 F_equal:Fun K "equal" "equal" s_equal t.f_equal t.d_equal
 b_equal:Binds K t.d_equal ["one","two"] []
 m_equal:mg "equal" = some (.ref t.f_equal)
 F_best_stands:Fun K "best_stands" "best_stands" s_best_stands t.f_best_stands t.d_best_stands
 b_best_stands:Binds K t.d_best_stands ["uses","amounts","gains","plan","prices"] []
 m_best_stands:mg "best_stands" = some (.ref t.f_best_stands)
 F_none_stands:Fun K "none_stands" "none_stands" s_none_stands t.f_none_stands t.d_none_stands
 b_none_stands:Binds K t.d_none_stands ["uses","amounts","gains","weights"] []
 m_none_stands:mg "none_stands" = some (.ref t.f_none_stands)
 F_endless_stands:Fun K "endless_stands" "endless_stands" s_endless_stands t.f_endless_stands t.d_endless_stands
 b_endless_stands:Binds K t.d_endless_stands ["uses","amounts","gains","plan","way"] []
 m_endless_stands:mg "endless_stands" = some (.ref t.f_endless_stands)
 F_stands:Fun K "stands" "stands" s_stands t.f_stands t.d_stands
 b_stands:Binds K t.d_stands ["uses","amounts","gains","answer"] []
 m_stands:mg "stands" = some (.ref t.f_stands)
 F_solved_for:Fun K "solved_for" "solved_for" s_solved_for t.f_solved_for t.d_solved_for
 b_solved_for:Binds K t.d_solved_for ["line","place"] []
 m_solved_for:mg "solved_for" = some (.ref t.f_solved_for)
 F_with_put_in:Fun K "with_put_in" "with_put_in" s_with_put_in t.f_with_put_in t.d_with_put_in
 b_with_put_in:Binds K t.d_with_put_in ["line","place","told"] []
 m_with_put_in:mg "with_put_in" = some (.ref t.f_with_put_in)
 F_exchanged:Fun K "exchanged" "exchanged" s_exchanged t.f_exchanged t.d_exchanged
 b_exchanged:Binds K t.d_exchanged ["sheet","row","place"] []
 m_exchanged:mg "exchanged" = some (.ref t.f_exchanged)
 F_in_fractions:Fun K "in_fractions" "in_fractions" s_in_fractions t.f_in_fractions t.d_in_fractions
 b_in_fractions:Binds K t.d_in_fractions ["numbers"] []
 m_in_fractions:mg "in_fractions" = some (.ref t.f_in_fractions)
 F_stock_line:Fun K "stock_line" "stock_line" s_stock_line t.f_stock_line t.d_stock_line
 b_stock_line:Binds K t.d_stock_line ["row","amount"] []
 m_stock_line:mg "stock_line" = some (.ref t.f_stock_line)
 F_first_sheet:Fun K "first_sheet" "first_sheet" s_first_sheet t.f_first_sheet t.d_first_sheet
 b_first_sheet:Binds K t.d_first_sheet ["uses","amounts","gains"] []
 m_first_sheet:mg "first_sheet" = some (.ref t.f_first_sheet)
 F_least_place:Fun K "least_place" "least_place" s_least_place t.f_least_place t.d_least_place
 b_least_place:Binds K t.d_least_place ["unknowns","places"] []
 m_least_place:mg "least_place" = some (.ref t.f_least_place)
 F_least_short:Fun K "least_short" "least_short" s_least_short t.f_least_short t.d_least_short
 b_least_short:Binds K t.d_least_short ["sheet"] []
 m_least_short:mg "least_short" = some (.ref t.f_least_short)
 F_least_gaining:Fun K "least_gaining" "least_gaining" s_least_gaining t.f_least_gaining t.d_least_gaining
 b_least_gaining:Binds K t.d_least_gaining ["sheet"] []
 m_least_gaining:mg "least_gaining" = some (.ref t.f_least_gaining)
 F_least_helping:Fun K "least_helping" "least_helping" s_least_helping t.f_least_helping t.d_least_helping
 b_least_helping:Binds K t.d_least_helping ["sheet","row"] []
 m_least_helping:mg "least_helping" = some (.ref t.f_least_helping)
 F_least_bounding:Fun K "least_bounding" "least_bounding" s_least_bounding t.f_least_bounding t.d_least_bounding
 b_least_bounding:Binds K t.d_least_bounding ["sheet","place"] []
 m_least_bounding:mg "least_bounding" = some (.ref t.f_least_bounding)
 F_searched:Fun K "searched" "searched" s_searched t.f_searched t.d_searched
 b_searched:Binds K t.d_searched ["sheet"] []
 m_searched:mg "searched" = some (.ref t.f_searched)
 F_of_wares:Fun K "of_wares" "of_wares" s_of_wares t.f_of_wares t.d_of_wares
 b_of_wares:Binds K t.d_of_wares ["sheet","known"] []
 m_of_wares:mg "of_wares" = some (.ref t.f_of_wares)
 F_of_stocks:Fun K "of_stocks" "of_stocks" s_of_stocks t.f_of_stocks t.d_of_stocks
 b_of_stocks:Binds K t.d_of_stocks ["sheet","known"] []
 m_of_stocks:mg "of_stocks" = some (.ref t.f_of_stocks)
 F_plan_of:Fun K "plan_of" "plan_of" s_plan_of t.f_plan_of t.d_plan_of
 b_plan_of:Binds K t.d_plan_of ["sheet"] []
 m_plan_of:mg "plan_of" = some (.ref t.f_plan_of)
 F_prices_of:Fun K "prices_of" "prices_of" s_prices_of t.f_prices_of t.d_prices_of
 b_prices_of:Binds K t.d_prices_of ["sheet"] []
 m_prices_of:mg "prices_of" = some (.ref t.f_prices_of)
 F_weights_of:Fun K "weights_of" "weights_of" s_weights_of t.f_weights_of t.d_weights_of
 b_weights_of:Binds K t.d_weights_of ["sheet","row"] []
 m_weights_of:mg "weights_of" = some (.ref t.f_weights_of)
 F_way_of:Fun K "way_of" "way_of" s_way_of t.f_way_of t.d_way_of
 b_way_of:Binds K t.d_way_of ["sheet","place"] []
 m_way_of:mg "way_of" = some (.ref t.f_way_of)
 F_without_gains:Fun K "without_gains" "without_gains" s_without_gains t.f_without_gains t.d_without_gains
 b_without_gains:Binds K t.d_without_gains ["sheet"] []
 m_without_gains:mg "without_gains" = some (.ref t.f_without_gains)
 F_solved_with_way:Fun K "solved_with_way" "solved_with_way" s_solved_with_way t.f_solved_with_way t.d_solved_with_way
 b_solved_with_way:Binds K t.d_solved_with_way ["sheet","place"] []
 m_solved_with_way:mg "solved_with_way" = some (.ref t.f_solved_with_way)
 F_solved:Fun K "solved" "solved" s_solved t.f_solved t.d_solved
 b_solved:Binds K t.d_solved ["uses","amounts","gains"] []
 m_solved:mg "solved" = some (.ref t.f_solved)
 F_Lwhole:Fun K "_law_whole" "_law_whole" s_Lwhole t.f_Lwhole t.d_Lwhole
 b_Lwhole:Binds K t.d_Lwhole ["_law_found"] []
 m_Lwhole:mg "_law_whole" = some (.ref t.f_Lwhole)
 F_Lat:Fun K "_law_at" "_law_at" s_Lat t.f_Lat t.d_Lat
 b_Lat:Binds K t.d_Lat ["_law_script","_law_k"] []
 m_Lat:mg "_law_at" = some (.ref t.f_Lat)
 F_Lsame:Fun K "_law_same" "_law_same" s_Lsame t.f_Lsame t.d_Lsame
 b_Lsame:Binds K t.d_Lsame ["_law_found","_law_due"] []
 m_Lsame:mg "_law_same" = some (.ref t.f_Lsame)
 F_Lcommon:Fun K "_law_common" "_law_common" s_Lcommon t.f_Lcommon t.d_Lcommon
 b_Lcommon:Binds K t.d_Lcommon ["_law_one","_law_two"] []
 m_Lcommon:mg "_law_common" = some (.ref t.f_Lcommon)
 F_Lis_fraction:Fun K "_law_is_fraction" "_law_is_fraction" s_Lis_fraction t.f_Lis_fraction t.d_Lis_fraction
 b_Lis_fraction:Binds K t.d_Lis_fraction ["_law_found"] []
 m_Lis_fraction:mg "_law_is_fraction" = some (.ref t.f_Lis_fraction)
 F_Lare_fractions:Fun K "_law_are_fractions" "_law_are_fractions" s_Lare_fractions t.f_Lare_fractions t.d_Lare_fractions
 b_Lare_fractions:Binds K t.d_Lare_fractions ["_law_found","_law_count"] []
 m_Lare_fractions:mg "_law_are_fractions" = some (.ref t.f_Lare_fractions)
 F_Lnumber_of:Fun K "_law_number_of" "_law_number_of" s_Lnumber_of t.f_Lnumber_of t.d_Lnumber_of
 b_Lnumber_of:Binds K t.d_Lnumber_of ["_law_cell","_law_low","_law_high"] []
 m_Lnumber_of:mg "_law_number_of" = some (.ref t.f_Lnumber_of)
 F_Ltask_of:Fun K "_law_task_of" "_law_task_of" s_Ltask_of t.f_Ltask_of t.d_Ltask_of
 b_Ltask_of:Binds K t.d_Ltask_of ["_law_script","_law_least"] []
 m_Ltask_of:mg "_law_task_of" = some (.ref t.f_Ltask_of)
 F_Ltotal:Fun K "_law_total" "_law_total" s_Ltotal t.f_Ltotal t.d_Ltotal
 b_Ltotal:Binds K t.d_Ltotal ["_law_numbers","_law_fractions"] []
 m_Ltotal:mg "_law_total" = some (.ref t.f_Ltotal)
 F_Lnone_below:Fun K "_law_none_below" "_law_none_below" s_Lnone_below t.f_Lnone_below t.d_Lnone_below
 b_Lnone_below:Binds K t.d_Lnone_below ["_law_row"] []
 m_Lnone_below:mg "_law_none_below" = some (.ref t.f_Lnone_below)
 F_Lwithin:Fun K "_law_within" "_law_within" s_Lwithin t.f_Lwithin t.d_Lwithin
 b_Lwithin:Binds K t.d_Lwithin ["_law_uses","_law_amounts","_law_plan"] []
 m_Lwithin:mg "_law_within" = some (.ref t.f_Lwithin)
 F_Lcolumn:Fun K "_law_column" "_law_column" s_Lcolumn t.f_Lcolumn t.d_Lcolumn
 b_Lcolumn:Binds K t.d_Lcolumn ["_law_uses","_law_k"] []
 m_Lcolumn:mg "_law_column" = some (.ref t.f_Lcolumn)
 F_Lbest_right:Fun K "_law_best_right" "_law_best_right" s_Lbest_right t.f_Lbest_right t.d_Lbest_right
 b_Lbest_right:Binds K t.d_Lbest_right ["_law_uses","_law_amounts","_law_gains","_law_plan","_law_prices"] []
 m_Lbest_right:mg "_law_best_right" = some (.ref t.f_Lbest_right)
 F_Lnone_right:Fun K "_law_none_right" "_law_none_right" s_Lnone_right t.f_Lnone_right t.d_Lnone_right
 b_Lnone_right:Binds K t.d_Lnone_right ["_law_uses","_law_amounts","_law_gains","_law_weights"] []
 m_Lnone_right:mg "_law_none_right" = some (.ref t.f_Lnone_right)
 F_Lendless_right:Fun K "_law_endless_right" "_law_endless_right" s_Lendless_right t.f_Lendless_right t.d_Lendless_right
 b_Lendless_right:Binds K t.d_Lendless_right ["_law_uses","_law_amounts","_law_gains","_law_plan","_law_way"] []
 m_Lendless_right:mg "_law_endless_right" = some (.ref t.f_Lendless_right)
 F_Lshown_right:Fun K "_law_shown_right" "_law_shown_right" s_Lshown_right t.f_Lshown_right t.d_Lshown_right
 b_Lshown_right:Binds K t.d_Lshown_right ["_law_uses","_law_amounts","_law_gains","_law_found"] []
 m_Lshown_right:mg "_law_shown_right" = some (.ref t.f_Lshown_right)
 F_Lis_answer:Fun K "_law_is_answer" "_law_is_answer" s_Lis_answer t.f_Lis_answer t.d_Lis_answer
 b_Lis_answer:Binds K t.d_Lis_answer ["_law_found","_law_wares","_law_stocks"] []
 m_Lis_answer:mg "_law_is_answer" = some (.ref t.f_Lis_answer)
 F_Lspoilt:Fun K "_law_spoilt" "_law_spoilt" s_Lspoilt t.f_Lspoilt t.d_Lspoilt
 b_Lspoilt:Binds K t.d_Lspoilt ["_law_found","_law_spot","_law_way"] []
 m_Lspoilt:mg "_law_spoilt" = some (.ref t.f_Lspoilt)
 F_Lother_form:Fun K "_law_other_form" "_law_other_form" s_Lother_form t.f_Lother_form t.d_Lother_form
 b_Lother_form:Binds K t.d_Lother_form ["_law_script","_law_wares","_law_stocks"] []
 m_Lother_form:mg "_law_other_form" = some (.ref t.f_Lother_form)
 F_Lat_the_edge:Fun K "_law_at_the_edge" "_law_at_the_edge" s_Lat_the_edge t.f_Lat_the_edge t.d_Lat_the_edge
 b_Lat_the_edge:Binds K t.d_Lat_the_edge ["_law_uses","_law_gains","_law_cell"] []
 m_Lat_the_edge:mg "_law_at_the_edge" = some (.ref t.f_Lat_the_edge)
 F_Lof_turned:Fun K "_law_of_turned" "_law_of_turned" s_Lof_turned t.f_Lof_turned t.d_Lof_turned
 b_Lof_turned:Binds K t.d_Lof_turned ["_law_uses","_law_amounts","_law_gains"] []
 m_Lof_turned:mg "_law_of_turned" = some (.ref t.f_Lof_turned)
 F_law:Fun K "law" "law" s_law t.f_law t.d_law
 b_law:Binds K t.d_law ["_law_script"] []
 m_law:mg "law" = some (.ref t.f_law)
 F_Sheet___init__:Fun K "__init__" "Sheet.__init__" s_Sheet___init__ t.f_Sheet___init__ t.d_Sheet___init__
 b_Sheet___init__:Binds K t.d_Sheet___init__ ["self","inner","outer","lines","goal"] []
 n_ValueError:mg "ValueError" = none
 n_abs:mg "abs" = none
 n_all:mg "all" = none
 n_any:mg "any" = none
 n_bool:mg "bool" = none
 n_dict:mg "dict" = none
 n_enumerate:mg "enumerate" = none
 n_int:mg "int" = none
 n_isinstance:mg "isinstance" = none
 n_len:mg "len" = none
 n_list:mg "list" = none
 n_max:mg "max" = none
 n_min:mg "min" = none
 n_range:mg "range" = none
 n_reversed:mg "reversed" = none
 n_str:mg "str" = none
 n_sum:mg "sum" = none
 n_tuple:mg "tuple" = none
 n_zip:mg "zip" = none
 m_PlanError:mg "PlanError" = some (.ref t.c_PlanError)
 m_NoFraction:mg "NoFraction" = some (.ref t.c_NoFraction)
 m_Sheet:mg "Sheet" = some (.ref t.c_Sheet)
 m_NOUGHT:mg "NOUGHT" = some (.ref t.k_NOUGHT)
 q_NOUGHT:∀ H,SqT K H t.k_NOUGHT [.int 0,.int 1]
 m_ONE:mg "ONE" = some (.ref t.k_ONE)
 q_ONE:∀ H,SqT K H t.k_ONE [.int 1,.int 1]
 k_Sheet:Mk K t.c_Sheet t.f_Sheet___init__
 cl_Sheet:Cls K t.c_Sheet
 na_Sheet_inner:NoAttr K t.c_Sheet "inner"
 na_Sheet_outer:NoAttr K t.c_Sheet "outer"
 na_Sheet_lines:NoAttr K t.c_Sheet "lines"
 na_Sheet_goal:NoAttr K t.c_Sheet "goal"
structure Ers (K:PySem.W.Frag) (mg:Str→Option Value) (t:Adr):Prop where
 e_NoFraction:Err K mg "NoFraction" t.c_NoFraction [.type "ValueError",.type "Exception",.type "BaseException",.type "object"] "ValueError.__new__"
 bl:∀ (s:Shared) (v:Value),BindsTo s t.d_law ⟨[v],[]⟩ [("_law_script",v)]
 lam:∀ c P,PySem.W.tabIn K "least_place" = some (c,P)→t.d_least_place.code = .ref c
set_option maxHeartbeats 0 in
theorem us_1 {x qual:Str} {st:Stmt} {ps:List Str} (e:ps.length=1) (h:∀ (kV doc pm:Value) (an:Option Addr) (cdv ct x0:Value),bindArgs (PySem.W.fnOf x qual (defArgs st) (defBody st) (defScope st) .none kV doc pm an cdv ct) ⟨[x0],[]⟩=pure (ps.zip [x0])) (kV doc pm:Value) (an:Option Addr) (cdv ct:Value) (us:List Value) (hl:us.length=ps.length):bindArgs (PySem.W.fnOf x qual (defArgs st) (defBody st) (defScope st) .none kV doc pm an cdv ct) ⟨us,[]⟩=pure (ps.zip us):=by
 rw[e] at hl
 match us,hl with
 | [x0],_=>exact h kV doc pm an cdv ct x0
theorem us_2 {x qual:Str} {st:Stmt} {ps:List Str} (e:ps.length=2) (h:∀ (kV doc pm:Value) (an:Option Addr) (cdv ct x0 x1:Value),bindArgs (PySem.W.fnOf x qual (defArgs st) (defBody st) (defScope st) .none kV doc pm an cdv ct) ⟨[x0,x1],[]⟩=pure (ps.zip [x0,x1])) (kV doc pm:Value) (an:Option Addr) (cdv ct:Value) (us:List Value) (hl:us.length=ps.length):bindArgs (PySem.W.fnOf x qual (defArgs st) (defBody st) (defScope st) .none kV doc pm an cdv ct) ⟨us,[]⟩=pure (ps.zip us):=by
 rw[e] at hl
 match us,hl with
 | [x0,x1],_=>exact h kV doc pm an cdv ct x0 x1
theorem us_3 {x qual:Str} {st:Stmt} {ps:List Str} (e:ps.length=3) (h:∀ (kV doc pm:Value) (an:Option Addr) (cdv ct x0 x1 x2:Value),bindArgs (PySem.W.fnOf x qual (defArgs st) (defBody st) (defScope st) .none kV doc pm an cdv ct) ⟨[x0,x1,x2],[]⟩=pure (ps.zip [x0,x1,x2])) (kV doc pm:Value) (an:Option Addr) (cdv ct:Value) (us:List Value) (hl:us.length=ps.length):bindArgs (PySem.W.fnOf x qual (defArgs st) (defBody st) (defScope st) .none kV doc pm an cdv ct) ⟨us,[]⟩=pure (ps.zip us):=by
 rw[e] at hl
 match us,hl with
 | [x0,x1,x2],_=>exact h kV doc pm an cdv ct x0 x1 x2
theorem us_4 {x qual:Str} {st:Stmt} {ps:List Str} (e:ps.length=4) (h:∀ (kV doc pm:Value) (an:Option Addr) (cdv ct x0 x1 x2 x3:Value),bindArgs (PySem.W.fnOf x qual (defArgs st) (defBody st) (defScope st) .none kV doc pm an cdv ct) ⟨[x0,x1,x2,x3],[]⟩=pure (ps.zip [x0,x1,x2,x3])) (kV doc pm:Value) (an:Option Addr) (cdv ct:Value) (us:List Value) (hl:us.length=ps.length):bindArgs (PySem.W.fnOf x qual (defArgs st) (defBody st) (defScope st) .none kV doc pm an cdv ct) ⟨us,[]⟩=pure (ps.zip us):=by
 rw[e] at hl
 match us,hl with
 | [x0,x1,x2,x3],_=>exact h kV doc pm an cdv ct x0 x1 x2 x3
theorem us_5 {x qual:Str} {st:Stmt} {ps:List Str} (e:ps.length=5) (h:∀ (kV doc pm:Value) (an:Option Addr) (cdv ct x0 x1 x2 x3 x4:Value),bindArgs (PySem.W.fnOf x qual (defArgs st) (defBody st) (defScope st) .none kV doc pm an cdv ct) ⟨[x0,x1,x2,x3,x4],[]⟩=pure (ps.zip [x0,x1,x2,x3,x4])) (kV doc pm:Value) (an:Option Addr) (cdv ct:Value) (us:List Value) (hl:us.length=ps.length):bindArgs (PySem.W.fnOf x qual (defArgs st) (defBody st) (defScope st) .none kV doc pm an cdv ct) ⟨us,[]⟩=pure (ps.zip us):=by
 rw[e] at hl
 match us,hl with
 | [x0,x1,x2,x3,x4],_=>exact h kV doc pm an cdv ct x0 x1 x2 x3 x4
set_option maxHeartbeats 4000000 in
theorem txt_mk {K:PySem.W.Frag} {h:Heap} {mg:Str→Option Value} {f0 f1 f2 f3 f4 f5 f6 f7 f8 f9 f10 f11 f12 f13 f14 f15 f16 f17 f18 f19 f20 f21 f22 f23 f24 f25 f26 f27 f28 f29 f30 f31 f32 f33 f34 f35 f36 f37 f38 f39 f40 f41 f42 f43 f44 f45 f46 f47 f48 f49 f50 f51 f52 f53 f54 f55 f56 f57 f58 f59 f60 g0 g1 g2 h0 h1 fa:Addr} (X:K.In h) (G:h.Ns mainGlobals mg) (hfa:mg "law" = some (.ref fa))
  {od0 an0 od1 an1 od2 an2 od3 an3 od4 an4 od5 an5 od6 an6 od7 an7 od8 an8 od9 an9 od10 an10 od11 an11 od12 an12 od13 an13 od14 an14 od15 an15 od16 an16 od17 an17 od18 an18 od19 an19 od20 an20 od21 an21 od22 an22 od23 an23 od24 an24 od25 an25 od26 an26 od27 an27 od28 an28 od29 an29 od30 an30 od31 an31 od32 an32 od33 an33 od34 an34 od35 an35 od36 an36 od37 an37 od38 an38 od39 an39 od40 an40 od41 an41 od42 an42 od43 an43 od44 an44 od45 an45 od46 an46 od47 an47 od48 an48 od49 an49 od50 an50 od51 an51 od52 an52 od53 an53 od54 an54 od55 an55 od56 an56 od57 an57 od58 an58 od59 an59 od60 an60:Option Addr}
  {sl0 sl1 sl2 sl3 sl4 sl5 sl6 sl7 sl8 sl9 sl10 sl11 sl12 sl13 sl14 sl15 sl16 sl17 sl18 sl19 sl20 sl21 sl22 sl23 sl24 sl25 sl26 sl27 sl28 sl29 sl30 sl31 sl32 sl33 sl34 sl35 sl36 sl37 sl38 sl39 sl40 sl41 sl42 sl43 sl44 sl45 sl46 sl47 sl48 sl49 sl50 sl51 sl52 sl53 sl54 sl55 sl56 sl57 sl58 sl59 sl60:Array (Option Value)}
  {oc0 kV0 dc0 pm0 cd0 ct0 oc1 kV1 dc1 pm1 cd1 ct1 oc2 kV2 dc2 pm2 cd2 ct2 oc3 kV3 dc3 pm3 cd3 ct3 oc4 kV4 dc4 pm4 cd4 ct4 oc5 kV5 dc5 pm5 cd5 ct5 oc6 kV6 dc6 pm6 cd6 ct6 oc7 kV7 dc7 pm7 cd7 ct7 oc8 kV8 dc8 pm8 cd8 ct8 oc9 kV9 dc9 pm9 cd9 ct9 oc10 kV10 dc10 pm10 cd10 ct10 oc11 kV11 dc11 pm11 cd11 ct11 oc12 kV12 dc12 pm12 cd12 ct12 oc13 kV13 dc13 pm13 cd13 ct13 oc14 kV14 dc14 pm14 cd14 ct14 oc15 kV15 dc15 pm15 cd15 ct15 oc16 kV16 dc16 pm16 cd16 ct16 oc17 kV17 dc17 pm17 cd17 ct17 oc18 kV18 dc18 pm18 cd18 ct18 oc19 kV19 dc19 pm19 cd19 ct19 oc20 kV20 dc20 pm20 cd20 ct20 oc21 kV21 dc21 pm21 cd21 ct21 oc22 kV22 dc22 pm22 cd22 ct22 oc23 kV23 dc23 pm23 cd23 ct23 oc24 kV24 dc24 pm24 cd24 ct24 oc25 kV25 dc25 pm25 cd25 ct25 oc26 kV26 dc26 pm26 cd26 ct26 oc27 kV27 dc27 pm27 cd27 ct27 oc28 kV28 dc28 pm28 cd28 ct28 oc29 kV29 dc29 pm29 cd29 ct29 oc30 kV30 dc30 pm30 cd30 ct30 oc31 kV31 dc31 pm31 cd31 ct31 oc32 kV32 dc32 pm32 cd32 ct32 oc33 kV33 dc33 pm33 cd33 ct33 oc34 kV34 dc34 pm34 cd34 ct34 oc35 kV35 dc35 pm35 cd35 ct35 oc36 kV36 dc36 pm36 cd36 ct36 oc37 kV37 dc37 pm37 cd37 ct37 oc38 kV38 dc38 pm38 cd38 ct38 oc39 kV39 dc39 pm39 cd39 ct39 oc40 kV40 dc40 pm40 cd40 ct40 oc41 kV41 dc41 pm41 cd41 ct41 oc42 kV42 dc42 pm42 cd42 ct42 oc43 kV43 dc43 pm43 cd43 ct43 oc44 kV44 dc44 pm44 cd44 ct44 oc45 kV45 dc45 pm45 cd45 ct45 oc46 kV46 dc46 pm46 cd46 ct46 oc47 kV47 dc47 pm47 cd47 ct47 oc48 kV48 dc48 pm48 cd48 ct48 oc49 kV49 dc49 pm49 cd49 ct49 oc50 kV50 dc50 pm50 cd50 ct50 oc51 kV51 dc51 pm51 cd51 ct51 oc52 kV52 dc52 pm52 cd52 ct52 oc53 kV53 dc53 pm53 cd53 ct53 oc54 kV54 dc54 pm54 cd54 ct54 oc55 kV55 dc55 pm55 cd55 ct55 oc56 kV56 dc56 pm56 cd56 ct56 oc57 kV57 dc57 pm57 cd57 ct57 oc58 kV58 dc58 pm58 cd58 ct58 oc59 kV59 dc59 pm59 cd59 ct59 oc60 kV60 dc60 pm60 cd60 ct60:Value}
  {td0 td1:Option Addr} {tl0 tl1:Array (Option Value)} {tn0 tn1:Nat} {tk0_0 tk0_1 tk1_0 tk1_1:Tok}
  (a0:PySem.W.nsIn K mainGlobals "common_divisor" = some (some (.ref f0)))
  (l0:K.lookup f0=some ⟨oc0,od0,.func (PySem.W.fnOf "common_divisor" "common_divisor" (defArgs s_common_divisor) (defBody s_common_divisor) (defScope s_common_divisor) .none kV0 dc0 pm0 an0 cd0 ct0),sl0⟩)
  (c0:PySem.W.codeIn K cd0 "common_divisor" = true) (k0:PySem.W.keepIn K (.ref f0)=true)
  (a1:PySem.W.nsIn K mainGlobals "made" = some (some (.ref f1)))
  (l1:K.lookup f1=some ⟨oc1,od1,.func (PySem.W.fnOf "made" "made" (defArgs s_made) (defBody s_made) (defScope s_made) .none kV1 dc1 pm1 an1 cd1 ct1),sl1⟩)
  (c1:PySem.W.codeIn K cd1 "made" = true) (k1:PySem.W.keepIn K (.ref f1)=true)
  (a2:PySem.W.nsIn K mainGlobals "opposite" = some (some (.ref f2)))
  (l2:K.lookup f2=some ⟨oc2,od2,.func (PySem.W.fnOf "opposite" "opposite" (defArgs s_opposite) (defBody s_opposite) (defScope s_opposite) .none kV2 dc2 pm2 an2 cd2 ct2),sl2⟩)
  (c2:PySem.W.codeIn K cd2 "opposite" = true) (k2:PySem.W.keepIn K (.ref f2)=true)
  (a3:PySem.W.nsIn K mainGlobals "plus" = some (some (.ref f3)))
  (l3:K.lookup f3=some ⟨oc3,od3,.func (PySem.W.fnOf "plus" "plus" (defArgs s_plus) (defBody s_plus) (defScope s_plus) .none kV3 dc3 pm3 an3 cd3 ct3),sl3⟩)
  (c3:PySem.W.codeIn K cd3 "plus" = true) (k3:PySem.W.keepIn K (.ref f3)=true)
  (a4:PySem.W.nsIn K mainGlobals "times" = some (some (.ref f4)))
  (l4:K.lookup f4=some ⟨oc4,od4,.func (PySem.W.fnOf "times" "times" (defArgs s_times) (defBody s_times) (defScope s_times) .none kV4 dc4 pm4 an4 cd4 ct4),sl4⟩)
  (c4:PySem.W.codeIn K cd4 "times" = true) (k4:PySem.W.keepIn K (.ref f4)=true)
  (a5:PySem.W.nsIn K mainGlobals "over" = some (some (.ref f5)))
  (l5:K.lookup f5=some ⟨oc5,od5,.func (PySem.W.fnOf "over" "over" (defArgs s_over) (defBody s_over) (defScope s_over) .none kV5 dc5 pm5 an5 cd5 ct5),sl5⟩)
  (c5:PySem.W.codeIn K cd5 "over" = true) (k5:PySem.W.keepIn K (.ref f5)=true)
  (a6:PySem.W.nsIn K mainGlobals "less" = some (some (.ref f6)))
  (l6:K.lookup f6=some ⟨oc6,od6,.func (PySem.W.fnOf "less" "less" (defArgs s_less) (defBody s_less) (defScope s_less) .none kV6 dc6 pm6 an6 cd6 ct6),sl6⟩)
  (c6:PySem.W.codeIn K cd6 "less" = true) (k6:PySem.W.keepIn K (.ref f6)=true)
  (a7:PySem.W.nsIn K mainGlobals "total" = some (some (.ref f7)))
  (l7:K.lookup f7=some ⟨oc7,od7,.func (PySem.W.fnOf "total" "total" (defArgs s_total) (defBody s_total) (defScope s_total) .none kV7 dc7 pm7 an7 cd7 ct7),sl7⟩)
  (c7:PySem.W.codeIn K cd7 "total" = true) (k7:PySem.W.keepIn K (.ref f7)=true)
  (a8:PySem.W.nsIn K mainGlobals "none_below_nought" = some (some (.ref f8)))
  (l8:K.lookup f8=some ⟨oc8,od8,.func (PySem.W.fnOf "none_below_nought" "none_below_nought" (defArgs s_none_below_nought) (defBody s_none_below_nought) (defScope s_none_below_nought) .none kV8 dc8 pm8 an8 cd8 ct8),sl8⟩)
  (c8:PySem.W.codeIn K cd8 "none_below_nought" = true) (k8:PySem.W.keepIn K (.ref f8)=true)
  (a9:PySem.W.nsIn K mainGlobals "possible" = some (some (.ref f9)))
  (l9:K.lookup f9=some ⟨oc9,od9,.func (PySem.W.fnOf "possible" "possible" (defArgs s_possible) (defBody s_possible) (defScope s_possible) .none kV9 dc9 pm9 an9 cd9 ct9),sl9⟩)
  (c9:PySem.W.codeIn K cd9 "possible" = true) (k9:PySem.W.keepIn K (.ref f9)=true)
  (a10:PySem.W.nsIn K mainGlobals "used_by" = some (some (.ref f10)))
  (l10:K.lookup f10=some ⟨oc10,od10,.func (PySem.W.fnOf "used_by" "used_by" (defArgs s_used_by) (defBody s_used_by) (defScope s_used_by) .none kV10 dc10 pm10 an10 cd10 ct10),sl10⟩)
  (c10:PySem.W.codeIn K cd10 "used_by" = true) (k10:PySem.W.keepIn K (.ref f10)=true)
  (a11:PySem.W.nsIn K mainGlobals "covered" = some (some (.ref f11)))
  (l11:K.lookup f11=some ⟨oc11,od11,.func (PySem.W.fnOf "covered" "covered" (defArgs s_covered) (defBody s_covered) (defScope s_covered) .none kV11 dc11 pm11 an11 cd11 ct11),sl11⟩)
  (c11:PySem.W.codeIn K cd11 "covered" = true) (k11:PySem.W.keepIn K (.ref f11)=true)
  (a12:PySem.W.nsIn K mainGlobals "equal" = some (some (.ref f12)))
  (l12:K.lookup f12=some ⟨oc12,od12,.func (PySem.W.fnOf "equal" "equal" (defArgs s_equal) (defBody s_equal) (defScope s_equal) .none kV12 dc12 pm12 an12 cd12 ct12),sl12⟩)
  (c12:PySem.W.codeIn K cd12 "equal" = true) (k12:PySem.W.keepIn K (.ref f12)=true)
  (a13:PySem.W.nsIn K mainGlobals "best_stands" = some (some (.ref f13)))
  (l13:K.lookup f13=some ⟨oc13,od13,.func (PySem.W.fnOf "best_stands" "best_stands" (defArgs s_best_stands) (defBody s_best_stands) (defScope s_best_stands) .none kV13 dc13 pm13 an13 cd13 ct13),sl13⟩)
  (c13:PySem.W.codeIn K cd13 "best_stands" = true) (k13:PySem.W.keepIn K (.ref f13)=true)
  (a14:PySem.W.nsIn K mainGlobals "none_stands" = some (some (.ref f14)))
  (l14:K.lookup f14=some ⟨oc14,od14,.func (PySem.W.fnOf "none_stands" "none_stands" (defArgs s_none_stands) (defBody s_none_stands) (defScope s_none_stands) .none kV14 dc14 pm14 an14 cd14 ct14),sl14⟩)
  (c14:PySem.W.codeIn K cd14 "none_stands" = true) (k14:PySem.W.keepIn K (.ref f14)=true)
  (a15:PySem.W.nsIn K mainGlobals "endless_stands" = some (some (.ref f15)))
  (l15:K.lookup f15=some ⟨oc15,od15,.func (PySem.W.fnOf "endless_stands" "endless_stands" (defArgs s_endless_stands) (defBody s_endless_stands) (defScope s_endless_stands) .none kV15 dc15 pm15 an15 cd15 ct15),sl15⟩)
  (c15:PySem.W.codeIn K cd15 "endless_stands" = true) (k15:PySem.W.keepIn K (.ref f15)=true)
  (a16:PySem.W.nsIn K mainGlobals "stands" = some (some (.ref f16)))
  (l16:K.lookup f16=some ⟨oc16,od16,.func (PySem.W.fnOf "stands" "stands" (defArgs s_stands) (defBody s_stands) (defScope s_stands) .none kV16 dc16 pm16 an16 cd16 ct16),sl16⟩)
  (c16:PySem.W.codeIn K cd16 "stands" = true) (k16:PySem.W.keepIn K (.ref f16)=true)
  (a17:PySem.W.nsIn K mainGlobals "solved_for" = some (some (.ref f17)))
  (l17:K.lookup f17=some ⟨oc17,od17,.func (PySem.W.fnOf "solved_for" "solved_for" (defArgs s_solved_for) (defBody s_solved_for) (defScope s_solved_for) .none kV17 dc17 pm17 an17 cd17 ct17),sl17⟩)
  (c17:PySem.W.codeIn K cd17 "solved_for" = true) (k17:PySem.W.keepIn K (.ref f17)=true)
  (a18:PySem.W.nsIn K mainGlobals "with_put_in" = some (some (.ref f18)))
  (l18:K.lookup f18=some ⟨oc18,od18,.func (PySem.W.fnOf "with_put_in" "with_put_in" (defArgs s_with_put_in) (defBody s_with_put_in) (defScope s_with_put_in) .none kV18 dc18 pm18 an18 cd18 ct18),sl18⟩)
  (c18:PySem.W.codeIn K cd18 "with_put_in" = true) (k18:PySem.W.keepIn K (.ref f18)=true)
  (a19:PySem.W.nsIn K mainGlobals "exchanged" = some (some (.ref f19)))
  (l19:K.lookup f19=some ⟨oc19,od19,.func (PySem.W.fnOf "exchanged" "exchanged" (defArgs s_exchanged) (defBody s_exchanged) (defScope s_exchanged) .none kV19 dc19 pm19 an19 cd19 ct19),sl19⟩)
  (c19:PySem.W.codeIn K cd19 "exchanged" = true) (k19:PySem.W.keepIn K (.ref f19)=true)
  (a20:PySem.W.nsIn K mainGlobals "in_fractions" = some (some (.ref f20)))
  (l20:K.lookup f20=some ⟨oc20,od20,.func (PySem.W.fnOf "in_fractions" "in_fractions" (defArgs s_in_fractions) (defBody s_in_fractions) (defScope s_in_fractions) .none kV20 dc20 pm20 an20 cd20 ct20),sl20⟩)
  (c20:PySem.W.codeIn K cd20 "in_fractions" = true) (k20:PySem.W.keepIn K (.ref f20)=true)
  (a21:PySem.W.nsIn K mainGlobals "stock_line" = some (some (.ref f21)))
  (l21:K.lookup f21=some ⟨oc21,od21,.func (PySem.W.fnOf "stock_line" "stock_line" (defArgs s_stock_line) (defBody s_stock_line) (defScope s_stock_line) .none kV21 dc21 pm21 an21 cd21 ct21),sl21⟩)
  (c21:PySem.W.codeIn K cd21 "stock_line" = true) (k21:PySem.W.keepIn K (.ref f21)=true)
  (a22:PySem.W.nsIn K mainGlobals "first_sheet" = some (some (.ref f22)))
  (l22:K.lookup f22=some ⟨oc22,od22,.func (PySem.W.fnOf "first_sheet" "first_sheet" (defArgs s_first_sheet) (defBody s_first_sheet) (defScope s_first_sheet) .none kV22 dc22 pm22 an22 cd22 ct22),sl22⟩)
  (c22:PySem.W.codeIn K cd22 "first_sheet" = true) (k22:PySem.W.keepIn K (.ref f22)=true)
  (a23:PySem.W.nsIn K mainGlobals "least_place" = some (some (.ref f23)))
  (l23:K.lookup f23=some ⟨oc23,od23,.func (PySem.W.fnOf "least_place" "least_place" (defArgs s_least_place) (defBody s_least_place) (defScope s_least_place) .none kV23 dc23 pm23 an23 cd23 ct23),sl23⟩)
  (c23:PySem.W.codeIn K cd23 "least_place" = true) (k23:PySem.W.keepIn K (.ref f23)=true)
  (a24:PySem.W.nsIn K mainGlobals "least_short" = some (some (.ref f24)))
  (l24:K.lookup f24=some ⟨oc24,od24,.func (PySem.W.fnOf "least_short" "least_short" (defArgs s_least_short) (defBody s_least_short) (defScope s_least_short) .none kV24 dc24 pm24 an24 cd24 ct24),sl24⟩)
  (c24:PySem.W.codeIn K cd24 "least_short" = true) (k24:PySem.W.keepIn K (.ref f24)=true)
  (a25:PySem.W.nsIn K mainGlobals "least_gaining" = some (some (.ref f25)))
  (l25:K.lookup f25=some ⟨oc25,od25,.func (PySem.W.fnOf "least_gaining" "least_gaining" (defArgs s_least_gaining) (defBody s_least_gaining) (defScope s_least_gaining) .none kV25 dc25 pm25 an25 cd25 ct25),sl25⟩)
  (c25:PySem.W.codeIn K cd25 "least_gaining" = true) (k25:PySem.W.keepIn K (.ref f25)=true)
  (a26:PySem.W.nsIn K mainGlobals "least_helping" = some (some (.ref f26)))
  (l26:K.lookup f26=some ⟨oc26,od26,.func (PySem.W.fnOf "least_helping" "least_helping" (defArgs s_least_helping) (defBody s_least_helping) (defScope s_least_helping) .none kV26 dc26 pm26 an26 cd26 ct26),sl26⟩)
  (c26:PySem.W.codeIn K cd26 "least_helping" = true) (k26:PySem.W.keepIn K (.ref f26)=true)
  (a27:PySem.W.nsIn K mainGlobals "least_bounding" = some (some (.ref f27)))
  (l27:K.lookup f27=some ⟨oc27,od27,.func (PySem.W.fnOf "least_bounding" "least_bounding" (defArgs s_least_bounding) (defBody s_least_bounding) (defScope s_least_bounding) .none kV27 dc27 pm27 an27 cd27 ct27),sl27⟩)
  (c27:PySem.W.codeIn K cd27 "least_bounding" = true) (k27:PySem.W.keepIn K (.ref f27)=true)
  (a28:PySem.W.nsIn K mainGlobals "searched" = some (some (.ref f28)))
  (l28:K.lookup f28=some ⟨oc28,od28,.func (PySem.W.fnOf "searched" "searched" (defArgs s_searched) (defBody s_searched) (defScope s_searched) .none kV28 dc28 pm28 an28 cd28 ct28),sl28⟩)
  (c28:PySem.W.codeIn K cd28 "searched" = true) (k28:PySem.W.keepIn K (.ref f28)=true)
  (a29:PySem.W.nsIn K mainGlobals "of_wares" = some (some (.ref f29)))
  (l29:K.lookup f29=some ⟨oc29,od29,.func (PySem.W.fnOf "of_wares" "of_wares" (defArgs s_of_wares) (defBody s_of_wares) (defScope s_of_wares) .none kV29 dc29 pm29 an29 cd29 ct29),sl29⟩)
  (c29:PySem.W.codeIn K cd29 "of_wares" = true) (k29:PySem.W.keepIn K (.ref f29)=true)
  (a30:PySem.W.nsIn K mainGlobals "of_stocks" = some (some (.ref f30)))
  (l30:K.lookup f30=some ⟨oc30,od30,.func (PySem.W.fnOf "of_stocks" "of_stocks" (defArgs s_of_stocks) (defBody s_of_stocks) (defScope s_of_stocks) .none kV30 dc30 pm30 an30 cd30 ct30),sl30⟩)
  (c30:PySem.W.codeIn K cd30 "of_stocks" = true) (k30:PySem.W.keepIn K (.ref f30)=true)
  (a31:PySem.W.nsIn K mainGlobals "plan_of" = some (some (.ref f31)))
  (l31:K.lookup f31=some ⟨oc31,od31,.func (PySem.W.fnOf "plan_of" "plan_of" (defArgs s_plan_of) (defBody s_plan_of) (defScope s_plan_of) .none kV31 dc31 pm31 an31 cd31 ct31),sl31⟩)
  (c31:PySem.W.codeIn K cd31 "plan_of" = true) (k31:PySem.W.keepIn K (.ref f31)=true)
  (a32:PySem.W.nsIn K mainGlobals "prices_of" = some (some (.ref f32)))
  (l32:K.lookup f32=some ⟨oc32,od32,.func (PySem.W.fnOf "prices_of" "prices_of" (defArgs s_prices_of) (defBody s_prices_of) (defScope s_prices_of) .none kV32 dc32 pm32 an32 cd32 ct32),sl32⟩)
  (c32:PySem.W.codeIn K cd32 "prices_of" = true) (k32:PySem.W.keepIn K (.ref f32)=true)
  (a33:PySem.W.nsIn K mainGlobals "weights_of" = some (some (.ref f33)))
  (l33:K.lookup f33=some ⟨oc33,od33,.func (PySem.W.fnOf "weights_of" "weights_of" (defArgs s_weights_of) (defBody s_weights_of) (defScope s_weights_of) .none kV33 dc33 pm33 an33 cd33 ct33),sl33⟩)
  (c33:PySem.W.codeIn K cd33 "weights_of" = true) (k33:PySem.W.keepIn K (.ref f33)=true)
  (a34:PySem.W.nsIn K mainGlobals "way_of" = some (some (.ref f34)))
  (l34:K.lookup f34=some ⟨oc34,od34,.func (PySem.W.fnOf "way_of" "way_of" (defArgs s_way_of) (defBody s_way_of) (defScope s_way_of) .none kV34 dc34 pm34 an34 cd34 ct34),sl34⟩)
  (c34:PySem.W.codeIn K cd34 "way_of" = true) (k34:PySem.W.keepIn K (.ref f34)=true)
  (a35:PySem.W.nsIn K mainGlobals "without_gains" = some (some (.ref f35)))
  (l35:K.lookup f35=some ⟨oc35,od35,.func (PySem.W.fnOf "without_gains" "without_gains" (defArgs s_without_gains) (defBody s_without_gains) (defScope s_without_gains) .none kV35 dc35 pm35 an35 cd35 ct35),sl35⟩)
  (c35:PySem.W.codeIn K cd35 "without_gains" = true) (k35:PySem.W.keepIn K (.ref f35)=true)
  (a36:PySem.W.nsIn K mainGlobals "solved_with_way" = some (some (.ref f36)))
  (l36:K.lookup f36=some ⟨oc36,od36,.func (PySem.W.fnOf "solved_with_way" "solved_with_way" (defArgs s_solved_with_way) (defBody s_solved_with_way) (defScope s_solved_with_way) .none kV36 dc36 pm36 an36 cd36 ct36),sl36⟩)
  (c36:PySem.W.codeIn K cd36 "solved_with_way" = true) (k36:PySem.W.keepIn K (.ref f36)=true)
  (a37:PySem.W.nsIn K mainGlobals "solved" = some (some (.ref f37)))
  (l37:K.lookup f37=some ⟨oc37,od37,.func (PySem.W.fnOf "solved" "solved" (defArgs s_solved) (defBody s_solved) (defScope s_solved) .none kV37 dc37 pm37 an37 cd37 ct37),sl37⟩)
  (c37:PySem.W.codeIn K cd37 "solved" = true) (k37:PySem.W.keepIn K (.ref f37)=true)
  (a38:PySem.W.nsIn K mainGlobals "_law_whole" = some (some (.ref f38)))
  (l38:K.lookup f38=some ⟨oc38,od38,.func (PySem.W.fnOf "_law_whole" "_law_whole" (defArgs s_Lwhole) (defBody s_Lwhole) (defScope s_Lwhole) .none kV38 dc38 pm38 an38 cd38 ct38),sl38⟩)
  (c38:PySem.W.codeIn K cd38 "_law_whole" = true) (k38:PySem.W.keepIn K (.ref f38)=true)
  (a39:PySem.W.nsIn K mainGlobals "_law_at" = some (some (.ref f39)))
  (l39:K.lookup f39=some ⟨oc39,od39,.func (PySem.W.fnOf "_law_at" "_law_at" (defArgs s_Lat) (defBody s_Lat) (defScope s_Lat) .none kV39 dc39 pm39 an39 cd39 ct39),sl39⟩)
  (c39:PySem.W.codeIn K cd39 "_law_at" = true) (k39:PySem.W.keepIn K (.ref f39)=true)
  (a40:PySem.W.nsIn K mainGlobals "_law_same" = some (some (.ref f40)))
  (l40:K.lookup f40=some ⟨oc40,od40,.func (PySem.W.fnOf "_law_same" "_law_same" (defArgs s_Lsame) (defBody s_Lsame) (defScope s_Lsame) .none kV40 dc40 pm40 an40 cd40 ct40),sl40⟩)
  (c40:PySem.W.codeIn K cd40 "_law_same" = true) (k40:PySem.W.keepIn K (.ref f40)=true)
  (a41:PySem.W.nsIn K mainGlobals "_law_common" = some (some (.ref f41)))
  (l41:K.lookup f41=some ⟨oc41,od41,.func (PySem.W.fnOf "_law_common" "_law_common" (defArgs s_Lcommon) (defBody s_Lcommon) (defScope s_Lcommon) .none kV41 dc41 pm41 an41 cd41 ct41),sl41⟩)
  (c41:PySem.W.codeIn K cd41 "_law_common" = true) (k41:PySem.W.keepIn K (.ref f41)=true)
  (a42:PySem.W.nsIn K mainGlobals "_law_is_fraction" = some (some (.ref f42)))
  (l42:K.lookup f42=some ⟨oc42,od42,.func (PySem.W.fnOf "_law_is_fraction" "_law_is_fraction" (defArgs s_Lis_fraction) (defBody s_Lis_fraction) (defScope s_Lis_fraction) .none kV42 dc42 pm42 an42 cd42 ct42),sl42⟩)
  (c42:PySem.W.codeIn K cd42 "_law_is_fraction" = true) (k42:PySem.W.keepIn K (.ref f42)=true)
  (a43:PySem.W.nsIn K mainGlobals "_law_are_fractions" = some (some (.ref f43)))
  (l43:K.lookup f43=some ⟨oc43,od43,.func (PySem.W.fnOf "_law_are_fractions" "_law_are_fractions" (defArgs s_Lare_fractions) (defBody s_Lare_fractions) (defScope s_Lare_fractions) .none kV43 dc43 pm43 an43 cd43 ct43),sl43⟩)
  (c43:PySem.W.codeIn K cd43 "_law_are_fractions" = true) (k43:PySem.W.keepIn K (.ref f43)=true)
  (a44:PySem.W.nsIn K mainGlobals "_law_number_of" = some (some (.ref f44)))
  (l44:K.lookup f44=some ⟨oc44,od44,.func (PySem.W.fnOf "_law_number_of" "_law_number_of" (defArgs s_Lnumber_of) (defBody s_Lnumber_of) (defScope s_Lnumber_of) .none kV44 dc44 pm44 an44 cd44 ct44),sl44⟩)
  (c44:PySem.W.codeIn K cd44 "_law_number_of" = true) (k44:PySem.W.keepIn K (.ref f44)=true)
  (a45:PySem.W.nsIn K mainGlobals "_law_task_of" = some (some (.ref f45)))
  (l45:K.lookup f45=some ⟨oc45,od45,.func (PySem.W.fnOf "_law_task_of" "_law_task_of" (defArgs s_Ltask_of) (defBody s_Ltask_of) (defScope s_Ltask_of) .none kV45 dc45 pm45 an45 cd45 ct45),sl45⟩)
  (c45:PySem.W.codeIn K cd45 "_law_task_of" = true) (k45:PySem.W.keepIn K (.ref f45)=true)
  (a46:PySem.W.nsIn K mainGlobals "_law_total" = some (some (.ref f46)))
  (l46:K.lookup f46=some ⟨oc46,od46,.func (PySem.W.fnOf "_law_total" "_law_total" (defArgs s_Ltotal) (defBody s_Ltotal) (defScope s_Ltotal) .none kV46 dc46 pm46 an46 cd46 ct46),sl46⟩)
  (c46:PySem.W.codeIn K cd46 "_law_total" = true) (k46:PySem.W.keepIn K (.ref f46)=true)
  (a47:PySem.W.nsIn K mainGlobals "_law_none_below" = some (some (.ref f47)))
  (l47:K.lookup f47=some ⟨oc47,od47,.func (PySem.W.fnOf "_law_none_below" "_law_none_below" (defArgs s_Lnone_below) (defBody s_Lnone_below) (defScope s_Lnone_below) .none kV47 dc47 pm47 an47 cd47 ct47),sl47⟩)
  (c47:PySem.W.codeIn K cd47 "_law_none_below" = true) (k47:PySem.W.keepIn K (.ref f47)=true)
  (a48:PySem.W.nsIn K mainGlobals "_law_within" = some (some (.ref f48)))
  (l48:K.lookup f48=some ⟨oc48,od48,.func (PySem.W.fnOf "_law_within" "_law_within" (defArgs s_Lwithin) (defBody s_Lwithin) (defScope s_Lwithin) .none kV48 dc48 pm48 an48 cd48 ct48),sl48⟩)
  (c48:PySem.W.codeIn K cd48 "_law_within" = true) (k48:PySem.W.keepIn K (.ref f48)=true)
  (a49:PySem.W.nsIn K mainGlobals "_law_column" = some (some (.ref f49)))
  (l49:K.lookup f49=some ⟨oc49,od49,.func (PySem.W.fnOf "_law_column" "_law_column" (defArgs s_Lcolumn) (defBody s_Lcolumn) (defScope s_Lcolumn) .none kV49 dc49 pm49 an49 cd49 ct49),sl49⟩)
  (c49:PySem.W.codeIn K cd49 "_law_column" = true) (k49:PySem.W.keepIn K (.ref f49)=true)
  (a50:PySem.W.nsIn K mainGlobals "_law_best_right" = some (some (.ref f50)))
  (l50:K.lookup f50=some ⟨oc50,od50,.func (PySem.W.fnOf "_law_best_right" "_law_best_right" (defArgs s_Lbest_right) (defBody s_Lbest_right) (defScope s_Lbest_right) .none kV50 dc50 pm50 an50 cd50 ct50),sl50⟩)
  (c50:PySem.W.codeIn K cd50 "_law_best_right" = true) (k50:PySem.W.keepIn K (.ref f50)=true)
  (a51:PySem.W.nsIn K mainGlobals "_law_none_right" = some (some (.ref f51)))
  (l51:K.lookup f51=some ⟨oc51,od51,.func (PySem.W.fnOf "_law_none_right" "_law_none_right" (defArgs s_Lnone_right) (defBody s_Lnone_right) (defScope s_Lnone_right) .none kV51 dc51 pm51 an51 cd51 ct51),sl51⟩)
  (c51:PySem.W.codeIn K cd51 "_law_none_right" = true) (k51:PySem.W.keepIn K (.ref f51)=true)
  (a52:PySem.W.nsIn K mainGlobals "_law_endless_right" = some (some (.ref f52)))
  (l52:K.lookup f52=some ⟨oc52,od52,.func (PySem.W.fnOf "_law_endless_right" "_law_endless_right" (defArgs s_Lendless_right) (defBody s_Lendless_right) (defScope s_Lendless_right) .none kV52 dc52 pm52 an52 cd52 ct52),sl52⟩)
  (c52:PySem.W.codeIn K cd52 "_law_endless_right" = true) (k52:PySem.W.keepIn K (.ref f52)=true)
  (a53:PySem.W.nsIn K mainGlobals "_law_shown_right" = some (some (.ref f53)))
  (l53:K.lookup f53=some ⟨oc53,od53,.func (PySem.W.fnOf "_law_shown_right" "_law_shown_right" (defArgs s_Lshown_right) (defBody s_Lshown_right) (defScope s_Lshown_right) .none kV53 dc53 pm53 an53 cd53 ct53),sl53⟩)
  (c53:PySem.W.codeIn K cd53 "_law_shown_right" = true) (k53:PySem.W.keepIn K (.ref f53)=true)
  (a54:PySem.W.nsIn K mainGlobals "_law_is_answer" = some (some (.ref f54)))
  (l54:K.lookup f54=some ⟨oc54,od54,.func (PySem.W.fnOf "_law_is_answer" "_law_is_answer" (defArgs s_Lis_answer) (defBody s_Lis_answer) (defScope s_Lis_answer) .none kV54 dc54 pm54 an54 cd54 ct54),sl54⟩)
  (c54:PySem.W.codeIn K cd54 "_law_is_answer" = true) (k54:PySem.W.keepIn K (.ref f54)=true)
  (a55:PySem.W.nsIn K mainGlobals "_law_spoilt" = some (some (.ref f55)))
  (l55:K.lookup f55=some ⟨oc55,od55,.func (PySem.W.fnOf "_law_spoilt" "_law_spoilt" (defArgs s_Lspoilt) (defBody s_Lspoilt) (defScope s_Lspoilt) .none kV55 dc55 pm55 an55 cd55 ct55),sl55⟩)
  (c55:PySem.W.codeIn K cd55 "_law_spoilt" = true) (k55:PySem.W.keepIn K (.ref f55)=true)
  (a56:PySem.W.nsIn K mainGlobals "_law_other_form" = some (some (.ref f56)))
  (l56:K.lookup f56=some ⟨oc56,od56,.func (PySem.W.fnOf "_law_other_form" "_law_other_form" (defArgs s_Lother_form) (defBody s_Lother_form) (defScope s_Lother_form) .none kV56 dc56 pm56 an56 cd56 ct56),sl56⟩)
  (c56:PySem.W.codeIn K cd56 "_law_other_form" = true) (k56:PySem.W.keepIn K (.ref f56)=true)
  (a57:PySem.W.nsIn K mainGlobals "_law_at_the_edge" = some (some (.ref f57)))
  (l57:K.lookup f57=some ⟨oc57,od57,.func (PySem.W.fnOf "_law_at_the_edge" "_law_at_the_edge" (defArgs s_Lat_the_edge) (defBody s_Lat_the_edge) (defScope s_Lat_the_edge) .none kV57 dc57 pm57 an57 cd57 ct57),sl57⟩)
  (c57:PySem.W.codeIn K cd57 "_law_at_the_edge" = true) (k57:PySem.W.keepIn K (.ref f57)=true)
  (a58:PySem.W.nsIn K mainGlobals "_law_of_turned" = some (some (.ref f58)))
  (l58:K.lookup f58=some ⟨oc58,od58,.func (PySem.W.fnOf "_law_of_turned" "_law_of_turned" (defArgs s_Lof_turned) (defBody s_Lof_turned) (defScope s_Lof_turned) .none kV58 dc58 pm58 an58 cd58 ct58),sl58⟩)
  (c58:PySem.W.codeIn K cd58 "_law_of_turned" = true) (k58:PySem.W.keepIn K (.ref f58)=true)
  (a59:PySem.W.nsIn K mainGlobals "law" = some (some (.ref f59)))
  (l59:K.lookup f59=some ⟨oc59,od59,.func (PySem.W.fnOf "law" "law" (defArgs s_law) (defBody s_law) (defScope s_law) .none kV59 dc59 pm59 an59 cd59 ct59),sl59⟩)
  (c59:PySem.W.codeIn K cd59 "law" = true) (k59:PySem.W.keepIn K (.ref f59)=true)
  (a60:PySem.W.findIn K (.ref g2) "__init__" = some (some (.ref f60))) (i60:PySem.W.isFn K (.ref f60)=true)
  (l60:K.lookup f60=some ⟨oc60,od60,.func (PySem.W.fnOf "__init__" "Sheet.__init__" (defArgs s_Sheet___init__) (defBody s_Sheet___init__) (defScope s_Sheet___init__) .none kV60 dc60 pm60 an60 cd60 ct60),sl60⟩)
  (c60:PySem.W.codeIn K cd60 "Sheet.__init__" = true) (k60:PySem.W.keepIn K (.ref f60)=true)
  (z0:PySem.W.nsIn K mainGlobals "ValueError" = some none)
  (z1:PySem.W.nsIn K mainGlobals "abs" = some none)
  (z2:PySem.W.nsIn K mainGlobals "all" = some none)
  (z3:PySem.W.nsIn K mainGlobals "any" = some none)
  (z4:PySem.W.nsIn K mainGlobals "bool" = some none)
  (z5:PySem.W.nsIn K mainGlobals "dict" = some none)
  (z6:PySem.W.nsIn K mainGlobals "enumerate" = some none)
  (z7:PySem.W.nsIn K mainGlobals "int" = some none)
  (z8:PySem.W.nsIn K mainGlobals "isinstance" = some none)
  (z9:PySem.W.nsIn K mainGlobals "len" = some none)
  (z10:PySem.W.nsIn K mainGlobals "list" = some none)
  (z11:PySem.W.nsIn K mainGlobals "max" = some none)
  (z12:PySem.W.nsIn K mainGlobals "min" = some none)
  (z13:PySem.W.nsIn K mainGlobals "range" = some none)
  (z14:PySem.W.nsIn K mainGlobals "reversed" = some none)
  (z15:PySem.W.nsIn K mainGlobals "str" = some none)
  (z16:PySem.W.nsIn K mainGlobals "sum" = some none)
  (z17:PySem.W.nsIn K mainGlobals "tuple" = some none)
  (z18:PySem.W.nsIn K mainGlobals "zip" = some none)
  (y0:PySem.W.nsIn K mainGlobals "PlanError" = some (some (.ref g0)))
  (y1:PySem.W.nsIn K mainGlobals "NoFraction" = some (some (.ref g1)))
  (y2:PySem.W.nsIn K mainGlobals "Sheet" = some (some (.ref g2)))
  (u0:PySem.W.nsIn K mainGlobals "NOUGHT" = some (some (.ref h0)))
  (v0:K.lookup h0=some ⟨.type "tuple",td0,.seq #[.int 0 tk0_0,.int 1 tk0_1] tn0,tl0⟩)
  (u1:PySem.W.nsIn K mainGlobals "ONE" = some (some (.ref h1)))
  (v1:K.lookup h1=some ⟨.type "tuple",td1,.seq #[.int 1 tk1_0,.int 1 tk1_1] tn1,tl1⟩)
  (w2_pg:PySem.W.plainGet K g2 Str.empty=true) (w2_hd:PySem.W.hasDictIn K g2=true) (w2_po:PySem.W.plainOver K g2=true) (w2_sa:PySem.W.findIn K (.ref g2) "__setattr__" = some (some (.builtin "object.__setattr__"))) (w2_mk:PySem.W.makesIn K g2=true) (w2_kc:PySem.W.keepIn K (.ref g2)=true)
  (w2_n_inner:PySem.W.findIn K (.ref g2) "inner" = some none)
  (w2_n_outer:PySem.W.findIn K (.ref g2) "outer" = some none)
  (w2_n_lines:PySem.W.findIn K (.ref g2) "lines" = some none)
  (w2_n_goal:PySem.W.findIn K (.ref g2) "goal" = some none)
  (q1:PySem.W.excIn K g1 [.type "ValueError",.type "Exception",.type "BaseException",.type "object"] "ValueError.__new__" = true):∃ t:Adr,Txt K mg t∧Ers K mg t∧t.f_law=fa:=by
 refine⟨⟨f0,PySem.W.fnOf "common_divisor" "common_divisor" (defArgs s_common_divisor) (defBody s_common_divisor) (defScope s_common_divisor) .none kV0 dc0 pm0 an0 cd0 ct0,f1,PySem.W.fnOf "made" "made" (defArgs s_made) (defBody s_made) (defScope s_made) .none kV1 dc1 pm1 an1 cd1 ct1,f2,PySem.W.fnOf "opposite" "opposite" (defArgs s_opposite) (defBody s_opposite) (defScope s_opposite) .none kV2 dc2 pm2 an2 cd2 ct2,f3,PySem.W.fnOf "plus" "plus" (defArgs s_plus) (defBody s_plus) (defScope s_plus) .none kV3 dc3 pm3 an3 cd3 ct3,f4,PySem.W.fnOf "times" "times" (defArgs s_times) (defBody s_times) (defScope s_times) .none kV4 dc4 pm4 an4 cd4 ct4,f5,PySem.W.fnOf "over" "over" (defArgs s_over) (defBody s_over) (defScope s_over) .none kV5 dc5 pm5 an5 cd5 ct5,f6,PySem.W.fnOf "less" "less" (defArgs s_less) (defBody s_less) (defScope s_less) .none kV6 dc6 pm6 an6 cd6 ct6,f7,PySem.W.fnOf "total" "total" (defArgs s_total) (defBody s_total) (defScope s_total) .none kV7 dc7 pm7 an7 cd7 ct7,f8,PySem.W.fnOf "none_below_nought" "none_below_nought" (defArgs s_none_below_nought) (defBody s_none_below_nought) (defScope s_none_below_nought) .none kV8 dc8 pm8 an8 cd8 ct8,f9,PySem.W.fnOf "possible" "possible" (defArgs s_possible) (defBody s_possible) (defScope s_possible) .none kV9 dc9 pm9 an9 cd9 ct9,f10,PySem.W.fnOf "used_by" "used_by" (defArgs s_used_by) (defBody s_used_by) (defScope s_used_by) .none kV10 dc10 pm10 an10 cd10 ct10,f11,PySem.W.fnOf "covered" "covered" (defArgs s_covered) (defBody s_covered) (defScope s_covered) .none kV11 dc11 pm11 an11 cd11 ct11,f12,PySem.W.fnOf "equal" "equal" (defArgs s_equal) (defBody s_equal) (defScope s_equal) .none kV12 dc12 pm12 an12 cd12 ct12,f13,PySem.W.fnOf "best_stands" "best_stands" (defArgs s_best_stands) (defBody s_best_stands) (defScope s_best_stands) .none kV13 dc13 pm13 an13 cd13 ct13,f14,PySem.W.fnOf "none_stands" "none_stands" (defArgs s_none_stands) (defBody s_none_stands) (defScope s_none_stands) .none kV14 dc14 pm14 an14 cd14 ct14,f15,PySem.W.fnOf "endless_stands" "endless_stands" (defArgs s_endless_stands) (defBody s_endless_stands) (defScope s_endless_stands) .none kV15 dc15 pm15 an15 cd15 ct15,f16,PySem.W.fnOf "stands" "stands" (defArgs s_stands) (defBody s_stands) (defScope s_stands) .none kV16 dc16 pm16 an16 cd16 ct16,f17,PySem.W.fnOf "solved_for" "solved_for" (defArgs s_solved_for) (defBody s_solved_for) (defScope s_solved_for) .none kV17 dc17 pm17 an17 cd17 ct17,f18,PySem.W.fnOf "with_put_in" "with_put_in" (defArgs s_with_put_in) (defBody s_with_put_in) (defScope s_with_put_in) .none kV18 dc18 pm18 an18 cd18 ct18,f19,PySem.W.fnOf "exchanged" "exchanged" (defArgs s_exchanged) (defBody s_exchanged) (defScope s_exchanged) .none kV19 dc19 pm19 an19 cd19 ct19,f20,PySem.W.fnOf "in_fractions" "in_fractions" (defArgs s_in_fractions) (defBody s_in_fractions) (defScope s_in_fractions) .none kV20 dc20 pm20 an20 cd20 ct20,f21,PySem.W.fnOf "stock_line" "stock_line" (defArgs s_stock_line) (defBody s_stock_line) (defScope s_stock_line) .none kV21 dc21 pm21 an21 cd21 ct21,f22,PySem.W.fnOf "first_sheet" "first_sheet" (defArgs s_first_sheet) (defBody s_first_sheet) (defScope s_first_sheet) .none kV22 dc22 pm22 an22 cd22 ct22,f23,PySem.W.fnOf "least_place" "least_place" (defArgs s_least_place) (defBody s_least_place) (defScope s_least_place) .none kV23 dc23 pm23 an23 cd23 ct23,f24,PySem.W.fnOf "least_short" "least_short" (defArgs s_least_short) (defBody s_least_short) (defScope s_least_short) .none kV24 dc24 pm24 an24 cd24 ct24,f25,PySem.W.fnOf "least_gaining" "least_gaining" (defArgs s_least_gaining) (defBody s_least_gaining) (defScope s_least_gaining) .none kV25 dc25 pm25 an25 cd25 ct25,f26,PySem.W.fnOf "least_helping" "least_helping" (defArgs s_least_helping) (defBody s_least_helping) (defScope s_least_helping) .none kV26 dc26 pm26 an26 cd26 ct26,f27,PySem.W.fnOf "least_bounding" "least_bounding" (defArgs s_least_bounding) (defBody s_least_bounding) (defScope s_least_bounding) .none kV27 dc27 pm27 an27 cd27 ct27,f28,PySem.W.fnOf "searched" "searched" (defArgs s_searched) (defBody s_searched) (defScope s_searched) .none kV28 dc28 pm28 an28 cd28 ct28,f29,PySem.W.fnOf "of_wares" "of_wares" (defArgs s_of_wares) (defBody s_of_wares) (defScope s_of_wares) .none kV29 dc29 pm29 an29 cd29 ct29,f30,PySem.W.fnOf "of_stocks" "of_stocks" (defArgs s_of_stocks) (defBody s_of_stocks) (defScope s_of_stocks) .none kV30 dc30 pm30 an30 cd30 ct30,f31,PySem.W.fnOf "plan_of" "plan_of" (defArgs s_plan_of) (defBody s_plan_of) (defScope s_plan_of) .none kV31 dc31 pm31 an31 cd31 ct31,f32,PySem.W.fnOf "prices_of" "prices_of" (defArgs s_prices_of) (defBody s_prices_of) (defScope s_prices_of) .none kV32 dc32 pm32 an32 cd32 ct32,f33,PySem.W.fnOf "weights_of" "weights_of" (defArgs s_weights_of) (defBody s_weights_of) (defScope s_weights_of) .none kV33 dc33 pm33 an33 cd33 ct33,f34,PySem.W.fnOf "way_of" "way_of" (defArgs s_way_of) (defBody s_way_of) (defScope s_way_of) .none kV34 dc34 pm34 an34 cd34 ct34,f35,PySem.W.fnOf "without_gains" "without_gains" (defArgs s_without_gains) (defBody s_without_gains) (defScope s_without_gains) .none kV35 dc35 pm35 an35 cd35 ct35,f36,PySem.W.fnOf "solved_with_way" "solved_with_way" (defArgs s_solved_with_way) (defBody s_solved_with_way) (defScope s_solved_with_way) .none kV36 dc36 pm36 an36 cd36 ct36,f37,PySem.W.fnOf "solved" "solved" (defArgs s_solved) (defBody s_solved) (defScope s_solved) .none kV37 dc37 pm37 an37 cd37 ct37,f38,PySem.W.fnOf "_law_whole" "_law_whole" (defArgs s_Lwhole) (defBody s_Lwhole) (defScope s_Lwhole) .none kV38 dc38 pm38 an38 cd38 ct38,f39,PySem.W.fnOf "_law_at" "_law_at" (defArgs s_Lat) (defBody s_Lat) (defScope s_Lat) .none kV39 dc39 pm39 an39 cd39 ct39,f40,PySem.W.fnOf "_law_same" "_law_same" (defArgs s_Lsame) (defBody s_Lsame) (defScope s_Lsame) .none kV40 dc40 pm40 an40 cd40 ct40,f41,PySem.W.fnOf "_law_common" "_law_common" (defArgs s_Lcommon) (defBody s_Lcommon) (defScope s_Lcommon) .none kV41 dc41 pm41 an41 cd41 ct41,f42,PySem.W.fnOf "_law_is_fraction" "_law_is_fraction" (defArgs s_Lis_fraction) (defBody s_Lis_fraction) (defScope s_Lis_fraction) .none kV42 dc42 pm42 an42 cd42 ct42,f43,PySem.W.fnOf "_law_are_fractions" "_law_are_fractions" (defArgs s_Lare_fractions) (defBody s_Lare_fractions) (defScope s_Lare_fractions) .none kV43 dc43 pm43 an43 cd43 ct43,f44,PySem.W.fnOf "_law_number_of" "_law_number_of" (defArgs s_Lnumber_of) (defBody s_Lnumber_of) (defScope s_Lnumber_of) .none kV44 dc44 pm44 an44 cd44 ct44,f45,PySem.W.fnOf "_law_task_of" "_law_task_of" (defArgs s_Ltask_of) (defBody s_Ltask_of) (defScope s_Ltask_of) .none kV45 dc45 pm45 an45 cd45 ct45,f46,PySem.W.fnOf "_law_total" "_law_total" (defArgs s_Ltotal) (defBody s_Ltotal) (defScope s_Ltotal) .none kV46 dc46 pm46 an46 cd46 ct46,f47,PySem.W.fnOf "_law_none_below" "_law_none_below" (defArgs s_Lnone_below) (defBody s_Lnone_below) (defScope s_Lnone_below) .none kV47 dc47 pm47 an47 cd47 ct47,f48,PySem.W.fnOf "_law_within" "_law_within" (defArgs s_Lwithin) (defBody s_Lwithin) (defScope s_Lwithin) .none kV48 dc48 pm48 an48 cd48 ct48,f49,PySem.W.fnOf "_law_column" "_law_column" (defArgs s_Lcolumn) (defBody s_Lcolumn) (defScope s_Lcolumn) .none kV49 dc49 pm49 an49 cd49 ct49,f50,PySem.W.fnOf "_law_best_right" "_law_best_right" (defArgs s_Lbest_right) (defBody s_Lbest_right) (defScope s_Lbest_right) .none kV50 dc50 pm50 an50 cd50 ct50,f51,PySem.W.fnOf "_law_none_right" "_law_none_right" (defArgs s_Lnone_right) (defBody s_Lnone_right) (defScope s_Lnone_right) .none kV51 dc51 pm51 an51 cd51 ct51,f52,PySem.W.fnOf "_law_endless_right" "_law_endless_right" (defArgs s_Lendless_right) (defBody s_Lendless_right) (defScope s_Lendless_right) .none kV52 dc52 pm52 an52 cd52 ct52,f53,PySem.W.fnOf "_law_shown_right" "_law_shown_right" (defArgs s_Lshown_right) (defBody s_Lshown_right) (defScope s_Lshown_right) .none kV53 dc53 pm53 an53 cd53 ct53,f54,PySem.W.fnOf "_law_is_answer" "_law_is_answer" (defArgs s_Lis_answer) (defBody s_Lis_answer) (defScope s_Lis_answer) .none kV54 dc54 pm54 an54 cd54 ct54,f55,PySem.W.fnOf "_law_spoilt" "_law_spoilt" (defArgs s_Lspoilt) (defBody s_Lspoilt) (defScope s_Lspoilt) .none kV55 dc55 pm55 an55 cd55 ct55,f56,PySem.W.fnOf "_law_other_form" "_law_other_form" (defArgs s_Lother_form) (defBody s_Lother_form) (defScope s_Lother_form) .none kV56 dc56 pm56 an56 cd56 ct56,f57,PySem.W.fnOf "_law_at_the_edge" "_law_at_the_edge" (defArgs s_Lat_the_edge) (defBody s_Lat_the_edge) (defScope s_Lat_the_edge) .none kV57 dc57 pm57 an57 cd57 ct57,f58,PySem.W.fnOf "_law_of_turned" "_law_of_turned" (defArgs s_Lof_turned) (defBody s_Lof_turned) (defScope s_Lof_turned) .none kV58 dc58 pm58 an58 cd58 ct58,f59,PySem.W.fnOf "law" "law" (defArgs s_law) (defBody s_law) (defScope s_law) .none kV59 dc59 pm59 an59 cd59 ct59,f60,PySem.W.fnOf "__init__" "Sheet.__init__" (defArgs s_Sheet___init__) (defBody s_Sheet___init__) (defScope s_Sheet___init__) .none kV60 dc60 pm60 an60 cd60 ct60,g0,g1,g2,h0,h1⟩,⟨fun_mk (st:=s_common_divisor) l0 c0 k0,(fun_mk (st:=s_common_divisor) l0 c0 k0).binds (ps:=["one","two"]) (us_2 rfl fun _ _ _ _ _ _ _ _=>rfl),PySem.W.mg_of X G a0,fun_mk (st:=s_made) l1 c1 k1,(fun_mk (st:=s_made) l1 c1 k1).binds (ps:=["top","bottom"]) (us_2 rfl fun _ _ _ _ _ _ _ _=>rfl),PySem.W.mg_of X G a1,fun_mk (st:=s_opposite) l2 c2 k2,(fun_mk (st:=s_opposite) l2 c2 k2).binds (ps:=["fraction"]) (us_1 rfl fun _ _ _ _ _ _ _=>rfl),PySem.W.mg_of X G a2,fun_mk (st:=s_plus) l3 c3 k3,(fun_mk (st:=s_plus) l3 c3 k3).binds (ps:=["one","two"]) (us_2 rfl fun _ _ _ _ _ _ _ _=>rfl),PySem.W.mg_of X G a3,fun_mk (st:=s_times) l4 c4 k4,(fun_mk (st:=s_times) l4 c4 k4).binds (ps:=["one","two"]) (us_2 rfl fun _ _ _ _ _ _ _ _=>rfl),PySem.W.mg_of X G a4,fun_mk (st:=s_over) l5 c5 k5,(fun_mk (st:=s_over) l5 c5 k5).binds (ps:=["one","two"]) (us_2 rfl fun _ _ _ _ _ _ _ _=>rfl),PySem.W.mg_of X G a5,fun_mk (st:=s_less) l6 c6 k6,(fun_mk (st:=s_less) l6 c6 k6).binds (ps:=["one","two"]) (us_2 rfl fun _ _ _ _ _ _ _ _=>rfl),PySem.W.mg_of X G a6,fun_mk (st:=s_total) l7 c7 k7,(fun_mk (st:=s_total) l7 c7 k7).binds (ps:=["numbers","fractions"]) (us_2 rfl fun _ _ _ _ _ _ _ _=>rfl),PySem.W.mg_of X G a7,fun_mk (st:=s_none_below_nought) l8 c8 k8,(fun_mk (st:=s_none_below_nought) l8 c8 k8).binds (ps:=["fractions"]) (us_1 rfl fun _ _ _ _ _ _ _=>rfl),PySem.W.mg_of X G a8,fun_mk (st:=s_possible) l9 c9 k9,(fun_mk (st:=s_possible) l9 c9 k9).binds (ps:=["uses","amounts","plan"]) (us_3 rfl fun _ _ _ _ _ _ _ _ _=>rfl),PySem.W.mg_of X G a9,fun_mk (st:=s_used_by) l10 c10 k10,(fun_mk (st:=s_used_by) l10 c10 k10).binds (ps:=["ware","uses"]) (us_2 rfl fun _ _ _ _ _ _ _ _=>rfl),PySem.W.mg_of X G a10,fun_mk (st:=s_covered) l11 c11 k11,(fun_mk (st:=s_covered) l11 c11 k11).binds (ps:=["uses","wanted","fractions"]) (us_3 rfl fun _ _ _ _ _ _ _ _ _=>rfl),PySem.W.mg_of X G a11,fun_mk (st:=s_equal) l12 c12 k12,(fun_mk (st:=s_equal) l12 c12 k12).binds (ps:=["one","two"]) (us_2 rfl fun _ _ _ _ _ _ _ _=>rfl),PySem.W.mg_of X G a12,fun_mk (st:=s_best_stands) l13 c13 k13,(fun_mk (st:=s_best_stands) l13 c13 k13).binds (ps:=["uses","amounts","gains","plan","prices"]) (us_5 rfl fun _ _ _ _ _ _ _ _ _ _ _=>rfl),PySem.W.mg_of X G a13,fun_mk (st:=s_none_stands) l14 c14 k14,(fun_mk (st:=s_none_stands) l14 c14 k14).binds (ps:=["uses","amounts","gains","weights"]) (us_4 rfl fun _ _ _ _ _ _ _ _ _ _=>rfl),PySem.W.mg_of X G a14,fun_mk (st:=s_endless_stands) l15 c15 k15,(fun_mk (st:=s_endless_stands) l15 c15 k15).binds (ps:=["uses","amounts","gains","plan","way"]) (us_5 rfl fun _ _ _ _ _ _ _ _ _ _ _=>rfl),PySem.W.mg_of X G a15,fun_mk (st:=s_stands) l16 c16 k16,(fun_mk (st:=s_stands) l16 c16 k16).binds (ps:=["uses","amounts","gains","answer"]) (us_4 rfl fun _ _ _ _ _ _ _ _ _ _=>rfl),PySem.W.mg_of X G a16,fun_mk (st:=s_solved_for) l17 c17 k17,(fun_mk (st:=s_solved_for) l17 c17 k17).binds (ps:=["line","place"]) (us_2 rfl fun _ _ _ _ _ _ _ _=>rfl),PySem.W.mg_of X G a17,fun_mk (st:=s_with_put_in) l18 c18 k18,(fun_mk (st:=s_with_put_in) l18 c18 k18).binds (ps:=["line","place","told"]) (us_3 rfl fun _ _ _ _ _ _ _ _ _=>rfl),PySem.W.mg_of X G a18,fun_mk (st:=s_exchanged) l19 c19 k19,(fun_mk (st:=s_exchanged) l19 c19 k19).binds (ps:=["sheet","row","place"]) (us_3 rfl fun _ _ _ _ _ _ _ _ _=>rfl),PySem.W.mg_of X G a19,fun_mk (st:=s_in_fractions) l20 c20 k20,(fun_mk (st:=s_in_fractions) l20 c20 k20).binds (ps:=["numbers"]) (us_1 rfl fun _ _ _ _ _ _ _=>rfl),PySem.W.mg_of X G a20,fun_mk (st:=s_stock_line) l21 c21 k21,(fun_mk (st:=s_stock_line) l21 c21 k21).binds (ps:=["row","amount"]) (us_2 rfl fun _ _ _ _ _ _ _ _=>rfl),PySem.W.mg_of X G a21,fun_mk (st:=s_first_sheet) l22 c22 k22,(fun_mk (st:=s_first_sheet) l22 c22 k22).binds (ps:=["uses","amounts","gains"]) (us_3 rfl fun _ _ _ _ _ _ _ _ _=>rfl),PySem.W.mg_of X G a22,fun_mk (st:=s_least_place) l23 c23 k23,(fun_mk (st:=s_least_place) l23 c23 k23).binds (ps:=["unknowns","places"]) (us_2 rfl fun _ _ _ _ _ _ _ _=>rfl),PySem.W.mg_of X G a23,fun_mk (st:=s_least_short) l24 c24 k24,(fun_mk (st:=s_least_short) l24 c24 k24).binds (ps:=["sheet"]) (us_1 rfl fun _ _ _ _ _ _ _=>rfl),PySem.W.mg_of X G a24,fun_mk (st:=s_least_gaining) l25 c25 k25,(fun_mk (st:=s_least_gaining) l25 c25 k25).binds (ps:=["sheet"]) (us_1 rfl fun _ _ _ _ _ _ _=>rfl),PySem.W.mg_of X G a25,fun_mk (st:=s_least_helping) l26 c26 k26,(fun_mk (st:=s_least_helping) l26 c26 k26).binds (ps:=["sheet","row"]) (us_2 rfl fun _ _ _ _ _ _ _ _=>rfl),PySem.W.mg_of X G a26,fun_mk (st:=s_least_bounding) l27 c27 k27,(fun_mk (st:=s_least_bounding) l27 c27 k27).binds (ps:=["sheet","place"]) (us_2 rfl fun _ _ _ _ _ _ _ _=>rfl),PySem.W.mg_of X G a27,fun_mk (st:=s_searched) l28 c28 k28,(fun_mk (st:=s_searched) l28 c28 k28).binds (ps:=["sheet"]) (us_1 rfl fun _ _ _ _ _ _ _=>rfl),PySem.W.mg_of X G a28,fun_mk (st:=s_of_wares) l29 c29 k29,(fun_mk (st:=s_of_wares) l29 c29 k29).binds (ps:=["sheet","known"]) (us_2 rfl fun _ _ _ _ _ _ _ _=>rfl),PySem.W.mg_of X G a29,fun_mk (st:=s_of_stocks) l30 c30 k30,(fun_mk (st:=s_of_stocks) l30 c30 k30).binds (ps:=["sheet","known"]) (us_2 rfl fun _ _ _ _ _ _ _ _=>rfl),PySem.W.mg_of X G a30,fun_mk (st:=s_plan_of) l31 c31 k31,(fun_mk (st:=s_plan_of) l31 c31 k31).binds (ps:=["sheet"]) (us_1 rfl fun _ _ _ _ _ _ _=>rfl),PySem.W.mg_of X G a31,fun_mk (st:=s_prices_of) l32 c32 k32,(fun_mk (st:=s_prices_of) l32 c32 k32).binds (ps:=["sheet"]) (us_1 rfl fun _ _ _ _ _ _ _=>rfl),PySem.W.mg_of X G a32,fun_mk (st:=s_weights_of) l33 c33 k33,(fun_mk (st:=s_weights_of) l33 c33 k33).binds (ps:=["sheet","row"]) (us_2 rfl fun _ _ _ _ _ _ _ _=>rfl),PySem.W.mg_of X G a33,fun_mk (st:=s_way_of) l34 c34 k34,(fun_mk (st:=s_way_of) l34 c34 k34).binds (ps:=["sheet","place"]) (us_2 rfl fun _ _ _ _ _ _ _ _=>rfl),PySem.W.mg_of X G a34,fun_mk (st:=s_without_gains) l35 c35 k35,(fun_mk (st:=s_without_gains) l35 c35 k35).binds (ps:=["sheet"]) (us_1 rfl fun _ _ _ _ _ _ _=>rfl),PySem.W.mg_of X G a35,fun_mk (st:=s_solved_with_way) l36 c36 k36,(fun_mk (st:=s_solved_with_way) l36 c36 k36).binds (ps:=["sheet","place"]) (us_2 rfl fun _ _ _ _ _ _ _ _=>rfl),PySem.W.mg_of X G a36,fun_mk (st:=s_solved) l37 c37 k37,(fun_mk (st:=s_solved) l37 c37 k37).binds (ps:=["uses","amounts","gains"]) (us_3 rfl fun _ _ _ _ _ _ _ _ _=>rfl),PySem.W.mg_of X G a37,fun_mk (st:=s_Lwhole) l38 c38 k38,(fun_mk (st:=s_Lwhole) l38 c38 k38).binds (ps:=["_law_found"]) (us_1 rfl fun _ _ _ _ _ _ _=>rfl),PySem.W.mg_of X G a38,fun_mk (st:=s_Lat) l39 c39 k39,(fun_mk (st:=s_Lat) l39 c39 k39).binds (ps:=["_law_script","_law_k"]) (us_2 rfl fun _ _ _ _ _ _ _ _=>rfl),PySem.W.mg_of X G a39,fun_mk (st:=s_Lsame) l40 c40 k40,(fun_mk (st:=s_Lsame) l40 c40 k40).binds (ps:=["_law_found","_law_due"]) (us_2 rfl fun _ _ _ _ _ _ _ _=>rfl),PySem.W.mg_of X G a40,fun_mk (st:=s_Lcommon) l41 c41 k41,(fun_mk (st:=s_Lcommon) l41 c41 k41).binds (ps:=["_law_one","_law_two"]) (us_2 rfl fun _ _ _ _ _ _ _ _=>rfl),PySem.W.mg_of X G a41,fun_mk (st:=s_Lis_fraction) l42 c42 k42,(fun_mk (st:=s_Lis_fraction) l42 c42 k42).binds (ps:=["_law_found"]) (us_1 rfl fun _ _ _ _ _ _ _=>rfl),PySem.W.mg_of X G a42,fun_mk (st:=s_Lare_fractions) l43 c43 k43,(fun_mk (st:=s_Lare_fractions) l43 c43 k43).binds (ps:=["_law_found","_law_count"]) (us_2 rfl fun _ _ _ _ _ _ _ _=>rfl),PySem.W.mg_of X G a43,fun_mk (st:=s_Lnumber_of) l44 c44 k44,(fun_mk (st:=s_Lnumber_of) l44 c44 k44).binds (ps:=["_law_cell","_law_low","_law_high"]) (us_3 rfl fun _ _ _ _ _ _ _ _ _=>rfl),PySem.W.mg_of X G a44,fun_mk (st:=s_Ltask_of) l45 c45 k45,(fun_mk (st:=s_Ltask_of) l45 c45 k45).binds (ps:=["_law_script","_law_least"]) (us_2 rfl fun _ _ _ _ _ _ _ _=>rfl),PySem.W.mg_of X G a45,fun_mk (st:=s_Ltotal) l46 c46 k46,(fun_mk (st:=s_Ltotal) l46 c46 k46).binds (ps:=["_law_numbers","_law_fractions"]) (us_2 rfl fun _ _ _ _ _ _ _ _=>rfl),PySem.W.mg_of X G a46,fun_mk (st:=s_Lnone_below) l47 c47 k47,(fun_mk (st:=s_Lnone_below) l47 c47 k47).binds (ps:=["_law_row"]) (us_1 rfl fun _ _ _ _ _ _ _=>rfl),PySem.W.mg_of X G a47,fun_mk (st:=s_Lwithin) l48 c48 k48,(fun_mk (st:=s_Lwithin) l48 c48 k48).binds (ps:=["_law_uses","_law_amounts","_law_plan"]) (us_3 rfl fun _ _ _ _ _ _ _ _ _=>rfl),PySem.W.mg_of X G a48,fun_mk (st:=s_Lcolumn) l49 c49 k49,(fun_mk (st:=s_Lcolumn) l49 c49 k49).binds (ps:=["_law_uses","_law_k"]) (us_2 rfl fun _ _ _ _ _ _ _ _=>rfl),PySem.W.mg_of X G a49,fun_mk (st:=s_Lbest_right) l50 c50 k50,(fun_mk (st:=s_Lbest_right) l50 c50 k50).binds (ps:=["_law_uses","_law_amounts","_law_gains","_law_plan","_law_prices"]) (us_5 rfl fun _ _ _ _ _ _ _ _ _ _ _=>rfl),PySem.W.mg_of X G a50,fun_mk (st:=s_Lnone_right) l51 c51 k51,(fun_mk (st:=s_Lnone_right) l51 c51 k51).binds (ps:=["_law_uses","_law_amounts","_law_gains","_law_weights"]) (us_4 rfl fun _ _ _ _ _ _ _ _ _ _=>rfl),PySem.W.mg_of X G a51,fun_mk (st:=s_Lendless_right) l52 c52 k52,(fun_mk (st:=s_Lendless_right) l52 c52 k52).binds (ps:=["_law_uses","_law_amounts","_law_gains","_law_plan","_law_way"]) (us_5 rfl fun _ _ _ _ _ _ _ _ _ _ _=>rfl),PySem.W.mg_of X G a52,fun_mk (st:=s_Lshown_right) l53 c53 k53,(fun_mk (st:=s_Lshown_right) l53 c53 k53).binds (ps:=["_law_uses","_law_amounts","_law_gains","_law_found"]) (us_4 rfl fun _ _ _ _ _ _ _ _ _ _=>rfl),PySem.W.mg_of X G a53,fun_mk (st:=s_Lis_answer) l54 c54 k54,(fun_mk (st:=s_Lis_answer) l54 c54 k54).binds (ps:=["_law_found","_law_wares","_law_stocks"]) (us_3 rfl fun _ _ _ _ _ _ _ _ _=>rfl),PySem.W.mg_of X G a54,fun_mk (st:=s_Lspoilt) l55 c55 k55,(fun_mk (st:=s_Lspoilt) l55 c55 k55).binds (ps:=["_law_found","_law_spot","_law_way"]) (us_3 rfl fun _ _ _ _ _ _ _ _ _=>rfl),PySem.W.mg_of X G a55,fun_mk (st:=s_Lother_form) l56 c56 k56,(fun_mk (st:=s_Lother_form) l56 c56 k56).binds (ps:=["_law_script","_law_wares","_law_stocks"]) (us_3 rfl fun _ _ _ _ _ _ _ _ _=>rfl),PySem.W.mg_of X G a56,fun_mk (st:=s_Lat_the_edge) l57 c57 k57,(fun_mk (st:=s_Lat_the_edge) l57 c57 k57).binds (ps:=["_law_uses","_law_gains","_law_cell"]) (us_3 rfl fun _ _ _ _ _ _ _ _ _=>rfl),PySem.W.mg_of X G a57,fun_mk (st:=s_Lof_turned) l58 c58 k58,(fun_mk (st:=s_Lof_turned) l58 c58 k58).binds (ps:=["_law_uses","_law_amounts","_law_gains"]) (us_3 rfl fun _ _ _ _ _ _ _ _ _=>rfl),PySem.W.mg_of X G a58,fun_mk (st:=s_law) l59 c59 k59,(fun_mk (st:=s_law) l59 c59 k59).binds (ps:=["_law_script"]) (us_1 rfl fun _ _ _ _ _ _ _=>rfl),PySem.W.mg_of X G a59,fun_mk (st:=s_Sheet___init__) l60 c60 k60,(fun_mk (st:=s_Sheet___init__) l60 c60 k60).binds (ps:=["self","inner","outer","lines","goal"]) (us_5 rfl fun _ _ _ _ _ _ _ _ _ _ _=>rfl),PySem.W.mg_none_of X G z0,PySem.W.mg_none_of X G z1,PySem.W.mg_none_of X G z2,PySem.W.mg_none_of X G z3,PySem.W.mg_none_of X G z4,PySem.W.mg_none_of X G z5,PySem.W.mg_none_of X G z6,PySem.W.mg_none_of X G z7,PySem.W.mg_none_of X G z8,PySem.W.mg_none_of X G z9,PySem.W.mg_none_of X G z10,PySem.W.mg_none_of X G z11,PySem.W.mg_none_of X G z12,PySem.W.mg_none_of X G z13,PySem.W.mg_none_of X G z14,PySem.W.mg_none_of X G z15,PySem.W.mg_none_of X G z16,PySem.W.mg_none_of X G z17,PySem.W.mg_none_of X G z18,PySem.W.mg_of X G y0,PySem.W.mg_of X G y1,PySem.W.mg_of X G y2,PySem.W.mg_of X G u0,fun _=>.inr ⟨_,_,_,v0,rfl,rfl,(by show 2≤sizeLine; decide),.cons ⟨_,rfl⟩ (.cons ⟨_,rfl⟩ (.nil))⟩,PySem.W.mg_of X G u1,fun _=>.inr ⟨_,_,_,v1,rfl,rfl,(by show 2≤sizeLine; decide),.cons ⟨_,rfl⟩ (.cons ⟨_,rfl⟩ (.nil))⟩,⟨w2_mk,a60,i60,w2_kc⟩,⟨w2_pg,w2_hd,w2_po,w2_sa⟩,w2_n_inner,w2_n_outer,w2_n_lines,w2_n_goal⟩,⟨⟨y1,q1⟩,fun s v=>.of_eq rfl,fun c P ht=>PySem.W.law_code X G ht (PySem.W.mg_of X G a23) (X _ _ l23) rfl⟩,Option.some.inj ((PySem.W.mg_of X G a59).symm.trans hfa) |> fun z=>by cases z; rfl⟩
def pT (t b:Int):Tr:=.tup [.int t,.int b]
def frT (r:Rat):Tr:=pT r.num (r.den:Int)
def lnT (l:List Rat):Tr:=.lst (l.map frT)
def lnsT (L:List (List Rat)):Tr:=.lst (L.map lnT)
def intsT (l:List Int):Tr:=.lst (l.map Tr.int)
abbrev Res (K:PySem.W.Frag) (M H:Hp) (t:Tr) (Q:VK):Prop:=∀ (v:V) (M' H':Hp),Gr M H M' H'→At K M' t v→Q v H'
section
variable {K:PySem.W.Frag} {M H:Hp} {v:V}
theorem pT_inv {t b:Int} (h:At K M (pT t b) v):∃ a,v = .ref a∧SqT K M a [.int t,.int b]:=by
 obtain⟨a,xs,rfl,hs,r⟩:=h.tup_inv
 have:xs=[t,b].map V.int:=Ats.ints_inv (ns:=[t,b]) r
 subst this
 exact⟨a,rfl,hs⟩
theorem fr_inv {r:Rat} (h:At K M (frT r) v):∃ a,v = .ref a∧SqT K M a (frV r):=pT_inv h
theorem pT_mk {t b:Int} {a:Addr} (h:SqT K M a [.int t,.int b]):At K M (pT t b) (.ref a):=(Ats.cons .int (Ats.cons .int Ats.nil)).tup h
theorem ln_get {l:List Rat} {xs:List V} {i:Nat} {r:Rat} (h:Ats K M (l.map frT) xs) (e:l[i]? = some r):∃ x,xs[i]? = some x∧At K M (frT r) x:=h.get (by rw[List.getElem?_map,e]; rfl)
theorem ln_get' {l:List Rat} {xs:List V} {i:Nat} {x:V} (h:Ats K M (l.map frT) xs) (e:xs[i]? = some x):∃ r,l[i]? = some r∧At K M (frT r) x:=by
 obtain⟨t,ht,a⟩:=h.get' e
 rw[List.getElem?_map] at ht
 cases q:l[i]? with
 | none=>rw[q] at ht; cases ht
 | some r=>rw[q] at ht; cases ht; exact⟨r,rfl,a⟩
end
theorem zT:(0:Int)<10 ^ (30:Int).toNat:=by decide
def spCd:Sp:=fun vs H Q _=>∃ a b:Int,vs=[.int a,.int b]∧0≤a∧0≤b∧Q (.int ((Int.gcd a b:Nat):Int)) H
def spMade (K:PySem.W.Frag):Sp:=fun vs H Q _=>∃ (t b:Int) (M:Hp),vs=[.int t,.int b]∧b≠0∧b.natAbs<2 ^ 9000∧Same M H∧Res K M H (frT (Rat.divInt t b)) Q
def spOpp (K:PySem.W.Frag):Sp:=fun vs H Q _=>∃ (v:V) (r:Rat) (M:Hp),vs=[v]∧At K M (frT r) v∧Same M H∧Res K M H (frT (-r)) Q
def spTwo (K:PySem.W.Frag) (op:Rat→Rat→Rat):Sp:=fun vs H Q _=>∃ (v w:V) (r s:Rat) (M:Hp),vs=[v,w]∧At K M (frT r) v∧At K M (frT s) w∧FM.Sm 4000 r∧FM.Sm 4000 s∧Same M H∧Res K M H (frT (op r s)) Q
def spOver (K:PySem.W.Frag):Sp:=fun vs H Q _=>∃ (v w:V) (r s:Rat) (M:Hp),vs=[v,w]∧At K M (frT r) v∧At K M (frT s) w∧FM.Sm 4000 r∧FM.Sm 4000 s∧s≠0∧Same M H∧Res K M H (frT (r / s)) Q
def SmL (n:Nat) (l:List Rat):Prop:=∀ a∈l,FM.Sm n a
def spSolved (K:PySem.W.Frag):Sp:=fun vs H Q _=>∃ (v:V) (l:List Rat) (p:Nat) (a:Rat) (M:Hp),vs=[v,.int p]∧At K M (lnT l) v∧l[p]? = some a∧a≠0∧l.length≤1000∧SmL 1000 l∧Same M H∧Res K M H (lnT (SH.told l p)) Q
def spPut (K:PySem.W.Frag):Sp:=fun vs H Q _=>∃ (v w:V) (l t:List Rat) (p:Nat) (c d:Rat) (M:Hp),vs=[v,.int p,w]∧At K M (lnT l) v∧At K M (lnT t) w∧l[p]? = some c∧t[p]? = some d∧l.length=t.length∧l.length≤1000∧SmL 1000 l∧SmL 1000 t∧Same M H∧Res K M H (lnT (SH.putIn l p t)) Q
section
variable {P:Program} {w:World} {K:PySem.W.Frag} {mg:Str→Option Value} {base:Heap} {t:Adr} {k:Nat}
theorem ok_common_divisor (T:Txt K mg t):FnOk P w K mg base CX0 (k+1) t.f_common_divisor t.d_common_divisor ["one","two"] spCd:=by
 refine T.F_common_divisor.ok sc_common_divisor (fun vs H Q E h=>?_) (fun cdv A outer s H vs Q E hr h=>?_)
 ·obtain⟨a,b,rfl,_⟩:=h
  rfl
 obtain⟨a,b,rfl,ha,hb,q⟩:=h
 refine⟨_,(pss_cons (ps_while PassesOwn.never (pt_cmpR op_ne (pv 1) pe_int (nomark _))
   (pss_cons (ps_set (i:=2) sc_common_divisor.nd rfl (Or.inl rfl) (pe_op op_mod (pv 0) (pv 1)))
  (pss_cons (ps_set (i:=0) sc_common_divisor.nd rfl (Or.inl rfl) (pv 1))
  (pss_one (ps_set (i:=1) sc_common_divisor.nd rfl (Or.inl rfl) (pv 2))))))
  (pss_one (ps_ret (pv 0)))),?_⟩
 refine while_by (fun σ H'=>H'=H∧∃ (x y:Int) (z:Option V),σ=[some (.int x),some (.int y),z]∧0≤x∧0≤y∧Int.gcd x y=Int.gcd a b) (fun σ _=>match σ with | [_,some (.int y),_]=>y.toNat | _=>0) ⟨rfl,a,b,none,rfl,ha,hb,rfl⟩ ?_ ?_
 ·rintro σ H' ⟨rfl,x,y,z,rfl,hx,hy,hg⟩
  refine⟨_,rfl,rfl,_,rfl,?_⟩
  refine ite2 (fun c=>?_) (fun c=>?_)
  ·have hy':0<y:=by have:=ne_of_test c; omega
   refine⟨_,rfl,_,rfl,_,_,rfl,rfl,hy',_,rfl,_,rfl,⟨rfl,y,x % y,_,rfl,hy,Int.emod_nonneg _ (by omega),?_⟩,?_⟩
   ·rw[FM.gcd_turn hx hy',hg]
   ·have:=Int.emod_lt_of_pos x hy'
    show (x % y).toNat<y.toNat
    omega
  ·have hy0:y=0:=eq_of_ntest c
   subst hy0
   refine⟨_,rfl,?_⟩
   have e:((Int.gcd a b:Nat):Int)=x:=by rw[← hg,Int.gcd_zero_right]; omega
   rw[e] at q
   exact q
 ·intro σ H Q Q' hQ h
  obtain⟨v,e,s,k,e2,h⟩:=h
  exact⟨v,e,s,k,e2,hQ _ _ h⟩
theorem ab_nn (x:Int):(0:Int)≤if x<0 then -x else x:=by split <;> omega
theorem two_ok:2≤sizeLine:=by decide
theorem ok_made (T:Txt K mg t) (Z:Ers K mg t) (G:FnOk P w K mg base CX0 k t.f_common_divisor t.d_common_divisor ["one","two"] spCd):FnOk P w K mg base (CXE P w) (k+1) t.f_made t.d_made ["top","bottom"] (spMade K):=by
 have G_common_divisor:=G.toE
 refine T.F_made.okE sc_made (fun vs H Q E h=>?_) (fun cdv A outer s H vs Q E hr h=>?_)
 ·obtain⟨a,b,M,rfl,_⟩:=h
  rfl
 obtain⟨a,b,M,rfl,hb,hsz,hM,q⟩:=h
 refine⟨_,(pss_cons (ps_if (pt_cmpR op_eq (pv 1) pe_int (nomark _))
   (pss_one (ps_raise Z.e_NoFraction PySem.F.excBase_ValueError (pa_cons pe_str pa_nil) rfl))
   pss_nil)
  (pss_cons (ps_set (i:=2) sc_made.nd rfl (Or.inl rfl) (pe_call G_common_divisor hr rfl T.m_common_divisor T.F_common_divisor.kp T.b_common_divisor .nil pass_no (pa_cons (pe_callB call_abs rfl T.n_abs PyProof.Rows.boot_abs (pa_cons (pv 0) pa_nil)) (pa_cons (pe_callB call_abs rfl T.n_abs PyProof.Rows.boot_abs (pa_cons (pv 1) pa_nil)) pa_nil))))
  (pss_cons (ps_if (pt_cmpR op_lt (pv 1) pe_int (nomark _))
   (pss_one (ps_set (i:=2) sc_made.nd rfl (Or.inl rfl) (pe_un un_neg (pv 2))))
   pss_nil)
  (pss_one (ps_ret (pe_tup (pa_cons (pe_op op_fdivB (pv 0) (pv 2)) (pa_cons (pe_op op_fdivB (pv 1) (pv 2)) pa_nil)))))))),?_⟩
 refine⟨_,rfl,rfl,_,rfl,?_⟩
 refine ite2 (fun c=>absurd (eq_of_test c) hb) (fun c=>?_)
 refine⟨_,rfl,_,rfl,_,rfl,_,rfl,_,_,rfl,ab_nn a,ab_nn b,?_⟩
 have hd:=FM.dv_ne (t:=a) hb
 have hl:(FM.dv a b).natAbs<2 ^ 9000:=Nat.lt_of_le_of_lt (by rw[FM.dv_abs]; exact FM.gcd_le hb) hsz
 refine⟨_,rfl,_,_,rfl,rfl,_,rfl,?_⟩
 have fin:∀ d:Int,d=FM.dv a b→∀ (p:Addr),H p=none→Q (.ref p) (upd H p (.tup [.int (a.fdiv d),.int (b.fdiv d)])):=fun d e p hp=>by
  subst e
  refine q _ _ _ ((Gr.refl hM).add hp) (pT_mk (SqT.of ?_))
  rw[upd_same,FM.num_eq hb,FM.den_eq hb]
 refine ite2 (fun c2=>?_) (fun c2=>?_)
 ·have e : -((Int.gcd (if a<0 then -a else a) (if b<0 then -b else b):Nat):Int)=FM.dv a b:=by
   rw[FM.gcd_abs]
   exact (if_pos (of_decide_eq_true c2)).symm
  refine⟨_,rfl,_,rfl,?_⟩
  refine⟨_,rfl,_,rfl,_,_,rfl,rfl,⟨by rw[e]; exact hd,by rw[e]; exact hl⟩,_,rfl,_,rfl,_,_,rfl,rfl,⟨by rw[e]; exact hd,by rw[e]; exact hl⟩,two_ok,fun p hp=>fin _ e p hp⟩
 ·have e:((Int.gcd (if a<0 then -a else a) (if b<0 then -b else b):Nat):Int)=FM.dv a b:=by
   rw[FM.gcd_abs]
   exact (if_neg (of_decide_eq_false (Bool.eq_false_iff.mpr c2))).symm
  refine⟨_,rfl,_,rfl,_,_,rfl,rfl,⟨by rw[e]; exact hd,by rw[e]; exact hl⟩,_,rfl,_,rfl,_,_,rfl,rfl,⟨by rw[e]; exact hd,by rw[e]; exact hl⟩,two_ok,fun p hp=>fin _ e p hp⟩
theorem sm_den {n:Nat} {r:Rat} (h:FM.Sm n r):((r.den:Int)).natAbs<2 ^ n:=by rw[Int.natAbs_natCast]; exact h.2
theorem mul_nd {n:Nat} {r s:Rat} (h:FM.Sm n r) (h2:FM.Sm n s) (z:n+n≤134217728):IntMulOk r.num (s.den:Int):=mulOk h.1 (sm_den h2) z
theorem mul_dd {n:Nat} {r s:Rat} (h:FM.Sm n r) (h2:FM.Sm n s) (z:n+n≤134217728):IntMulOk (r.den:Int) (s.den:Int):=mulOk (sm_den h) (sm_den h2) z
theorem mul_nn {n:Nat} {r s:Rat} (h:FM.Sm n r) (h2:FM.Sm n s) (z:n+n≤134217728):IntMulOk r.num s.num:=mulOk h.1 h2.1 z
theorem mul_dn {n:Nat} {r s:Rat} (h:FM.Sm n r) (h2:FM.Sm n s) (z:n+n≤134217728):IntMulOk (r.den:Int) s.num:=mulOk (sm_den h) h2.1 z
theorem dd_small {r s:Rat} (h:FM.Sm 4000 r) (h2:FM.Sm 4000 s):((r.den:Int)*(s.den:Int)).natAbs<2 ^ 9000:=FM.lt_mono (FM.mul_lt (sm_den h) (sm_den h2)) (by decide)
theorem dd_ne (r s:Rat):(r.den:Int)*(s.den:Int)≠0:=by
 have h1:=FM.den_pos r
 have h2:=FM.den_pos s
 exact Int.mul_ne_zero (by omega) (by omega)
theorem ok_plus (T:Txt K mg t) (G_made:FnOk P w K mg base (CXE P w) k t.f_made t.d_made ["top","bottom"] (spMade K)):FnOk P w K mg base (CXE P w) (k+1) t.f_plus t.d_plus ["one","two"] (spTwo K (· + ·)):=by
 refine T.F_plus.okE sc_plus (fun vs H Q E h=>?_) (fun cdv A outer s H vs Q E hr h=>?_)
 ·obtain⟨v,x,r,u,M,rfl,_⟩:=h
  rfl
 obtain⟨v,x,r,u,M,rfl,hv,hx,sa,sb,hM,q⟩:=h
 obtain⟨a,rfl,ha0⟩:=fr_inv hv
 obtain⟨b,rfl,hb0⟩:=fr_inv hx
 have ha:=hM.tup ha0
 have hb:=hM.tup hb0
 refine⟨_,(pss_one (ps_ret (pe_call G_made hr rfl T.m_made T.F_made.kp T.b_made .nil pass_no (pa_cons (pe_op op_add (pe_op op_mulB (pe_ix ix_tup (pv 0) pe_int (fun _ _=>rfl)) (pe_ix ix_tup (pv 1) pe_int (fun _ _=>rfl))) (pe_op op_mulB (pe_ix ix_tup (pv 1) pe_int (fun _ _=>rfl)) (pe_ix ix_tup (pv 0) pe_int (fun _ _=>rfl)))) (pa_cons (pe_op op_mulB (pe_ix ix_tup (pv 0) pe_int (fun _ _=>rfl)) (pe_ix ix_tup (pv 1) pe_int (fun _ _=>rfl))) pa_nil))))),?_⟩
 refine⟨_,rfl,a,_,_,_,rfl,rfl,ha,fr_top r,_,rfl,b,_,_,_,rfl,rfl,hb,fr_bot u,_,_,rfl,rfl,mul_nd sa sb (by decide),?_⟩
 refine⟨_,rfl,b,_,_,_,rfl,rfl,hb,fr_top u,_,rfl,a,_,_,_,rfl,rfl,ha,fr_bot r,_,_,rfl,rfl,mul_nd sb sa (by decide),_,_,rfl,rfl,?_⟩
 refine⟨_,rfl,a,_,_,_,rfl,rfl,ha,fr_bot r,_,rfl,b,_,_,_,rfl,rfl,hb,fr_bot u,_,_,rfl,rfl,mul_dd sa sb (by decide),?_⟩
 refine⟨_,_,M,rfl,dd_ne r u,dd_small sa sb,hM,?_⟩
 rw[FM.add_is]
 exact q
theorem ok_times (T:Txt K mg t) (G_made:FnOk P w K mg base (CXE P w) k t.f_made t.d_made ["top","bottom"] (spMade K)):FnOk P w K mg base (CXE P w) (k+1) t.f_times t.d_times ["one","two"] (spTwo K (· * ·)):=by
 refine T.F_times.okE sc_times (fun vs H Q E h=>?_) (fun cdv A outer s H vs Q E hr h=>?_)
 ·obtain⟨v,x,r,u,M,rfl,_⟩:=h
  rfl
 obtain⟨v,x,r,u,M,rfl,hv,hx,sa,sb,hM,q⟩:=h
 obtain⟨a,rfl,ha0⟩:=fr_inv hv
 obtain⟨b,rfl,hb0⟩:=fr_inv hx
 have ha:=hM.tup ha0
 have hb:=hM.tup hb0
 refine⟨_,(pss_one (ps_ret (pe_call G_made hr rfl T.m_made T.F_made.kp T.b_made .nil pass_no (pa_cons (pe_op op_mulB (pe_ix ix_tup (pv 0) pe_int (fun _ _=>rfl)) (pe_ix ix_tup (pv 1) pe_int (fun _ _=>rfl))) (pa_cons (pe_op op_mulB (pe_ix ix_tup (pv 0) pe_int (fun _ _=>rfl)) (pe_ix ix_tup (pv 1) pe_int (fun _ _=>rfl))) pa_nil))))),?_⟩
 refine⟨_,rfl,a,_,_,_,rfl,rfl,ha,fr_top r,_,rfl,b,_,_,_,rfl,rfl,hb,fr_top u,_,_,rfl,rfl,mul_nn sa sb (by decide),?_⟩
 refine⟨_,rfl,a,_,_,_,rfl,rfl,ha,fr_bot r,_,rfl,b,_,_,_,rfl,rfl,hb,fr_bot u,_,_,rfl,rfl,mul_dd sa sb (by decide),?_⟩
 refine⟨_,_,M,rfl,dd_ne r u,dd_small sa sb,hM,?_⟩
 rw[FM.mul_is]
 exact q
theorem dn_zero {r s:Rat}:(r.den:Int)*s.num=0↔s=0:=by
 rw[← FM.num_zero,Int.mul_eq_zero]
 have h:=FM.den_pos r
 constructor
 ·rintro (z | z)
  ·omega
  ·exact z
 ·exact .inr
theorem dn_small {r s:Rat} (h:FM.Sm 4000 r) (h2:FM.Sm 4000 s):((r.den:Int)*s.num).natAbs<2 ^ 9000:=FM.lt_mono (FM.mul_lt (sm_den h) h2.1) (by decide)
theorem ok_over (T:Txt K mg t) (G_made:FnOk P w K mg base (CXE P w) k t.f_made t.d_made ["top","bottom"] (spMade K)):FnOk P w K mg base (CXE P w) (k+1) t.f_over t.d_over ["one","two"] (spOver K):=by
 refine T.F_over.okE sc_over (fun vs H Q E h=>?_) (fun cdv A outer s H vs Q E hr h=>?_)
 ·obtain⟨v,x,r,u,M,rfl,_⟩:=h
  rfl
 obtain⟨v,x,r,u,M,rfl,hv,hx,sa,sb,hu,hM,q⟩:=h
 obtain⟨a,rfl,ha0⟩:=fr_inv hv
 obtain⟨b,rfl,hb0⟩:=fr_inv hx
 have ha:=hM.tup ha0
 have hb:=hM.tup hb0
 refine⟨_,(pss_one (ps_ret (pe_call G_made hr rfl T.m_made T.F_made.kp T.b_made .nil pass_no (pa_cons (pe_op op_mulB (pe_ix ix_tup (pv 0) pe_int (fun _ _=>rfl)) (pe_ix ix_tup (pv 1) pe_int (fun _ _=>rfl))) (pa_cons (pe_op op_mulB (pe_ix ix_tup (pv 0) pe_int (fun _ _=>rfl)) (pe_ix ix_tup (pv 1) pe_int (fun _ _=>rfl))) pa_nil))))),?_⟩
 refine⟨_,rfl,a,_,_,_,rfl,rfl,ha,fr_top r,_,rfl,b,_,_,_,rfl,rfl,hb,fr_bot u,_,_,rfl,rfl,mul_nd sa sb (by decide),?_⟩
 refine⟨_,rfl,a,_,_,_,rfl,rfl,ha,fr_bot r,_,rfl,b,_,_,_,rfl,rfl,hb,fr_top u,_,_,rfl,rfl,mul_dn sa sb (by decide),?_⟩
 refine⟨_,_,M,rfl,fun z=>hu (dn_zero.mp z),dn_small sa sb,hM,?_⟩
 rw[FM.div_is]
 exact q
theorem ok_opposite (T:Txt K mg t):FnOk P w K mg base CX0 (k+1) t.f_opposite t.d_opposite ["fraction"] (spOpp K):=by
 refine T.F_opposite.ok sc_opposite (fun vs H Q E h=>?_) (fun cdv A outer s H vs Q E hr h=>?_)
 ·obtain⟨v,r,M,rfl,_⟩:=h
  rfl
 obtain⟨v,r,M,rfl,hv,hM,q⟩:=h
 obtain⟨a,rfl,ha0⟩:=fr_inv hv
 have ha:=hM.tup ha0
 refine⟨_,(pss_one (ps_ret (pe_tup (pa_cons (pe_un un_neg (pe_ix ix_tup (pv 0) pe_int (fun _ _=>rfl))) (pa_cons (pe_ix ix_tup (pv 0) pe_int (fun _ _=>rfl)) pa_nil))))),?_⟩
 refine⟨_,rfl,a,_,_,_,rfl,rfl,ha,fr_top r,_,rfl,_,rfl,a,_,_,_,rfl,rfl,ha,fr_bot r,two_ok,fun p hp=>?_⟩
 refine q _ _ _ ((Gr.refl hM).add hp) (pT_mk (SqT.of ?_))
 rw[upd_same,Rat.neg_num,Rat.neg_den]
theorem sm_mono {m n:Nat} {r:Rat} (h:FM.Sm m r) (e:m≤n):FM.Sm n r:=⟨FM.lt_mono h.1 e,FM.lt_mono h.2 e⟩
theorem sm_neg {n:Nat} {r:Rat} (h:FM.Sm n r):FM.Sm n (-r):=⟨by rw[Rat.neg_num,Int.natAbs_neg]; exact h.1,by rw[Rat.neg_den]; exact h.2⟩
theorem sm_one {n:Nat} (h:0<n):FM.Sm n 1:=by
 have:1<2 ^ n:=Nat.one_lt_two_pow (by omega)
 exact⟨this,this⟩
theorem one_T {M:Hp} (T:Txt K mg t):At K M (frT 1) (.ref t.k_ONE):=pT_mk (T.q_ONE M)
theorem nought_T {M:Hp} (T:Txt K mg t):At K M (frT 0) (.ref t.k_NOUGHT):=pT_mk (T.q_NOUGHT M)
end
end W1
namespace W1
open PySem PySem.Spec L2
section
variable {P:Program} {w:World} {K:PySem.W.Frag} {mg:Str→Option Value} {base:Heap} {t:Adr} {k:Nat}
theorem ats_range {M:Hp} {F:Nat→Tr} {n:Nat} {ys:List V} {ts:List Tr} (h:Ats K M ((List.range n).map F) ys) (e:ts.length=n) (f:∀ i t,ts[i]? = some t→F i=t):Ats K M ts ys:=by
 have:(List.range n).map F=ts:=by
  apply List.ext_getElem?
  intro i
  rw[List.getElem?_map]
  rcases Nat.lt_or_ge i n with q | q
  ·rw[List.getElem?_range q]
   show some (F i)=ts[i]?
   rw[List.getElem?_eq_getElem (by omega)]
   exact congrArg some (f i _ (List.getElem?_eq_getElem (by omega)))
  ·rw[List.getElem?_eq_none_iff.mpr (by simpa using q),List.getElem?_eq_none_iff.mpr (by omega)]
   rfl
 rw[← this]
 exact h
theorem ix_nat {α:Type} {xs:List α} {p:Nat} (h:p<xs.length):ixN xs.length (p:Int)=some p:=by
 unfold ixN
 rw[if_pos (Int.natCast_nonneg p),if_pos (Int.ofNat_lt.mpr h)]
 simp
theorem ok_solved_for (T:Txt K mg t) (G_opposite:FnOk P w K mg base (CXE P w) k t.f_opposite t.d_opposite ["fraction"] (spOpp K)) (G_over:FnOk P w K mg base (CXE P w) k t.f_over t.d_over ["one","two"] (spOver K)) :
  FnOk P w K mg base (CXE P w) (k+1) t.f_solved_for t.d_solved_for ["line","place"] (spSolved K):=by
 refine T.F_solved_for.okE sc_solved_for (fun vs H Q E h=>?_) (fun cdv A outer s H vs Q E hr h=>?_)
 ·obtain⟨v,l,p,a,M,rfl,_⟩:=h
  rfl
 obtain⟨v,l,p,a,M,rfl,hv,hp,ha,hlen,hsm,hM,q⟩:=h
 obtain⟨b,xs,rfl,hb,ats⟩:=hv.lst_inv
 have hbH:=hM _ _ hb
 obtain⟨xp,hxp,atp⟩:=ln_get ats hp
 have hpl:p<l.length:=(List.getElem?_eq_some_iff.mp hp).1
 have hxl:l.length=xs.length:=by have:=ats.1; simpa using this
 refine⟨_,(pss_cons (ps_set (i:=2) sc_solved_for.nd rfl (Or.inr rfl) (pe_call G_opposite hr rfl T.m_opposite T.F_opposite.kp T.b_opposite .nil pass_no (pa_cons (pe_ix ix_list (pv 0) (pv 1) (fun _ _=>rfl)) pa_nil)))
  (pss_cons (ps_compG (iy:=3) sc_solved_for.nd rfl (Or.inl rfl) rfl (compt_of (n:=1) (js:=[2]) (Nb:=["part","divisor"]) (by kernel_rfl) rfl (by decide +kernel) (by decide) (by kernel_rfl)) (pi_list (pv 0)) (fun C s0 H0 fp pn'=>(pg_name (i:=0) (nd_of (l:=["part","divisor"]) (by decide +kernel)) rfl (Or.inl rfl))) own_name (fun C s0 H0 fp pn'=>pts_none) (fun C s0 H0 fp pn'=>(pe_call G_over hr rfl T.m_over T.F_over.kp T.b_over .nil pass_no (pa_cons (pv 0) (pa_cons (pv 1) pa_nil)))))
  (pss_cons (ps_asg (pe_call G_over hr rfl T.m_over T.F_over.kp T.b_over .nil pass_no (pa_cons (pe_glob (v:=.ref t.k_ONE) rfl T.m_ONE rfl) (pa_cons (pe_ix ix_list (pv 0) (pv 1) (fun _ _=>rfl)) pa_nil))) (pg_sub (pv 3) (pv 1) set_list))
  (pss_one (ps_ret (pv 3)))))),?_⟩
 refine⟨_,rfl,_,rfl,b,_,_,_,rfl,rfl,SqL.of hbH,atI_nat hxp,_,a,M,rfl,atp,hM,fun dv M1 H1 g1 hd=>?_⟩
 refine⟨_,rfl,b,rfl,⟨_,SqL.of (g1.hh _ _ hbH)⟩,fun z hz=>cm_list (K:=K) (M:=M1) (F:=fun i=>frT (l.getD i 0 / -a)) g1.mh (g1.mm _ _ hb) (by omega) hz (fun i x Mi Hi Qy hx gi k=>?_) (fun M2 H2 ys g2 m2 hy at2=>?_)⟩
 ·obtain⟨r,hr0,atr⟩:=ln_get' ats hx
  refine⟨_,rfl,_,rfl,_,_,r,-a,Mi,rfl,atr.mono (g1.mm.trans gi.mm),hd.mono gi.mm,sm_mono (hsm r (List.mem_of_getElem? hr0)) (by decide),sm_neg (sm_mono (hsm a (List.mem_of_getElem? hp)) (by decide)),fun z=>ha (by grind),gi.mh,fun y M4 H4 g4 t4=>k y M4 H4 g4 ?_⟩
  rw[SH.getD_of hr0]
  exact t4
 have at3:Ats K M2 ((l.map fun x=>x / -a).map frT) ys:=ats_range at2 (by simp[hxl]) fun i t ht=>by
  rw[List.getElem?_map,List.getElem?_map] at ht
  cases e:l[i]? with
  | none=>rw[e] at ht; cases ht
  | some r=>rw[e] at ht; cases ht; rw[SH.getD_of e]
 have gr2:=g1.trans g2
 have hb2:=gr2.hh _ _ hbH
 refine⟨_,rfl,_,rfl,b,_,_,_,rfl,rfl,SqL.of hb2,atI_nat hxp,_,_,1,a,M2,rfl,one_T T,atp.mono gr2.mm,sm_one (by decide),sm_mono (hsm a (List.mem_of_getElem? hp)) (by decide),ha,g2.mh,fun ov M5 H5 g5 h5=>?_⟩
 have m5:M5 z=none:=g5.fr _ _ hy m2
 have hz0:H z=none:=g1.hfree hz
 have hyl:ys.length=l.length:=by have:=at3.1; simpa using this.symm
 refine⟨_,rfl,_,rfl,z,ys,p,p,rfl,rfl,g5.hh _ _ hy,ix_nat (by rw[hyl]; exact hpl),?_⟩
 refine⟨_,rfl,?_⟩
 have gf:Gr M H (upd M5 z (.lst (ys.set p ov))) (upd H5 z (.lst (ys.set p ov))):=((gr2.trans g5).put hz0 m5 (g5.hh _ _ hy)).frz hz0 m5 upd_same
 refine q _ _ _ gf (Ats.lst (xs:=ys.set p ov) ?_ upd_same)
 have:(SH.told l p).map frT=((l.map fun x=>x / -a).map frT).set p (frT (1 / a)):=by
  unfold SH.told
  rw[SH.getD_of hp,List.map_set]
 rw[this]
 exact (((at3.mono g5.mm).set h5 p)).mono (same_new m5 _)
theorem sm_mul {m n:Nat} {r s:Rat} (h:FM.Sm m r) (h2:FM.Sm n s):FM.Sm (m+n) (r*s):=by
 rw[← FM.mul_is]
 refine⟨Nat.lt_of_le_of_lt (FM.num_le (dd_ne r s)) (FM.mul_lt h.1 h2.1),Nat.lt_of_le_of_lt (FM.den_le (dd_ne r s)) (FM.mul_lt (sm_den h) (sm_den h2))⟩
theorem ok_with_put_in (T:Txt K mg t) (G_plus:FnOk P w K mg base (CXE P w) k t.f_plus t.d_plus ["one","two"] (spTwo K (· + ·))) (G_times:FnOk P w K mg base (CXE P w) k t.f_times t.d_times ["one","two"] (spTwo K (· * ·))) :
  FnOk P w K mg base (CXE P w) (k+1) t.f_with_put_in t.d_with_put_in ["line","place","told"] (spPut K):=by
 refine T.F_with_put_in.okE sc_with_put_in (fun vs H Q E h=>?_) (fun cdv A outer s H vs Q E hr h=>?_)
 ·obtain⟨v,x,l,u,p,c,d,M,rfl,_⟩:=h
  rfl
 obtain⟨v,x,l,u,p,c,d,M,rfl,hv,hw,hc,hd,hlu,hlen,sl,su,hM,q⟩:=h
 obtain⟨b,xs,rfl,hb,ats⟩:=hv.lst_inv
 obtain⟨b2,zs,rfl,hb2,ats2⟩:=hw.lst_inv
 have hbH:=hM _ _ hb
 have hbH2:=hM _ _ hb2
 obtain⟨xp,hxp,atp⟩:=ln_get ats hc
 obtain⟨zp,hzp,atz⟩:=ln_get ats2 hd
 have hpl:p<l.length:=(List.getElem?_eq_some_iff.mp hc).1
 have hxl:l.length=xs.length:=by have:=ats.1; simpa using this
 have hzl:u.length=zs.length:=by have:=ats2.1; simpa using this
 have sc:=sl c (List.mem_of_getElem? hc)
 have sd:=su d (List.mem_of_getElem? hd)
 refine⟨_,(pss_cons (ps_set (i:=3) sc_with_put_in.nd rfl (Or.inr rfl) (pe_ix ix_list (pv 0) (pv 1) (fun _ _=>rfl)))
  (pss_cons (ps_compG (iy:=4) sc_with_put_in.nd rfl (Or.inl rfl) rfl (compt_of (n:=2) (js:=[3]) (Nb:=["part","other","factor"]) (by kernel_rfl) rfl (by decide +kernel) (by decide) (by kernel_rfl)) (pi_zip rfl T.n_zip (pa_cons (pv 0) (pa_cons (pv 2) pa_nil))) (fun C s0 H0 fp pn'=>(pg_tup (n:=2) rfl (pgs_cons (pg_name (i:=0) (nd_of (l:=["part","other","factor"]) (by decide +kernel)) rfl (Or.inl rfl)) (pgs_cons (pg_name (i:=1) (nd_of (l:=["part","other","factor"]) (by decide +kernel)) rfl (Or.inl rfl)) pgs_nil)))) own_pair (fun C s0 H0 fp pn'=>pts_none) (fun C s0 H0 fp pn'=>(pe_call G_plus hr rfl T.m_plus T.F_plus.kp T.b_plus .nil pass_no (pa_cons (pv 0) (pa_cons (pe_call G_times hr rfl T.m_times T.F_times.kp T.b_times .nil pass_no (pa_cons (pv 2) (pa_cons (pv 1) pa_nil))) pa_nil)))))
  (pss_cons (ps_asg (pe_call G_times hr rfl T.m_times T.F_times.kp T.b_times .nil pass_no (pa_cons (pv 3) (pa_cons (pe_ix ix_list (pv 2) (pv 1) (fun _ _=>rfl)) pa_nil))) (pg_sub (pv 4) (pv 1) set_list))
  (pss_one (ps_ret (pv 4)))))),?_⟩
 refine⟨_,rfl,_,rfl,b,_,_,_,rfl,rfl,SqL.of hbH,atI_nat hxp,?_⟩
 refine⟨_,rfl,_,rfl,b,b2,xs,zs,rfl,SqL.of hbH,SqL.of hbH2,fun z hz=>cm_zip (K:=K) (M:=M) (F:=fun i=>frT (l.getD i 0+c*u.getD i 0)) hM hb hb2 (by omega) (by omega) hz (fun i y1 y2 Mi Hi Qy hy1 hy2 gi k=>?_) (fun M2 H2 ys g2 m2 hy at2=>?_)⟩
 ·obtain⟨r,hr0,atr⟩:=ln_get' ats hy1
  obtain⟨r2,hr2,atr2⟩:=ln_get' ats2 hy2
  refine⟨_,rfl,_,rfl,_,rfl,_,_,c,r2,Mi,rfl,atp.mono gi.mm,atr2.mono gi.mm,sm_mono sc (by decide),sm_mono (su r2 (List.mem_of_getElem? hr2)) (by decide),gi.mh,fun y3 M3 H3 g3 h3=>?_⟩
  refine⟨_,_,r,c*r2,M3,rfl,atr.mono (gi.mm.trans g3.mm),h3,sm_mono (sl r (List.mem_of_getElem? hr0)) (by decide),sm_mono (sm_mul sc (su r2 (List.mem_of_getElem? hr2))) (by decide),g3.mh,fun y M4 H4 g4 t4=>k y M4 H4 (g3.trans g4) ?_⟩
  rw[SH.getD_of hr0,SH.getD_of hr2]
  exact t4
 have at3:Ats K M2 ((List.zipWith (fun a b=>a+c*b) l u).map frT) ys:=ats_range at2 (by simp; omega) fun i t ht=>by
  rw[List.getElem?_map,List.getElem?_zipWith] at ht
  cases e:l[i]? with
  | none=>rw[e] at ht; cases ht
  | some r=>
   cases e2:u[i]? with
   | none=>rw[e,e2] at ht; cases ht
   | some r2=>rw[e,e2] at ht; cases ht; rw[SH.getD_of e,SH.getD_of e2]
 refine⟨_,rfl,_,rfl,_,rfl,b2,_,_,_,rfl,rfl,SqL.of (g2.hh _ _ hbH2),atI_nat hzp,_,_,c,d,M2,rfl,atp.mono g2.mm,atz.mono g2.mm,sm_mono sc (by decide),sm_mono sd (by decide),g2.mh,fun ov M5 H5 g5 h5=>?_⟩
 have m5:M5 z=none:=g5.fr _ _ hy m2
 have hyl:ys.length=l.length:=by have:=at3.1; simp at this; omega
 refine⟨_,rfl,_,rfl,z,ys,p,p,rfl,rfl,g5.hh _ _ hy,ix_nat (by rw[hyl]; exact hpl),?_⟩
 refine⟨_,rfl,?_⟩
 have gf:Gr M H (upd M5 z (.lst (ys.set p ov))) (upd H5 z (.lst (ys.set p ov))):=((g2.trans g5).put hz m5 (g5.hh _ _ hy)).frz hz m5 upd_same
 refine q _ _ _ gf (Ats.lst (xs:=ys.set p ov) ?_ upd_same)
 have:(SH.putIn l p u).map frT=((List.zipWith (fun a b=>a+c*b) l u).map frT).set p (frT (c*d)):=by
  unfold SH.putIn
  rw[SH.getD_of hc,SH.getD_of hd,List.map_set]
 rw[this]
 exact (((at3.mono g5.mm).set h5 p)).mono (same_new m5 _)
end
end W1
namespace W1
open PySem PySem.Spec L2
def fl (v1 v2 v3 v4:V):List (Str × V):=putF "goal" v4 (putF "lines" v3 (putF "outer" v2 (putF "inner" v1 [])))
theorem fl_inner (v1 v2 v3 v4:V):(fl v1 v2 v3 v4).lookup ("inner" : Str)=some v1:=by
 unfold fl
 rw[lookup_putF,if_neg (by decide +kernel),lookup_putF,if_neg (by decide +kernel),lookup_putF,if_neg (by decide +kernel),lookup_putF,if_pos rfl]
theorem fl_outer (v1 v2 v3 v4:V):(fl v1 v2 v3 v4).lookup ("outer" : Str)=some v2:=by
 unfold fl
 rw[lookup_putF,if_neg (by decide +kernel),lookup_putF,if_neg (by decide +kernel),lookup_putF,if_pos rfl]
theorem fl_lines (v1 v2 v3 v4:V):(fl v1 v2 v3 v4).lookup ("lines" : Str)=some v3:=by
 unfold fl
 rw[lookup_putF,if_neg (by decide +kernel),lookup_putF,if_pos rfl]
theorem fl_goal (v1 v2 v3 v4:V):(fl v1 v2 v3 v4).lookup ("goal" : Str)=some v4:=by
 unfold fl
 rw[lookup_putF,if_pos rfl]
theorem putF_le (f:Str) (v:V):∀ fs:List (Str × V),(putF f v fs).length≤fs.length+1
 | []=>by simp[putF]
 | p :: r=>by
  have:=putF_le f v r
  unfold putF
  split <;> simp <;> omega
def ShAt (K:PySem.W.Frag) (C:Addr) (M:Hp) (s:SH.Sh) (v:V):Prop:=∃ a dx v1 v2 v3 v4,v = .ref a∧M a=some (.ins C dx (fl v1 v2 v3 v4))∧At K M (intsT s.inn) v1∧At K M (intsT s.out) v2∧At K M (lnsT s.ln) v3∧At K M (lnT s.gl) v4
theorem ShAt.mono {K:PySem.W.Frag} {C:Addr} {M M':Hp} {s:SH.Sh} {v:V} (e:Same M M') (h:ShAt K C M s v):ShAt K C M' s v:=by
 obtain⟨a,dx,v1,v2,v3,v4,rfl,h0,h1,h2,h3,h4⟩:=h
 exact⟨a,dx,v1,v2,v3,v4,rfl,e _ _ h0,h1.mono e,h2.mono e,h3.mono e,h4.mono e⟩
theorem made_gr {M H M1 H1:Hp} {x dx:Addr} {o0 o:HO} (g:Gr M H M1 H1) (hx:H1 x=none) (hd:H1 dx=none) (ne:dx≠x):Gr M H (upd M1 x o) (upd (upd (upd H1 dx (.own x)) x o0) x o):=by
 rw[upd_upd]
 have g1:Gr M H M1 (upd H1 dx (.own x)):=g.new hd
 exact g1.add (by rw[upd_ne (Ne.symm ne)]; exact hx)
def spInit (C:Addr):Sp:=fun vs H Q _=>∃ (p dx:Addr) (v1 v2 v3 v4:V),vs=[.ref p,v1,v2,v3,v4]∧H p=some (.ins C dx [])∧Q .non (upd H p (.ins C dx (fl v1 v2 v3 v4)))
def Sz (s:SH.Sh):Prop:=∀ l,(l∈s.ln∨l=s.gl)→SmL 1000 l
def spExch (K:PySem.W.Frag) (C:Addr):Sp:=fun vs H Q _=>∃ (v:V) (s:SH.Sh) (r p:Nat) (u n:Int) (l:List Rat) (a:Rat) (M:Hp),vs=[v,.int r,.int p]∧ShAt K C M s v∧s.Ok∧s.At r p u n l a∧Sz s∧Sz (s.exch r p)∧s.inn.length≤100∧s.out.length≤100∧Same M H ∧
 ∀ (x:V) (M' H':Hp),Gr M H M' H'→ShAt K C M' (s.exch r p) x→Q x H'
section
variable {P:Program} {w:World} {K:PySem.W.Frag} {mg:Str→Option Value} {base:Heap} {t:Adr} {k:Nat}
theorem ok_init (T:Txt K mg t):FnOk P w K mg base CX0 (k+1) t.f_Sheet___init__ t.d_Sheet___init__ ["self","inner","outer","lines","goal"] (spInit t.c_Sheet):=by
 refine T.F_Sheet___init__.ok sc_Sheet___init__ (fun vs H Q E h=>?_) (fun cdv A outer s H vs Q E hr h=>?_)
 ·obtain⟨p,dx,v1,v2,v3,v4,rfl,_⟩:=h
  rfl
 obtain⟨p,dx,v1,v2,v3,v4,rfl,hp,q⟩:=h
 refine⟨_,(pss_cons (ps_fld (pv 0) (pv 1) rfl)
  (pss_cons (ps_fld (pv 0) (pv 2) rfl)
  (pss_cons (ps_fld (pv 0) (pv 3) rfl)
  (pss_one (ps_fld (pv 0) (pv 4) rfl))))),?_⟩
 have n1:=putF_le "inner" v1 []
 have n2:=putF_le "outer" v2 (putF "inner" v1 [])
 have n3:=putF_le "lines" v3 (putF "outer" v2 (putF "inner" v1 []))
 simp only [List.length_nil] at n1
 refine⟨_,rfl,_,rfl,p,t.c_Sheet,dx,_,rfl,hp,T.cl_Sheet,T.na_Sheet_inner,(by show 0<1000; decide),?_⟩
 refine⟨_,rfl,_,rfl,p,t.c_Sheet,dx,_,rfl,upd_same,T.cl_Sheet,T.na_Sheet_outer,(by omega),?_⟩
 refine⟨_,rfl,_,rfl,p,t.c_Sheet,dx,_,rfl,upd_same,T.cl_Sheet,T.na_Sheet_lines,(by omega),?_⟩
 refine⟨_,rfl,_,rfl,p,t.c_Sheet,dx,_,rfl,upd_same,T.cl_Sheet,T.na_Sheet_goal,(by omega),?_⟩
 rw[upd_upd,upd_upd,upd_upd]
 exact q
theorem lns_get {M:Hp} {L:List (List Rat)} {xs:List V} {i:Nat} {l:List Rat} (h:Ats K M (L.map lnT) xs) (e:L[i]? = some l):∃ x,xs[i]? = some x∧At K M (lnT l) x:=h.get (by rw[List.getElem?_map,e]; rfl)
theorem lns_get' {M:Hp} {L:List (List Rat)} {xs:List V} {i:Nat} {x:V} (h:Ats K M (L.map lnT) xs) (e:xs[i]? = some x):∃ l,L[i]? = some l∧At K M (lnT l) x:=by
 obtain⟨t,ht,a⟩:=h.get' e
 rw[List.getElem?_map] at ht
 cases q:L[i]? with
 | none=>rw[q] at ht; cases ht
 | some l=>rw[q] at ht; cases ht; exact⟨l,rfl,a⟩
theorem ok_exchanged (T:Txt K mg t) (G_Sheet___init__:FnOk P w K mg base (CXE P w) k t.f_Sheet___init__ t.d_Sheet___init__ ["self","inner","outer","lines","goal"] (spInit t.c_Sheet))
  (G_solved_for:FnOk P w K mg base (CXE P w) (k+1) t.f_solved_for t.d_solved_for ["line","place"] (spSolved K)) (G_with_put_in:FnOk P w K mg base (CXE P w) (k+1) t.f_with_put_in t.d_with_put_in ["line","place","told"] (spPut K)) :
  FnOk P w K mg base (CXE P w) (k+2) t.f_exchanged t.d_exchanged ["sheet","row","place"] (spExch K t.c_Sheet):=by
 refine T.F_exchanged.okE sc_exchanged (fun vs H Q E h=>?_) (fun cdv A outer s H vs Q E hr h=>?_)
 ·obtain⟨v,z,r,p,u,n,l,a,M,rfl,_⟩:=h
  rfl
 obtain⟨v,z,r,p,u,n,l,a,M,rfl,hv,ok,at_,sz,sz2,hm,hn,hM,q⟩:=h
 obtain⟨o,dx,v1,v2,v3,v4,rfl,ho,h1,h2,h3,h4⟩:=hv
 have hoH:=hM _ _ ho
 obtain⟨b1,x1,rfl,hb1,a1⟩:=h1.lst_inv
 obtain⟨b2,x2,rfl,hb2,a2⟩:=h2.lst_inv
 obtain⟨b3,x3,rfl,hb3,a3⟩:=h3.lst_inv
 have e1:=Ats.ints_inv a1
 have e2:=Ats.ints_inv a2
 subst e1 e2
 obtain⟨vl,hvl,atl⟩:=lns_get a3 at_.hl
 have hr':r<z.inn.length:=(List.getElem?_eq_some_iff.mp at_.hu).1
 have hp':p<z.out.length:=(List.getElem?_eq_some_iff.mp at_.hv).1
 have hll:=ok.wd l (List.mem_of_getElem? at_.hl)
 have ht:SH.told l p∈(z.exch r p).ln:=by
  rw[SH.Sh.exch_eq at_]
  exact List.mem_iff_getElem?.mpr ⟨r,by simp[ok.ln,hr']⟩
 have st:=sz2 _ (.inl ht)
 have htl:(SH.told l p).length=z.out.length+1:=by rw[SH.told_len,hll]
 have l3:x3.length=z.inn.length:=by have:=a3.1; simp at this; rw[← this,ok.ln]
 refine⟨_,(pss_cons (ps_set (i:=3) sc_exchanged.nd rfl (Or.inr rfl) (pe_call G_solved_for hr rfl T.m_solved_for T.F_solved_for.kp T.b_solved_for .nil pass_no (pa_cons (pe_ix ix_list (pe_fld (pv 0) rfl) (pv 1) (fun _ _=>rfl)) (pa_cons (pv 2) pa_nil))))
  (pss_cons (ps_compG (iy:=4) sc_exchanged.nd rfl (Or.inl rfl) rfl (compt_of (n:=1) (js:=[2,3]) (Nb:=["line","place","told"]) (by kernel_rfl) rfl (by decide +kernel) (by decide) (by kernel_rfl)) (pi_list (pe_fld (pv 0) rfl)) (fun C s0 H0 fp pn'=>(pg_name (i:=0) (nd_of (l:=["line","place","told"]) (by decide +kernel)) rfl (Or.inl rfl))) own_name (fun C s0 H0 fp pn'=>pts_none) (fun C s0 H0 fp pn'=>(pe_call G_with_put_in hr rfl T.m_with_put_in T.F_with_put_in.kp T.b_with_put_in .nil pass_no (pa_cons (pv 0) (pa_cons (pv 1) (pa_cons (pv 2) pa_nil))))))
  (pss_cons (ps_asg (pv 3) (pg_sub (pv 4) (pv 1) set_list))
  (pss_cons (ps_set (i:=5) sc_exchanged.nd rfl (Or.inl rfl) (pe_call G_with_put_in hr rfl T.m_with_put_in T.F_with_put_in.kp T.b_with_put_in .nil pass_no (pa_cons (pe_fld (pv 0) rfl) (pa_cons (pv 2) (pa_cons (pv 3) pa_nil)))))
  (pss_cons (ps_set (i:=6) sc_exchanged.nd rfl (Or.inl rfl) (pe_callTy call_list_of rfl T.n_list bt_list (pa_cons (pe_fld (pv 0) rfl) pa_nil)))
  (pss_cons (ps_asg (pe_ix ix_list (pe_fld (pv 0) rfl) (pv 2) (fun _ _=>rfl)) (pg_sub (pv 6) (pv 1) set_list))
  (pss_cons (ps_set (i:=7) sc_exchanged.nd rfl (Or.inl rfl) (pe_callTy call_list_of rfl T.n_list bt_list (pa_cons (pe_fld (pv 0) rfl) pa_nil)))
  (pss_cons (ps_asg (pe_ix ix_list (pe_fld (pv 0) rfl) (pv 1) (fun _ _=>rfl)) (pg_sub (pv 7) (pv 2) set_list))
  (pss_one (ps_ret (pe_make T.k_Sheet G_Sheet___init__ hr rfl T.m_Sheet T.b_Sheet___init__ .nil pass_no (pa_cons (pv 6) (pa_cons (pv 7) (pa_cons (pv 4) (pa_cons (pv 5) pa_nil))))))))))))))),?_⟩
 refine⟨_,rfl,o,_,dx,_,_,rfl,hoH,T.cl_Sheet,T.na_Sheet_lines,fl_lines _ _ _ _,_,rfl,b3,_,_,_,rfl,rfl,SqL.of (hM _ _ hb3),atI_nat hvl,_,rfl,_,l,p,a,M,rfl,atl,at_.ha,at_.nz,by omega,sz l (.inl (List.mem_of_getElem? at_.hl)),hM,fun tv M1 H1 g1 t1=>?_⟩
 refine⟨_,rfl,o,_,dx,_,_,rfl,g1.hh _ _ hoH,T.cl_Sheet,T.na_Sheet_lines,fl_lines _ _ _ _,b3,rfl,⟨_,SqL.of (g1.hh _ _ (hM _ _ hb3))⟩,fun y hy=>cm_list (K:=K) (M:=M1) (F:=fun i=>lnT (SH.putIn (z.ln.getD i []) p (SH.told l p))) g1.mh (g1.mm _ _ hb3) (by omega) hy (fun i x Mi Hi Qy hx gi kk=>?_) (fun M2 H2 ys g2 m2 hys at2=>?_)⟩
 ·obtain⟨l',hl',atl'⟩:=lns_get' a3 hx
  have hw:=ok.wd l' (List.mem_of_getElem? hl')
  refine⟨_,rfl,_,rfl,_,rfl,_,_,l',SH.told l p,p,l'[p]'(by omega),(SH.told l p)[p]'(by omega),Mi,rfl,atl'.mono (g1.mm.trans gi.mm),t1.mono gi.mm,List.getElem?_eq_getElem (by omega),List.getElem?_eq_getElem (by omega),by omega,by omega,sz l' (.inl (List.mem_of_getElem? hl')),st,gi.mh,fun yv M4 H4 g4 t4=>kk yv M4 H4 g4 ?_⟩
  rw[SH.gD hl']
  exact t4
 have at3:Ats K M2 ((z.ln.map fun l'=>SH.putIn l' p (SH.told l p)).map lnT) ys:=ats_range at2 (by simp[ok.ln,l3]) fun i t ht=>by
  rw[List.getElem?_map,List.getElem?_map] at ht
  cases e:z.ln[i]? with
  | none=>rw[e] at ht; cases ht
  | some r=>rw[e] at ht; cases ht; rw[SH.gD e]
 have gr2:=g1.trans g2
 have hy0:H y=none:=g1.hfree hy
 have hyl:ys.length=z.inn.length:=by have:=at3.1; simp at this; rw[← this,ok.ln]
 refine⟨_,rfl,_,rfl,_,rfl,y,ys,r,r,rfl,rfl,hys,ix_nat (by rw[hyl]; exact hr'),?_⟩
 have at4:Ats K M2 ((z.exch r p).ln.map lnT) (ys.set r tv):=by
  rw[SH.Sh.exch_eq at_]
  show Ats K M2 (((z.ln.map fun l'=>SH.putIn l' p (SH.told l p)).set r (SH.told l p)).map lnT) _
  rw[List.map_set]
  exact at3.set (t1.mono g2.mm) r
 have g3:Gr M H (upd M2 y (.lst (ys.set r tv))) (upd H2 y (.lst (ys.set r tv))):=(gr2.put hy0 m2 hys).frz hy0 m2 upd_same
 have at5:At K (upd M2 y (.lst (ys.set r tv))) (lnsT (z.exch r p).ln) (.ref y):=(at4.mono (same_new m2 _)).lst upd_same
 have t3:=(t1.mono g2.mm).mono (same_new m2 (.lst (ys.set r tv)))
 generalize upd M2 y (.lst (ys.set r tv))=M3 at g3 at5 t3
 generalize upd H2 y (.lst (ys.set r tv))=H3 at g3 ⊢
 refine⟨_,rfl,o,_,dx,_,_,rfl,g3.hh _ _ hoH,T.cl_Sheet,T.na_Sheet_goal,fl_goal _ _ _ _,_,rfl,_,rfl,_,_,z.gl,SH.told l p,p,z.gl[p]'(by rw[ok.gl]; omega),(SH.told l p)[p]'(by omega),M3,rfl,h4.mono g3.mm,t3,List.getElem?_eq_getElem (by rw[ok.gl]; omega),List.getElem?_eq_getElem (by omega),by rw[ok.gl]; omega,by rw[ok.gl]; omega,sz _ (.inr rfl),st,g3.mh,fun gv M5 H5 g5 t5=>?_⟩
 have g35:=g3.trans g5
 refine⟨_,rfl,o,_,dx,_,_,rfl,g35.hh _ _ hoH,T.cl_Sheet,T.na_Sheet_inner,fl_inner _ _ _ _,b1,_,rfl,.inl (SqL.of (g35.hh _ _ (hM _ _ hb1))),fun y1 hy1=>?_⟩
 have o2:∀ {c:Addr} {ob:HO},H c=some ob→NT ob→upd H5 y1 (.lst (z.inn.map V.int)) c=some ob:=fun e nt=>by
  have e5:=g35.hh _ _ e nt
  rw[upd_ne (ne_of_none e5 hy1)]
  exact e5
 refine⟨_,rfl,o,_,dx,_,_,rfl,o2 hoH trivial,T.cl_Sheet,T.na_Sheet_outer,fl_outer _ _ _ _,_,rfl,b2,_,_,_,rfl,rfl,SqL.of (o2 (hM _ _ hb2) trivial),atI_nat (show (z.out.map V.int)[p]? = some (.int n) by rw[List.getElem?_map,at_.hv]; rfl),_,rfl,_,rfl,y1,_,_,r,rfl,rfl,upd_same,ix_nat (by simpa using hr'),?_⟩
 rw[upd_upd]
 have hy10:H y1=none:=g35.hfree hy1
 have g6:Gr M H (upd M5 y1 (.lst ((z.inn.map V.int).set r (.int n)))) (upd H5 y1 (.lst ((z.inn.map V.int).set r (.int n)))):=g35.add hy1
 have m5y:M5 y1=none:=g5.mh.free hy1
 have at6:At K (upd M5 y1 (.lst ((z.inn.map V.int).set r (.int n)))) (intsT (z.inn.set r n)) (.ref y1):=by
  refine Ats.lst (xs:=(z.inn.map V.int).set r (.int n)) ?_ upd_same
  have:((z.inn.map V.int).set r (.int n))=(z.inn.set r n).map V.int:=by rw[List.map_set]
  rw[this]
  exact Ats.ints _
 have s56:Same M5 (upd M5 y1 (.lst ((z.inn.map V.int).set r (.int n)))):=same_new m5y _
 generalize upd M5 y1 (.lst ((z.inn.map V.int).set r (.int n)))=M6 at g6 at6 s56
 generalize upd H5 y1 (.lst ((z.inn.map V.int).set r (.int n)))=H6 at g6 ⊢
 refine⟨_,rfl,o,_,dx,_,_,rfl,g6.hh _ _ hoH,T.cl_Sheet,T.na_Sheet_outer,fl_outer _ _ _ _,b2,_,rfl,.inl (SqL.of (g6.hh _ _ (hM _ _ hb2))),fun y2 hy2=>?_⟩
 have o3:∀ {c:Addr} {ob:HO},H c=some ob→NT ob→upd H6 y2 (.lst (z.out.map V.int)) c=some ob:=fun e nt=>by
  have e5:=g6.hh _ _ e nt
  rw[upd_ne (ne_of_none e5 hy2)]
  exact e5
 refine⟨_,rfl,o,_,dx,_,_,rfl,o3 hoH trivial,T.cl_Sheet,T.na_Sheet_inner,fl_inner _ _ _ _,_,rfl,b1,_,_,_,rfl,rfl,SqL.of (o3 (hM _ _ hb1) trivial),atI_nat (show (z.inn.map V.int)[r]? = some (.int u) by rw[List.getElem?_map,at_.hu]; rfl),_,rfl,_,rfl,y2,_,_,p,rfl,rfl,upd_same,ix_nat (by simpa using hp'),?_⟩
 rw[upd_upd]
 have g7:Gr M H (upd M6 y2 (.lst ((z.out.map V.int).set p (.int u)))) (upd H6 y2 (.lst ((z.out.map V.int).set p (.int u)))):=g6.add hy2
 have m6y:M6 y2=none:=g6.mh.free hy2
 have at7:At K (upd M6 y2 (.lst ((z.out.map V.int).set p (.int u)))) (intsT (z.out.set p u)) (.ref y2):=by
  refine Ats.lst (xs:=(z.out.map V.int).set p (.int u)) ?_ upd_same
  have:((z.out.map V.int).set p (.int u))=(z.out.set p u).map V.int:=by rw[List.map_set]
  rw[this]
  exact Ats.ints _
 have s67:Same M6 (upd M6 y2 (.lst ((z.out.map V.int).set p (.int u)))):=same_new m6y _
 generalize upd M6 y2 (.lst ((z.out.map V.int).set p (.int u)))=M7 at g7 at7 s67
 generalize upd H6 y2 (.lst ((z.out.map V.int).set p (.int u)))=H7 at g7 ⊢
 refine⟨_,rfl,_,rfl,_,rfl,_,rfl,fun x dx2 nx nd ne=>⟨x,dx2,_,_,_,_,rfl,upd_same,rfl,?_⟩⟩
 have g8:=made_gr (o0:=.ins t.c_Sheet dx2 []) (o:=.ins t.c_Sheet dx2 (fl (.ref y1) (.ref y2) (.ref y) gv)) g7 nx nd ne
 have m7x:M7 x=none:=g7.mh.free nx
 have s78:Same M7 (upd M7 x (.ins t.c_Sheet dx2 (fl (.ref y1) (.ref y2) (.ref y) gv))):=same_new m7x _
 have s58:=s56.trans (s67.trans s78)
 refine q _ _ _ g8 ⟨x,dx2,_,_,_,_,rfl,upd_same,?_,?_,?_,?_⟩
 ·rw[SH.Sh.exch_eq at_]; exact at6.mono (s67.trans s78)
 ·rw[SH.Sh.exch_eq at_]; exact at7.mono s78
 ·exact at5.mono (g5.mm.trans s58)
 ·rw[SH.Sh.exch_eq at_]; exact t5.mono s58
end
end W1
namespace L2
open PySem PySem.Spec PyProof.Rows
def pickI (f:Nat→Bool) (n:Nat):List Int:=((List.range n).filter f).map fun (j:Nat)=>(j:Int)
theorem pickI_succ (f:Nat→Bool) (n:Nat):pickI f (n+1)=if f n=true then pickI f n++[(n:Int)] else pickI f n:=by
 unfold pickI
 rw[List.range_succ,List.filter_append,List.map_append]
 cases h:f n <;> simp[h]
theorem pickI_mem {f:Nat→Bool} {n:Nat} {j:Int}:j∈pickI f n↔∃ i:Nat,i<n∧f i=true∧j=(i:Int):=by
 unfold pickI
 simp only [List.mem_map,List.mem_filter,List.mem_range]
 constructor
 ·rintro⟨a,⟨h1,h2⟩,rfl⟩; exact⟨a,h1,h2,rfl⟩
 ·rintro⟨a,h1,h2,rfl⟩; exact⟨a,⟨h1,h2⟩,rfl⟩
theorem pickI_len (f:Nat→Bool) (n:Nat):(pickI f n).length≤n:=by
 unfold pickI
 rw[List.length_map]
 exact Nat.le_trans (List.length_filter_le _ _) (by simp)
theorem cm_pick {K:PySem.W.Frag} {M H1:Hp} {p a:Addr} {f:Nat→Bool} {xs:List V} {js:List Nat} {σ:St} {tc:TT} {G:Hp→Prop} (hs:Same M H1) (ha:M a=some (.lst xs)) (hl:xs.length≤1000) (hp:H1 p=none)
  (step:∀ i x H (Qb:Bool→Hp→Prop),xs[i]? = some x→Gr M H1 M H→Qb (f i) H→tc (((captN 2 js σ).set 0 (some (.int (i:Nat)))).set 1 (some x)) H Qb)
  (after:∀ H',Gr M H1 M H'→H' p=some (.lst ((pickI f xs.length).map V.int))→G H') :
  ∃ W:Nat→Nat→Hp→Prop,(∃ m,W 0 m (upd H1 p (.lst [])))∧∀ i m H,W i m H→((Ite K a).stop i H∧G H)∨((Ite K a).go i H∧∀ v H',(Ite K a).yld i H v H'→gTup K 2 (gCons (gName 0) (gCons (gName 1) gNil)) v (captN 2 js σ) H' fun σ2 H2=>tc σ2 H2 fun b H3=>if b=true then tVar 0 σ2 H3 (fun y H4=>∃ ys,H4 p=some (.lst ys)∧ys.length<sizeLine∧∃ m',m'<m∧W (i+1) m' (upd H4 p (.lst (ys++[y])))) else ∃ m',m'<m∧W (i+1) m' H3):=by
 refine⟨fun i m H=>i≤xs.length∧m=xs.length-i∧Gr M H1 M H∧H p=some (.lst ((pickI f i).map V.int)),⟨_,Nat.zero_le _,rfl,(Gr.refl hs).new hp,upd_same⟩,?_⟩
 rintro i m H ⟨hi,rfl,g,hy⟩
 have hsq:SqL K H a xs:=SqL.of (g.mh _ _ (g.mm _ _ ha))
 have mp:M p=none:=hs.free hp
 rcases Nat.lt_or_ge i xs.length with hlt | hge
 ·refine .inr ⟨⟨xs,xs[i],hsq,List.getElem?_eq_getElem hlt⟩,?_⟩
  rintro v H' ⟨T,x,hT,rfl,hx,rfl⟩
  refine⟨T,[.int (i:Nat),x],rfl,SqT.of upd_same,rfl,.int (i:Nat),[x],rfl,x,[],rfl,rfl,?_⟩
  have hTp:p≠T:=ne_of_none hy hT
  have g2:Gr M H1 M (upd H T (.tup [.int (i:Nat),x])):=g.new hT
  have hy2:(upd H T (.tup [.int (i:Nat),x])) p=some (.lst ((pickI f i).map V.int)):=by rw[upd_ne hTp]; exact hy
  refine step i x _ _ (hx xs hsq) g2 ?_
  cases hf:f i with
  | false=>
   rw[if_neg (by decide)]
   exact⟨xs.length-(i+1),by omega,hlt,rfl,g2,by rw[pickI_succ,hf]; exact hy2⟩
  | true=>
   rw[if_pos rfl]
   refine⟨.int (i:Nat),?_,_,hy2,small1000 ?_,xs.length-(i+1),by omega,hlt,rfl,g2.put hp mp hy2,?_⟩
   ·simp[captN]
   ·have:=pickI_len f i
    rw[List.length_map]; omega
   ·rw[upd_same,pickI_succ,hf,if_pos rfl,List.map_append]; rfl
 ·have:i=xs.length:=by omega
  subst this
  exact .inl ⟨⟨xs,hsq,Nat.le_refl _⟩,after H g hy⟩
end L2
namespace W1
open PySem PySem.Spec L2
def intssT (U:List (List Int)):Tr:=.lst (U.map intsT)
theorem frT_int (z:Int):frT (z:Rat)=pT z 1:=by
 unfold frT
 rw[Rat.num_intCast,Rat.den_intCast]; rfl
def spInF (K:PySem.W.Frag):Sp:=fun vs H Q _=>∃ (v:V) (l:List Int) (M:Hp),vs=[v]∧At K M (intsT l) v∧l.length≤200∧Same M H∧Res K M H (lnT (SH.qs l)) Q
def spStock (K:PySem.W.Frag):Sp:=fun vs H Q _=>∃ (v:V) (l:List Int) (a:Int) (M:Hp),vs=[v,.int a]∧At K M (intsT l) v∧l.length≤100∧Same M H∧Res K M H (lnT (SH.lineOf l a)) Q
def spFirst (K:PySem.W.Frag) (C:Addr):Sp:=fun vs H Q _=>∃ (v1 v2 v3:V) (U:List (List Int)) (am gn:List Int) (M:Hp),vs=[v1,v2,v3]∧At K M (intssT U) v1∧At K M (intsT am) v2∧At K M (intsT gn) v3∧SH.Task U am gn∧am.length≤100∧gn.length≤100∧Same M H ∧
 ∀ (x:V) (M' H':Hp),Gr M H M' H'→ShAt K C M' (SH.sh0 U am gn) x→Q x H'
section
variable {P:Program} {w:World} {K:PySem.W.Frag} {mg:Str→Option Value} {base:Heap} {t:Adr} {k:Nat}
theorem ok_in_fractions (T:Txt K mg t):FnOk P w K mg base (CXE P w) (k+1) t.f_in_fractions t.d_in_fractions ["numbers"] (spInF K):=by
 refine T.F_in_fractions.okE sc_in_fractions (fun vs H Q E h=>?_) (fun cdv A outer s H vs Q E hr h=>?_)
 ·obtain⟨v,l,M,rfl,_⟩:=h
  rfl
 obtain⟨v,l,M,rfl,hv,hlen,hM,q⟩:=h
 obtain⟨b,xs,rfl,hb,ats⟩:=hv.lst_inv
 have ex:=Ats.ints_inv ats
 subst ex
 refine⟨_,(pss_one (ps_ret (pe_compG rfl (compt_of (n:=1) (js:=[]) (Nb:=["number"]) (by kernel_rfl) rfl (by decide +kernel) (by decide) (by kernel_rfl)) (pi_list (pv 0)) (fun C s0 H0 fp pn'=>(pg_name (i:=0) (nd_of (l:=["number"]) (by decide +kernel)) rfl (Or.inl rfl))) own_name (fun C s0 H0 fp pn'=>pts_none) (fun C s0 H0 fp pn'=>(pe_tup (pa_cons (pv 0) (pa_cons pe_int pa_nil))))))),?_⟩
 refine⟨_,rfl,b,rfl,⟨_,SqL.of (hM _ _ hb)⟩,fun z hz=>cm_list (K:=K) (M:=M) (F:=fun i=>pT (l.getD i 0) 1) hM hb (by simp <;> omega) hz (fun i x Mi Hi Qy hx gi kk=>?_) (fun M2 H2 ys g2 m2 hy at2=>?_)⟩
 ·rw[List.getElem?_map] at hx
  cases e:l[i]? with
  | none=>rw[e] at hx; cases hx
  | some n=>
   rw[e] at hx
   cases hx
   refine⟨_,rfl,two_ok,fun p hp=>kk _ _ _ ((Gr.refl gi.mh).add hp) (pT_mk (SqT.of ?_))⟩
   rw[upd_same,SH.gD e]
 have at3:Ats K M2 ((SH.qs l).map frT) ys:=ats_range at2 (by simp[SH.qs]) fun i t ht=>by
  unfold SH.qs at ht
  rw[List.map_map,List.getElem?_map] at ht
  cases e:l[i]? with
  | none=>rw[e] at ht; cases ht
  | some n=>
   rw[e] at ht
   cases ht
   show pT (l.getD i 0) 1=frT (n:Rat)
   rw[SH.gD e,frT_int]
 exact q _ _ _ (g2.frz hz m2 hy) ((at3.mono (same_new m2 _)).lst upd_same)
theorem ok_stock_line (T:Txt K mg t) (G_in_fractions:FnOk P w K mg base (CXE P w) k t.f_in_fractions t.d_in_fractions ["numbers"] (spInF K)):FnOk P w K mg base (CXE P w) (k+1) t.f_stock_line t.d_stock_line ["row","amount"] (spStock K):=by
 refine T.F_stock_line.okE sc_stock_line (fun vs H Q E h=>?_) (fun cdv A outer s H vs Q E hr h=>?_)
 ·obtain⟨v,l,a,M,rfl,_⟩:=h
  rfl
 obtain⟨v,l,a,M,rfl,hv,hlen,hM,q⟩:=h
 obtain⟨b,xs,rfl,hb,ats⟩:=hv.lst_inv
 have ex:=Ats.ints_inv ats
 subst ex
 refine⟨_,(pss_one (ps_ret (pe_call G_in_fractions hr rfl T.m_in_fractions T.F_in_fractions.kp T.b_in_fractions .nil pass_no (pa_cons (pe_op op_cat (pe_compG rfl (compt_of (n:=1) (js:=[]) (Nb:=["use"]) (by kernel_rfl) rfl (by decide +kernel) (by decide) (by kernel_rfl)) (pi_list (pv 0)) (fun C s0 H0 fp pn'=>(pg_name (i:=0) (nd_of (l:=["use"]) (by decide +kernel)) rfl (Or.inl rfl))) own_name (fun C s0 H0 fp pn'=>pts_none) (fun C s0 H0 fp pn'=>(pe_un un_neg (pv 0)))) (pe_lst (pa_cons (pv 1) pa_nil))) pa_nil)))),?_⟩
 refine⟨_,rfl,b,rfl,⟨_,SqL.of (hM _ _ hb)⟩,fun z hz=>cm_list (K:=K) (M:=M) (F:=fun i=>.int (-(l.getD i 0))) hM hb (by simp <;> omega) hz (fun i x Mi Hi Qy hx gi kk=>?_) (fun M2 H2 ys g2 m2 hy at2=>?_)⟩
 ·rw[List.getElem?_map] at hx
  cases e:l[i]? with
  | none=>rw[e] at hx; cases hx
  | some n=>
   rw[e] at hx
   cases hx
   refine⟨_,rfl,_,rfl,kk _ _ _ (Gr.refl gi.mh) ?_⟩
   rw[SH.gD e]
   exact .int
 have at3:Ats K M2 ((l.map fun z=>-z).map Tr.int) ys:=ats_range at2 (by simp) fun i t ht=>by
  rw[List.map_map,List.getElem?_map] at ht
  cases e:l[i]? with
  | none=>rw[e] at ht; cases ht
  | some n=>
   rw[e] at ht
   cases ht
   rw[SH.gD e]
   rfl
 have ey:=Ats.ints_inv at3
 subst ey
 refine⟨_,rfl,(by show 1≤sizeLine; decide),fun p2 hp2=>?_⟩
 have g3:Gr M H M2 (upd H2 p2 (.lst [.int a])):=g2.new hp2
 refine⟨z,p2,_,_,rfl,rfl,by rw[upd_ne (ne_of_none hy hp2)]; exact hy,upd_same,Nat.le_of_lt (small1000 (by simp <;> omega)),fun p3 hp3=>?_⟩
 have g4:=g3.add (o:=.lst ((l.map fun z=>-z).map V.int++[.int a])) hp3
 refine⟨_,(l.map fun z=>-z)++[a],_,rfl,?_,by simp <;> omega,g4.mh,fun x M5 H5 g5 h5=>q x M5 H5 (g4.trans g5) h5⟩
 refine Ats.lst (xs:=(l.map fun z=>-z).map V.int++[.int a]) ?_ upd_same
 have:(l.map fun z=>-z).map V.int++[.int a]=((l.map fun z=>-z)++[a]).map V.int:=by simp
 rw[this]
 exact Ats.ints _
theorem intss_get' {M:Hp} {U:List (List Int)} {xs:List V} {i:Nat} {x:V} (h:Ats K M (U.map intsT) xs) (e:xs[i]? = some x):∃ l,U[i]? = some l∧At K M (intsT l) x:=by
 obtain⟨t,ht,a⟩:=h.get' e
 rw[List.getElem?_map] at ht
 cases q:U[i]? with
 | none=>rw[q] at ht; cases ht
 | some l=>rw[q] at ht; cases ht; exact⟨l,rfl,a⟩
theorem ok_first_sheet (T:Txt K mg t) (G_Sheet___init__:FnOk P w K mg base (CXE P w) k t.f_Sheet___init__ t.d_Sheet___init__ ["self","inner","outer","lines","goal"] (spInit t.c_Sheet))
  (G_in_fractions:FnOk P w K mg base (CXE P w) (k+1) t.f_in_fractions t.d_in_fractions ["numbers"] (spInF K)) (G_stock_line:FnOk P w K mg base (CXE P w) (k+1) t.f_stock_line t.d_stock_line ["row","amount"] (spStock K)) :
  FnOk P w K mg base (CXE P w) (k+2) t.f_first_sheet t.d_first_sheet ["uses","amounts","gains"] (spFirst K t.c_Sheet):=by
 refine T.F_first_sheet.okE sc_first_sheet (fun vs H Q E h=>?_) (fun cdv A outer s H vs Q E hr h=>?_)
 ·obtain⟨v1,v2,v3,U,am,gn,M,rfl,_⟩:=h
  rfl
 obtain⟨v1,v2,v3,U,am,gn,M,rfl,h1,h2,h3,TK,lm,lg,hM,q⟩:=h
 obtain⟨b1,x1,rfl,hb1,a1⟩:=h1.lst_inv
 obtain⟨b2,x2,rfl,hb2,a2⟩:=h2.lst_inv
 obtain⟨b3,x3,rfl,hb3,a3⟩:=h3.lst_inv
 have e2:=Ats.ints_inv a2
 have e3:=Ats.ints_inv a3
 subst e2 e3
 have l1:x1.length=am.length:=by have:=a1.1; simp at this; rw[← this,TK.hm]
 refine⟨_,(pss_cons (ps_set (i:=3) sc_first_sheet.nd rfl (Or.inl rfl) (pe_callB call_len_seq rfl T.n_len PySem.boot_len (pa_cons (pv 2) pa_nil)))
  (pss_cons (ps_set (i:=4) sc_first_sheet.nd rfl (Or.inl rfl) (pe_lr2 hr.hd rfl T.n_list rfl T.n_range (pa_cons (pv 3) (pa_cons (pe_op op_add (pv 3) (pe_callB call_len_seq rfl T.n_len PySem.boot_len (pa_cons (pv 1) pa_nil))) pa_nil))))
  (pss_cons (ps_compG (iy:=5) sc_first_sheet.nd rfl (Or.inl rfl) rfl (compt_of (n:=2) (js:=[]) (Nb:=["row","amount"]) (by kernel_rfl) rfl (by decide +kernel) (by decide) (by kernel_rfl)) (pi_zip rfl T.n_zip (pa_cons (pv 0) (pa_cons (pv 1) pa_nil))) (fun C s0 H0 fp pn'=>(pg_tup (n:=2) rfl (pgs_cons (pg_name (i:=0) (nd_of (l:=["row","amount"]) (by decide +kernel)) rfl (Or.inl rfl)) (pgs_cons (pg_name (i:=1) (nd_of (l:=["row","amount"]) (by decide +kernel)) rfl (Or.inl rfl)) pgs_nil)))) own_pair (fun C s0 H0 fp pn'=>pts_none) (fun C s0 H0 fp pn'=>(pe_call G_stock_line hr rfl T.m_stock_line T.F_stock_line.kp T.b_stock_line .nil pass_no (pa_cons (pv 0) (pa_cons (pv 1) pa_nil)))))
  (pss_one (ps_ret (pe_make T.k_Sheet G_Sheet___init__ hr rfl T.m_Sheet T.b_Sheet___init__ .nil pass_no (pa_cons (pv 4) (pa_cons (pe_lr1 hr.hd rfl T.n_list rfl T.n_range (pa_cons (pv 3) pa_nil)) (pa_cons (pv 5) (pa_cons (pe_call G_in_fractions hr rfl T.m_in_fractions T.F_in_fractions.kp T.b_in_fractions .nil pass_no (pa_cons (pe_op op_cat (pv 2) (pe_lst (pa_cons pe_int pa_nil))) pa_nil)) pa_nil)))))))))),?_⟩
 refine⟨_,rfl,b3,_,rfl,.inl (SqL.of (hM _ _ hb3)),?_⟩
 refine⟨_,rfl,_,rfl,_,rfl,b2,_,rfl,.inl (SqL.of (hM _ _ hb2)),_,_,rfl,rfl,_,_,rfl,by simp <;> omega,by simp <;> omega,by simp <;> omega,by simp <;> omega,by simp <;> omega,fun c1 hc1=>?_⟩
 have ei:rgI (((gn.map V.int).length:Nat):Int) ((((gn.map V.int).length:Nat):Int)+(((am.map V.int).length:Nat):Int)-(((gn.map V.int).length:Nat):Int)).toNat=SH.nms gn.length am.length:=by
  simp only [List.length_map]
  rw[show ((gn.length:Int)+(am.length:Int)-(gn.length:Int)).toNat=am.length by omega]
  rfl
 rw[ei]
 have g1:Gr M H (upd M c1 (.lst ((SH.nms gn.length am.length).map V.int))) (upd H c1 (.lst ((SH.nms gn.length am.length).map V.int))):=(Gr.refl hM).add hc1
 have t1:At K (upd M c1 (.lst ((SH.nms gn.length am.length).map V.int))) (intsT (SH.nms gn.length am.length)) (.ref c1):=(Ats.ints _).lst upd_same
 generalize upd M c1 (.lst ((SH.nms gn.length am.length).map V.int))=M1 at g1 t1
 generalize upd H c1 (.lst ((SH.nms gn.length am.length).map V.int))=H1 at g1 ⊢
 have hb1':=g1.hh _ _ (hM _ _ hb1)
 have hb2':=g1.hh _ _ (hM _ _ hb2)
 refine⟨_,rfl,_,rfl,b1,b2,x1,_,rfl,SqL.of hb1',SqL.of hb2',fun y hy=>cm_zip (K:=K) (M:=M1) (F:=fun i=>lnT (SH.lineOf (U.getD i []) (am.getD i 0))) g1.mh (g1.mm _ _ hb1) (g1.mm _ _ hb2) (by simp <;> omega) (by omega) hy (fun i y1 y2 Mi Hi Qy hy1 hy2 gi kk=>?_) (fun M2 H2 ys g2 m2 hys at2=>?_)⟩
 ·obtain⟨l,hl,atl⟩:=intss_get' a1 hy1
  rw[List.getElem?_map] at hy2
  cases e:am[i]? with
  | none=>rw[e] at hy2; cases hy2
  | some n=>
   rw[e] at hy2
   cases hy2
   have hw:=TK.hw l (List.mem_of_getElem? hl)
   refine⟨_,rfl,_,rfl,_,l,n,Mi,rfl,atl.mono (g1.mm.trans gi.mm),by omega,gi.mh,fun yv M4 H4 g4 t4=>kk yv M4 H4 g4 ?_⟩
   rw[SH.gD hl,SH.gD e]
   exact t4
 have at3:Ats K M2 ((SH.sh0 U am gn).ln.map lnT) ys:=ats_range at2 (by show (List.map lnT (List.zipWith _ U am)).length=_; simp[TK.hm]; omega) fun i t ht=>by
  rw[show (SH.sh0 U am gn).ln=List.zipWith SH.lineOf U am from rfl,List.getElem?_map,List.getElem?_zipWith] at ht
  cases e:U[i]? with
  | none=>rw[e] at ht; cases ht
  | some r=>
   cases e2:am[i]? with
   | none=>rw[e,e2] at ht; cases ht
   | some b=>rw[e,e2] at ht; cases ht; rw[SH.gD e,SH.gD e2]
 have hy0:H y=none:=g1.hfree hy
 have g3:Gr M H (upd M2 y (.lst ys)) H2:=(g1.trans g2).frz hy0 m2 hys
 have s13:Same M1 (upd M2 y (.lst ys)):=g2.mm.trans (same_new m2 _)
 have at4:At K (upd M2 y (.lst ys)) (lnsT (SH.sh0 U am gn).ln) (.ref y):=(at3.mono (same_new m2 _)).lst upd_same
 generalize upd M2 y (.lst ys)=M3 at g3 at4 s13
 refine⟨_,rfl,_,rfl,_,rfl,by simp <;> omega,by simp <;> omega,fun c2 hc2=>?_⟩
 have eo:rgI 0 (((gn.map V.int).length:Nat):Int).toNat=SH.nms 0 gn.length:=by simp[rgI,SH.nms]
 rw[eo]
 have g4:Gr M H (upd M3 c2 (.lst ((SH.nms 0 gn.length).map V.int))) (upd H2 c2 (.lst ((SH.nms 0 gn.length).map V.int))):=g3.add hc2
 have t2:At K (upd M3 c2 (.lst ((SH.nms 0 gn.length).map V.int))) (intsT (SH.nms 0 gn.length)) (.ref c2):=(Ats.ints _).lst upd_same
 have s34:Same M3 (upd M3 c2 (.lst ((SH.nms 0 gn.length).map V.int))):=same_new (g3.mh.free hc2) _
 generalize upd M3 c2 (.lst ((SH.nms 0 gn.length).map V.int))=M4 at g4 t2 s34
 generalize upd H2 c2 (.lst ((SH.nms 0 gn.length).map V.int))=H4 at g4 ⊢
 refine⟨_,rfl,_,rfl,(by show 1≤sizeLine; decide),fun c3 hc3=>?_⟩
 have g5:Gr M H M4 (upd H4 c3 (.lst [.int 0])):=g4.new hc3
 have hb3':=g5.hh _ _ (hM _ _ hb3)
 refine⟨b3,c3,_,_,rfl,rfl,hb3',upd_same,Nat.le_of_lt (small1000 (by simp <;> omega)),fun c4 hc4=>?_⟩
 have g6:=g5.add (o:=.lst (gn.map V.int++[.int 0])) hc4
 have s46:Same M4 (upd M4 c4 (.lst (gn.map V.int++[.int 0]))):=same_new (g5.mh.free hc4) _
 have t6:At K (upd M4 c4 (.lst (gn.map V.int++[.int 0]))) (intsT (gn++[0])) (.ref c4):=by
  refine Ats.lst (xs:=gn.map V.int++[.int 0]) ?_ upd_same
  have:gn.map V.int++[.int 0]=(gn++[0]).map V.int:=by simp
  rw[this]
  exact Ats.ints _
 generalize upd M4 c4 (.lst (gn.map V.int++[.int 0]))=M6 at g6 t6 s46
 refine⟨_,gn++[0],_,rfl,t6,by simp <;> omega,g6.mh,fun gv M7 H7 g7 t7=>?_⟩
 have g67:=g6.trans g7
 intro x dx nx nd ne
 refine⟨x,dx,_,_,_,_,rfl,upd_same,rfl,?_⟩
 have g8:=made_gr (o0:=.ins t.c_Sheet dx []) (o:=.ins t.c_Sheet dx (fl (.ref c1) (.ref c2) (.ref y) gv)) g67 nx nd ne
 have s78:Same M7 (upd M7 x (.ins t.c_Sheet dx (fl (.ref c1) (.ref c2) (.ref y) gv))):=same_new (g67.mh.free nx) _
 have s48:=s46.trans (g7.mm.trans s78)
 refine q _ _ _ g8 ⟨x,dx,_,_,_,_,rfl,upd_same,?_,?_,?_,?_⟩
 ·exact t1.mono (s13.trans (s34.trans s48))
 ·exact t2.mono s48
 ·exact at4.mono (s34.trans s48)
 ·exact t7.mono s78
end
end W1
namespace L2
open PySem PySem.Spec PyProof.Rows
theorem Fun.okEc {P:Program} {w:World} {K:PySem.W.Frag} {mg:Str→Option Value} {base:Heap} {x qual:Str} {st:Stmt} {f:Addr} {fd:FuncData} {N ps:List Str} {k:Nat} {sp:Sp} (F:Fun K x qual st f fd) (S:FnScope N ps (defScope st)) (len:∀ vs H Q E,sp vs H Q E→vs.length=ps.length)
  (hbody:∀ (cdv:Value) (A:Around) (outer:List Env) (s:Shared) (H:Hp) (vs:List V) (Q:VK) (E:XK),fd.code=cdv→Room k (A.deeper (envOfC qual (defScope st) s.heap.objs.size f cdv))→sp vs H Q E →
   ∃ t,PSs (cxOf (CXE P w) P w K mg base N qual (defScope st) f cdv A outer s H E) (defBody st) t∧t { nx:=fun _ H'=>Q .non H',rt:=Q } (start N vs) H):FnOk P w K mg base (CXE P w) (k+1) f fd ps sp:=by
 obtain⟨oc,od,kV,doc,pm,an,cdv,ct,osl,rfl,lk,hcd⟩:=F.ex
 exact fn_of lk hcd S len fun A outer s H vs Q E hr hsp=>hbody cdv A outer s H vs Q E rfl hr hsp
end L2
namespace W1
open PySem PySem.Spec L2
def oV:Option Nat→V
 | none=>.non
 | some r=>.int (r:Nat)
def spLp (K:PySem.W.Frag) (Pt:Addr):Sp:=fun vs H Q _=>∃ (v1 v2:V) (xs js:List Int) (M:Hp),vs=[v1,v2]∧At K M (intsT xs) v1∧At K M (intsT js) v2∧(∀ j∈js,0≤j∧j<xs.length)∧Same M H∧TabOk Pt M H ∧
 ∀ H',Gr M H M H'→(js=[]→Q .non H')∧∀ j∈js,(∀ j'∈js,xs.getD j.toNat 0≤xs.getD j'.toNat 0)→Q (.int j) H'
theorem pick_use {Q:V→Prop} {R:Option Nat→Prop} {xs:List Int} {f:Nat→Bool} (hq:∀ o,R o→Q (oV o)) (h0:(∀ i,i<xs.length→f i=false)→R none)
  (h1:∀ (r:Nat) (u:Int),xs[r]? = some u→f r=true→(∀ (i:Nat) (w:Int),xs[i]? = some w→f i=true→u≤w)→R (some r)) :
  (pickI f xs.length=[]→Q .non)∧∀ j∈pickI f xs.length,(∀ j'∈pickI f xs.length,xs.getD j.toNat 0≤xs.getD j'.toNat 0)→Q (.int j):=by
 refine⟨fun e=>hq none (h0 fun i hi=>?_),fun j hj hm=>?_⟩
 ·cases h:f i with
  | false=>rfl
  | true=>
   have:(i:Int)∈pickI f xs.length:=pickI_mem.mpr ⟨i,hi,h,rfl⟩
   rw[e] at this
   cases this
 ·obtain⟨r,hr,hf,rfl⟩:=pickI_mem.mp hj
  refine hq (some r) (h1 r xs[r] (List.getElem?_eq_getElem hr) hf fun i w hi hfi=>?_)
  have hil:=(List.getElem?_eq_some_iff.mp hi).1
  have:=hm i (pickI_mem.mpr ⟨i,hil,hfi,rfl⟩)
  rw[Int.toNat_natCast,Int.toNat_natCast,SH.gI hi,SH.gI (List.getElem?_eq_getElem hr)] at this
  exact this
theorem pick_in {xs:List Int} {f:Nat→Bool}:∀ j∈pickI f xs.length,0≤j∧j<xs.length:=fun j hj=>by
 obtain⟨r,hr,_,rfl⟩:=pickI_mem.mp hj
 omega
def spLi (K:PySem.W.Frag) (C Pt:Addr):Sp:=fun vs H Q _=>∃ (v:V) (s:SH.Sh) (M:Hp),vs=[v]∧ShAt K C M s v∧s.Ok∧s.inn.length≤100∧s.out.length≤100∧Same M H∧TabOk Pt M H ∧
 ∀ (o:Option Nat) (M' H':Hp),Gr M H M' H'→SH.LiR s s.out.length o→Q (oV o) H'
def spLg (K:PySem.W.Frag) (C Pt:Addr):Sp:=fun vs H Q _=>∃ (v:V) (s:SH.Sh) (M:Hp),vs=[v]∧ShAt K C M s v∧s.Ok∧s.inn.length≤100∧s.out.length≤100∧Same M H∧TabOk Pt M H ∧
 ∀ (o:Option Nat) (M' H':Hp),Gr M H M' H'→SH.LoR s s.gl o→Q (oV o) H'
def spLh (K:PySem.W.Frag) (C Pt:Addr):Sp:=fun vs H Q _=>∃ (v:V) (s:SH.Sh) (r:Nat) (l:List Rat) (M:Hp),vs=[v,.int r]∧ShAt K C M s v∧s.Ok∧s.ln[r]? = some l∧s.inn.length≤100∧s.out.length≤100∧Same M H∧TabOk Pt M H ∧
 ∀ (o:Option Nat) (M' H':Hp),Gr M H M' H'→SH.LoR s l o→Q (oV o) H'
def spLb (K:PySem.W.Frag) (C Pt:Addr):Sp:=fun vs H Q _=>∃ (v:V) (s:SH.Sh) (p:Nat) (M:Hp),vs=[v,.int p]∧ShAt K C M s v∧s.Ok∧p<s.out.length∧s.inn.length≤100∧s.out.length≤100∧Same M H∧TabOk Pt M H ∧
 ∀ (o:Option Nat) (M' H':Hp),Gr M H M' H'→SH.LiR s p o→Q (oV o) H'
theorem li_use {s:SH.Sh} (o:s.Ok) {j:Nat} {Q:V→Prop} (hq:∀ o,SH.LiR s j o→Q (oV o)) :
  (pickI (fun i=>decide (((s.ln.getD i []).getD j 0).num<0)) s.inn.length=[]→Q .non)∧∀ z∈pickI (fun i=>decide (((s.ln.getD i []).getD j 0).num<0)) s.inn.length,(∀ z'∈pickI (fun i=>decide (((s.ln.getD i []).getD j 0).num<0)) s.inn.length,s.inn.getD z.toNat 0≤s.inn.getD z'.toNat 0)→Q (.int z):=by
 refine pick_use hq (fun h l hl=>?_) fun r u hu hf hm=>?_
 ·obtain⟨i,hi⟩:=List.mem_iff_getElem?.mp hl
  have:=h i (by rw[← o.ln]; exact (List.getElem?_eq_some_iff.mp hi).1)
  rw[SH.gD hi] at this
  have:=of_decide_eq_false this
  rw[SH.num_lt] at this
  grind
 ·have hr:r<s.ln.length:=by rw[o.ln]; exact (List.getElem?_eq_some_iff.mp hu).1
  have e:=List.getElem?_eq_getElem hr
  rw[SH.gD e] at hf
  refine⟨u,_,hu,e,SH.num_lt.mp (of_decide_eq_true hf),fun i w k hi hk hb=>hm i w hi ?_⟩
  rw[SH.gD hk]
  exact decide_eq_true (SH.num_lt.mpr hb)
theorem lo_use {s:SH.Sh} {l:List Rat} {Q:V→Prop} (hq:∀ o,SH.LoR s l o→Q (oV o)) :
  (pickI (fun i=>decide (0<(l.getD i 0).num)) s.out.length=[]→Q .non)∧∀ z∈pickI (fun i=>decide (0<(l.getD i 0).num)) s.out.length,(∀ z'∈pickI (fun i=>decide (0<(l.getD i 0).num)) s.out.length,s.out.getD z.toNat 0≤s.out.getD z'.toNat 0)→Q (.int z):=by
 refine pick_use hq (fun h j hj=>?_) fun r u hu hf hm=>?_
 ·have:=of_decide_eq_false (h j hj)
  rw[SH.num_gt] at this
  grind
 ·exact⟨u,hu,SH.num_gt.mp (of_decide_eq_true hf),fun j w hj hb=>hm j w hj (decide_eq_true (SH.num_gt.mpr hb))⟩
theorem atI_m1 {α:Type} {xs:List α} {n:Nat} {v:α} (hl:xs.length=n+1) (h:xs[n]? = some v):atI xs (-1)=some v:=by
 unfold atI ixN
 rw[if_neg (by decide),if_pos (by omega)]
 show xs[(-1+(xs.length:Int)).toNat]? = some v
 rw[show (-1+(xs.length:Int)).toNat=n by omega]
 exact h
theorem cut_m1 {xs:List V} {n:Nat} (hl:xs.length=n+1):cutV xs none (some (-1))=xs.take n:=by
 unfold cutV
 rw[HT.sIx_none,List.drop_zero]
 show xs.take ((if (-1:Int)<0 then (-1+(xs.length:Int)).toNat else min (-1:Int).toNat xs.length)-0)=_
 rw[if_pos (by decide),show (-1+(xs.length:Int)).toNat-0=n by omega]
section
variable {P:Program} {w:World} {K:PySem.W.Frag} {mg:Str→Option Value} {base:Heap} {t:Adr} {k:Nat} {Pt lc:Addr}
theorem ok_least_place (T:Txt K mg t) (L:LamAt mg base lc Pt) (hcode0:t.d_least_place.code = .ref lc):FnOk P w K mg base (CXE P w) (k+2) t.f_least_place t.d_least_place ["unknowns","places"] (spLp K Pt):=by
 refine T.F_least_place.okEc sc_least_place (fun vs H Q E h=>?_) (fun cdv A outer s H vs Q E hc hr h=>?_)
 ·obtain⟨v1,v2,xs,js,M,rfl,_⟩:=h
  rfl
 obtain⟨v1,v2,xs,js,M,rfl,h1,h2,hj,hM,hT,q⟩:=h
 obtain⟨b1,x1,rfl,hb1,a1⟩:=h1.lst_inv
 obtain⟨b2,x2,rfl,hb2,a2⟩:=h2.lst_inv
 have e1:=Ats.ints_inv a1
 have e2:=Ats.ints_inv a2
 subst e1 e2
 have hcode:cdv = .ref lc:=hc.symm.trans hcode0
 refine⟨_,(pss_one (ps_ret (pe_minL (x:="place") (y:="unknowns") (P:=Pt) (c:=lc) ⟨by decide +kernel,rfl,rfl,rfl,rfl⟩ ⟨rfl,rfl⟩ ⟨rfl,rfl⟩ L hcode (by kernel_rfl) rfl rfl rfl rfl rfl (fun _ _ _ _=>rfl) (hr.mono (by omega)) rfl T.n_min (pa_cons (pv 1) pa_nil)))),?_⟩
 exact⟨_,rfl,b1,b2,xs,js,M,rfl,rfl,SqL.of (hM _ _ hb1),SqL.of (hM _ _ hb2),hj,hM,hT,q⟩
theorem ok_least_short (T:Txt K mg t) (G_least_place:FnOk P w K mg base (CXE P w) k t.f_least_place t.d_least_place ["unknowns","places"] (spLp K Pt)):FnOk P w K mg base (CXE P w) (k+1) t.f_least_short t.d_least_short ["sheet"] (spLi K t.c_Sheet Pt):=by
 refine T.F_least_short.okE sc_least_short (fun vs H Q E h=>?_) (fun cdv A outer s H vs Q E hr h=>?_)
 ·obtain⟨v,z,M,rfl,_⟩:=h
  rfl
 obtain⟨v,z,M,rfl,⟨o,dx,v1,v2,v3,v4,rfl,ho,h1,h2,h3,h4⟩,ok,li,lo,hM,hT,q⟩:=h
 have hoH:=hM _ _ ho
 obtain⟨b1,x1,rfl,hb1,a1⟩:=h1.lst_inv
 obtain⟨b3,x3,rfl,hb3,a3⟩:=h3.lst_inv
 have e1:=Ats.ints_inv a1
 subst e1
 have l3:x3.length=z.inn.length:=by have:=a3.1; simp at this; rw[← this,ok.ln]
 refine⟨_,(pss_one (ps_ret (pe_call G_least_place hr rfl T.m_least_place T.F_least_place.kp T.b_least_place .nil pass_no (pa_cons (pe_fld (pv 0) rfl) (pa_cons (pe_compG rfl (compt_of (n:=2) (js:=[]) (Nb:=["row","line"]) (by kernel_rfl) rfl (by decide +kernel) (by decide) (by kernel_rfl)) (pi_enum rfl T.n_enumerate (pa_cons (pe_fld (pv 0) rfl) pa_nil)) (fun C s0 H0 fp pn'=>(pg_tup (n:=2) rfl (pgs_cons (pg_name (i:=0) (nd_of (l:=["row","line"]) (by decide +kernel)) rfl (Or.inl rfl)) (pgs_cons (pg_name (i:=1) (nd_of (l:=["row","line"]) (by decide +kernel)) rfl (Or.inl rfl)) pgs_nil)))) own_pair (fun C s0 H0 fp pn'=>(pts_one (pt_cmpR op_lt (pe_ix (r:=rIxT K) ix_tup (pe_ix (r:=rIxL K) ix_list (pv 1) (pe_un un_neg pe_int) (fun _ _=>rfl)) pe_int (fun _ _=>rfl)) pe_int (nomark _)))) (fun C s0 H0 fp pn'=>(pv 0))) pa_nil))))),?_⟩
 refine⟨_,rfl,o,_,dx,_,_,rfl,hoH,T.cl_Sheet,T.na_Sheet_inner,fl_inner _ _ _ _,_,rfl,o,_,dx,_,_,rfl,hoH,T.cl_Sheet,T.na_Sheet_lines,fl_lines _ _ _ _,b3,_,rfl,hM _ _ hb3,fun p hp=>cm_pick (K:=K) (M:=M) (f:=fun i=>decide (((z.ln.getD i []).getD z.out.length 0).num<0)) hM hb3 (by omega) hp (fun i x Hi Qb hx gi hq=>?_) (fun H' g hy=>?_)⟩
 ·obtain⟨l,hl,atl⟩:=lns_get' a3 hx
  have hw:=ok.wd l (List.mem_of_getElem? hl)
  obtain⟨b,xs,rfl,hb,ats⟩:=atl.lst_inv
  have hxl:xs.length=z.out.length+1:=by have:=ats.1; simp at this; omega
  have hd:=List.getElem?_eq_getElem (show z.out.length<l.length by omega)
  obtain⟨xp,hxp,atp⟩:=ln_get ats hd
  obtain⟨a,rfl,ha⟩:=fr_inv atp
  refine⟨_,rfl,_,rfl,b,_,_,_,rfl,rfl,SqL.of (gi.mh _ _ hb),atI_m1 hxl hxp,a,_,_,_,rfl,rfl,gi.mh.tup ha,fr_top _,_,_,rfl,rfl,_,rfl,?_⟩
  rw[SH.gD hl,SH.getD_of hd] at hq
  exact hq
 have mp:=hM.free hp
 have g2:Gr M H (upd M p (.lst ((pickI (fun i=>decide (((z.ln.getD i []).getD z.out.length 0).num<0)) x3.length).map V.int))) H':=g.frz hp mp hy
 rw[l3] at g2
 refine⟨_,_,z.inn,_,_,rfl,h1.mono g2.mm,(Ats.ints _).lst upd_same,pick_in,g2.mh,g2.tt _ hT,fun H'' g3=>?_⟩
 exact li_use (Q:=fun v=>Q v H'') ok fun o ho=>q o _ _ (g2.trans g3) ho
theorem ok_least_bounding (T:Txt K mg t) (G_least_place:FnOk P w K mg base (CXE P w) k t.f_least_place t.d_least_place ["unknowns","places"] (spLp K Pt)):FnOk P w K mg base (CXE P w) (k+1) t.f_least_bounding t.d_least_bounding ["sheet","place"] (spLb K t.c_Sheet Pt):=by
 refine T.F_least_bounding.okE sc_least_bounding (fun vs H Q E h=>?_) (fun cdv A outer s H vs Q E hr h=>?_)
 ·obtain⟨v,z,pl,M,rfl,_⟩:=h
  rfl
 obtain⟨v,z,pl,M,rfl,⟨o,dx,v1,v2,v3,v4,rfl,ho,h1,h2,h3,h4⟩,ok,hpl,li,lo,hM,hT,q⟩:=h
 have hoH:=hM _ _ ho
 obtain⟨b1,x1,rfl,hb1,a1⟩:=h1.lst_inv
 obtain⟨b3,x3,rfl,hb3,a3⟩:=h3.lst_inv
 have e1:=Ats.ints_inv a1
 subst e1
 have l3:x3.length=z.inn.length:=by have:=a3.1; simp at this; rw[← this,ok.ln]
 refine⟨_,(pss_one (ps_ret (pe_call G_least_place hr rfl T.m_least_place T.F_least_place.kp T.b_least_place .nil pass_no (pa_cons (pe_fld (pv 0) rfl) (pa_cons (pe_compG rfl (compt_of (n:=2) (js:=[1]) (Nb:=["row","line","place"]) (by kernel_rfl) rfl (by decide +kernel) (by decide) (by kernel_rfl)) (pi_enum rfl T.n_enumerate (pa_cons (pe_fld (pv 0) rfl) pa_nil)) (fun C s0 H0 fp pn'=>(pg_tup (n:=2) rfl (pgs_cons (pg_name (i:=0) (nd_of (l:=["row","line","place"]) (by decide +kernel)) rfl (Or.inl rfl)) (pgs_cons (pg_name (i:=1) (nd_of (l:=["row","line","place"]) (by decide +kernel)) rfl (Or.inl rfl)) pgs_nil)))) own_pair (fun C s0 H0 fp pn'=>(pts_one (pt_cmpR op_lt (pe_ix (r:=rIxT K) ix_tup (pe_ix (r:=rIxL K) ix_list (pv 1) (pv 2) (fun _ _=>rfl)) pe_int (fun _ _=>rfl)) pe_int (nomark _)))) (fun C s0 H0 fp pn'=>(pv 0))) pa_nil))))),?_⟩
 refine⟨_,rfl,o,_,dx,_,_,rfl,hoH,T.cl_Sheet,T.na_Sheet_inner,fl_inner _ _ _ _,_,rfl,o,_,dx,_,_,rfl,hoH,T.cl_Sheet,T.na_Sheet_lines,fl_lines _ _ _ _,b3,_,rfl,hM _ _ hb3,fun p hp=>cm_pick (K:=K) (M:=M) (f:=fun i=>decide (((z.ln.getD i []).getD pl 0).num<0)) hM hb3 (by omega) hp (fun i x Hi Qb hx gi hq=>?_) (fun H' g hy=>?_)⟩
 ·obtain⟨l,hl,atl⟩:=lns_get' a3 hx
  have hw:=ok.wd l (List.mem_of_getElem? hl)
  obtain⟨b,xs,rfl,hb,ats⟩:=atl.lst_inv
  have hd:=List.getElem?_eq_getElem (show pl<l.length by omega)
  obtain⟨xp,hxp,atp⟩:=ln_get ats hd
  obtain⟨a,rfl,ha⟩:=fr_inv atp
  refine⟨_,rfl,_,rfl,b,_,_,_,rfl,rfl,SqL.of (gi.mh _ _ hb),atI_nat hxp,a,_,_,_,rfl,rfl,gi.mh.tup ha,fr_top _,_,_,rfl,rfl,_,rfl,?_⟩
  rw[SH.gD hl,SH.getD_of hd] at hq
  exact hq
 have mp:=hM.free hp
 have g2:Gr M H (upd M p (.lst ((pickI (fun i=>decide (((z.ln.getD i []).getD pl 0).num<0)) x3.length).map V.int))) H':=g.frz hp mp hy
 rw[l3] at g2
 refine⟨_,_,z.inn,_,_,rfl,h1.mono g2.mm,(Ats.ints _).lst upd_same,pick_in,g2.mh,g2.tt _ hT,fun H'' g3=>?_⟩
 exact li_use (Q:=fun v=>Q v H'') ok fun o ho=>q o _ _ (g2.trans g3) ho
theorem ok_least_gaining (T:Txt K mg t) (G_least_place:FnOk P w K mg base (CXE P w) k t.f_least_place t.d_least_place ["unknowns","places"] (spLp K Pt)):FnOk P w K mg base (CXE P w) (k+1) t.f_least_gaining t.d_least_gaining ["sheet"] (spLg K t.c_Sheet Pt):=by
 refine T.F_least_gaining.okE sc_least_gaining (fun vs H Q E h=>?_) (fun cdv A outer s H vs Q E hr h=>?_)
 ·obtain⟨v,z,M,rfl,_⟩:=h
  rfl
 obtain⟨v,z,M,rfl,⟨o,dx,v1,v2,v3,v4,rfl,ho,h1,h2,h3,h4⟩,ok,li,lo,hM,hT,q⟩:=h
 have hoH:=hM _ _ ho
 obtain⟨b2,x2,rfl,hb2,a2⟩:=h2.lst_inv
 obtain⟨b4,x4,rfl,hb4,a4⟩:=h4.lst_inv
 have e2:=Ats.ints_inv a2
 subst e2
 have l4:x4.length=z.out.length+1:=by have:=a4.1; simp at this; rw[← this,ok.gl]
 refine⟨_,(pss_one (ps_ret (pe_call G_least_place hr rfl T.m_least_place T.F_least_place.kp T.b_least_place .nil pass_no (pa_cons (pe_fld (pv 0) rfl) (pa_cons (pe_compG rfl (compt_of (n:=2) (js:=[]) (Nb:=["place","part"]) (by kernel_rfl) rfl (by decide +kernel) (by decide) (by kernel_rfl)) (pi_enum rfl T.n_enumerate (pa_cons (pe_slice sl_list (pe_fld (pv 0) rfl) po_none (po_some (pe_un un_neg pe_int))) pa_nil)) (fun C s0 H0 fp pn'=>(pg_tup (n:=2) rfl (pgs_cons (pg_name (i:=0) (nd_of (l:=["place","part"]) (by decide +kernel)) rfl (Or.inl rfl)) (pgs_cons (pg_name (i:=1) (nd_of (l:=["place","part"]) (by decide +kernel)) rfl (Or.inl rfl)) pgs_nil)))) own_pair (fun C s0 H0 fp pn'=>(pts_one (pt_cmpR op_gt (pe_ix (r:=rIxT K) ix_tup (pv 1) pe_int (fun _ _=>rfl)) pe_int (nomark _)))) (fun C s0 H0 fp pn'=>(pv 0))) pa_nil))))),?_⟩
 refine⟨_,rfl,o,_,dx,_,_,rfl,hoH,T.cl_Sheet,T.na_Sheet_outer,fl_outer _ _ _ _,_,rfl,o,_,dx,_,_,rfl,hoH,T.cl_Sheet,T.na_Sheet_goal,fl_goal _ _ _ _,_,rfl,_,rfl,b4,_,rfl,SqL.of (hM _ _ hb4),fun c hc=>?_⟩
 rw[cut_m1 l4]
 have g0:Gr M H (upd M c (.lst (x4.take z.out.length))) (upd H c (.lst (x4.take z.out.length))):=(Gr.refl hM).add hc
 have hc0:(upd M c (.lst (x4.take z.out.length))) c=some (.lst (x4.take z.out.length)):=upd_same
 generalize upd M c (.lst (x4.take z.out.length))=M0 at g0 hc0
 generalize upd H c (.lst (x4.take z.out.length))=H0 at g0 ⊢
 have lt:(x4.take z.out.length).length=z.out.length:=by rw[List.length_take]; omega
 refine⟨c,_,rfl,g0.mh _ _ hc0,fun p hp=>cm_pick (K:=K) (M:=M0) (f:=fun i=>decide (0<(z.gl.getD i 0).num)) g0.mh hc0 (by omega) hp (fun i x Hi Qb hx gi hq=>?_) (fun H' g hy=>?_)⟩
 ·rw[List.getElem?_take] at hx
  split at hx
  ·obtain⟨r,hr0,atr⟩:=ln_get' a4 hx
   obtain⟨a,rfl,ha⟩:=fr_inv atr
   refine⟨_,rfl,a,_,_,_,rfl,rfl,gi.mh.tup (g0.mm.tup ha),fr_top _,_,_,rfl,rfl,_,rfl,?_⟩
   rw[SH.getD_of hr0] at hq
   exact hq
  ·cases hx
 have mp:=g0.mh.free hp
 have g2:Gr M H (upd M0 p (.lst ((pickI (fun i=>decide (0<(z.gl.getD i 0).num)) (x4.take z.out.length).length).map V.int))) H':=(g0.trans g).frz (g0.hfree hp) mp hy
 rw[lt] at g2
 refine⟨_,_,z.out,_,_,rfl,h2.mono g2.mm,(Ats.ints _).lst upd_same,pick_in,g2.mh,g2.tt _ hT,fun H'' g3=>?_⟩
 exact lo_use (Q:=fun v=>Q v H'') fun o ho=>q o _ _ (g2.trans g3) ho
theorem ok_least_helping (T:Txt K mg t) (G_least_place:FnOk P w K mg base (CXE P w) k t.f_least_place t.d_least_place ["unknowns","places"] (spLp K Pt)):FnOk P w K mg base (CXE P w) (k+1) t.f_least_helping t.d_least_helping ["sheet","row"] (spLh K t.c_Sheet Pt):=by
 refine T.F_least_helping.okE sc_least_helping (fun vs H Q E h=>?_) (fun cdv A outer s H vs Q E hr h=>?_)
 ·obtain⟨v,z,rw_,l,M,rfl,_⟩:=h
  rfl
 obtain⟨v,z,rw_,l,M,rfl,⟨o,dx,v1,v2,v3,v4,rfl,ho,h1,h2,h3,h4⟩,ok,hl,li,lo,hM,hT,q⟩:=h
 have hoH:=hM _ _ ho
 obtain⟨b2,x2,rfl,hb2,a2⟩:=h2.lst_inv
 obtain⟨b3,x3,rfl,hb3,a3⟩:=h3.lst_inv
 have e2:=Ats.ints_inv a2
 subst e2
 obtain⟨vl,hvl,atl⟩:=lns_get a3 hl
 obtain⟨b4,x4,rfl,hb4,a4⟩:=atl.lst_inv
 have hw:=ok.wd l (List.mem_of_getElem? hl)
 have l4:x4.length=z.out.length+1:=by have:=a4.1; simp at this; omega
 refine⟨_,(pss_cons (ps_set (i:=2) sc_least_helping.nd rfl (Or.inl rfl) (pe_ix ix_list (pe_fld (pv 0) rfl) (pv 1) (fun _ _=>rfl)))
  (pss_one (ps_ret (pe_call G_least_place hr rfl T.m_least_place T.F_least_place.kp T.b_least_place .nil pass_no (pa_cons (pe_fld (pv 0) rfl) (pa_cons (pe_compG rfl (compt_of (n:=2) (js:=[]) (Nb:=["place","part"]) (by kernel_rfl) rfl (by decide +kernel) (by decide) (by kernel_rfl)) (pi_enum rfl T.n_enumerate (pa_cons (pe_slice sl_list (pv 2) po_none (po_some (pe_un un_neg pe_int))) pa_nil)) (fun C s0 H0 fp pn'=>(pg_tup (n:=2) rfl (pgs_cons (pg_name (i:=0) (nd_of (l:=["place","part"]) (by decide +kernel)) rfl (Or.inl rfl)) (pgs_cons (pg_name (i:=1) (nd_of (l:=["place","part"]) (by decide +kernel)) rfl (Or.inl rfl)) pgs_nil)))) own_pair (fun C s0 H0 fp pn'=>(pts_one (pt_cmpR op_gt (pe_ix (r:=rIxT K) ix_tup (pv 1) pe_int (fun _ _=>rfl)) pe_int (nomark _)))) (fun C s0 H0 fp pn'=>(pv 0))) pa_nil)))))),?_⟩
 refine⟨_,rfl,o,_,dx,_,_,rfl,hoH,T.cl_Sheet,T.na_Sheet_lines,fl_lines _ _ _ _,_,rfl,b3,_,_,_,rfl,rfl,SqL.of (hM _ _ hb3),atI_nat hvl,?_⟩
 refine⟨_,rfl,o,_,dx,_,_,rfl,hoH,T.cl_Sheet,T.na_Sheet_outer,fl_outer _ _ _ _,_,rfl,_,rfl,_,rfl,b4,_,rfl,SqL.of (hM _ _ hb4),fun c hc=>?_⟩
 rw[cut_m1 l4]
 have g0:Gr M H (upd M c (.lst (x4.take z.out.length))) (upd H c (.lst (x4.take z.out.length))):=(Gr.refl hM).add hc
 have hc0:(upd M c (.lst (x4.take z.out.length))) c=some (.lst (x4.take z.out.length)):=upd_same
 generalize upd M c (.lst (x4.take z.out.length))=M0 at g0 hc0
 generalize upd H c (.lst (x4.take z.out.length))=H0 at g0 ⊢
 have lt:(x4.take z.out.length).length=z.out.length:=by rw[List.length_take]; omega
 refine⟨c,_,rfl,g0.mh _ _ hc0,fun p hp=>cm_pick (K:=K) (M:=M0) (f:=fun i=>decide (0<(l.getD i 0).num)) g0.mh hc0 (by omega) hp (fun i x Hi Qb hx gi hq=>?_) (fun H' g hy=>?_)⟩
 ·rw[List.getElem?_take] at hx
  split at hx
  ·obtain⟨r,hr0,atr⟩:=ln_get' a4 hx
   obtain⟨a,rfl,ha⟩:=fr_inv atr
   refine⟨_,rfl,a,_,_,_,rfl,rfl,gi.mh.tup (g0.mm.tup ha),fr_top _,_,_,rfl,rfl,_,rfl,?_⟩
   rw[SH.getD_of hr0] at hq
   exact hq
  ·cases hx
 have mp:=g0.mh.free hp
 have g2:Gr M H (upd M0 p (.lst ((pickI (fun i=>decide (0<(l.getD i 0).num)) (x4.take z.out.length).length).map V.int))) H':=(g0.trans g).frz (g0.hfree hp) mp hy
 rw[lt] at g2
 refine⟨_,_,z.out,_,_,rfl,h2.mono g2.mm,(Ats.ints _).lst upd_same,pick_in,g2.mh,g2.tt _ hT,fun H'' g3=>?_⟩
 exact lo_use (Q:=fun v=>Q v H'') fun o ho=>q o _ _ (g2.trans g3) ho
end
end W1
namespace L2
open PySem PySem.Spec PyProof.Rows
theorem tOr_by {t u:TT} {σ:St} {H:Hp} {Q:Bool→Hp→Prop} (b c:Bool) (h1:∀ Q':Bool→Hp→Prop,Q' b H→t σ H Q') (h2:b=false→∀ Q':Bool→Hp→Prop,Q' c H→u σ H Q') (h:Q (b || c) H):tOr t u σ H Q:=by
 refine h1 _ ?_
 cases b with
 | true=>rw[if_pos rfl]; exact h
 | false=>rw[if_neg (by decide)]; exact h2 rfl _ h
theorem tAnd_by {t u:TT} {σ:St} {H:Hp} {Q:Bool→Hp→Prop} (b c:Bool) (h1:∀ Q':Bool→Hp→Prop,Q' b H→t σ H Q') (h2:b=true→∀ Q':Bool→Hp→Prop,Q' c H→u σ H Q') (h:Q (b && c) H):tAnd t u σ H Q:=by
 refine h1 _ ?_
 cases b with
 | true=>rw[if_pos rfl]; exact h2 rfl _ h
 | false=>rw[if_neg (by decide)]; exact h
end L2
namespace W1
open PySem PySem.Spec L2
def spSr (K:PySem.W.Frag) (C Pt:Addr):Sp:=fun vs H Q _=>∃ (v:V) (s:SH.Sh) (N:Nat) (M:Hp),vs=[v]∧ShAt K C M s v∧s.Ok∧SH.Nm N s∧s.inn.length≤100∧s.out.length≤100∧(∀ s',s.Eqv s'→Sz s')∧Same M H∧TabOk Pt M H ∧
 ∀ (o1 o2:Option Nat) (s':SH.Sh) (x:V) (a:Addr) (M' H':Hp),Gr M H M' H'→M' a=some (.tup [x,oV o1,oV o2])→ShAt K C M' s' x→s.Eqv s'→s'.inn.length=s.inn.length→SH.SrR s' o1 o2→Q (.ref a) H'
def SrW (K:PySem.W.Frag) (C:Addr) (M H:Hp) (s:SH.Sh) (N:Nat) (m:Nat) (σ:St) (Hc:Hp):Prop:=∃ (s':SH.Sh) (x:V) (Mc:Hp) (L:Nat) (a b:Option V),m+L=2 ^ N∧σ=[some x,a,b]∧Gr M H Mc Hc∧ShAt K C Mc s' x∧s.Eqv s'∧s'.inn.length=s.inn.length∧SH.Reach N L s'
def cmpO (s:SH.Sh):Option Nat→Option Nat→Bool
 | some r,some p=>decide (s.inn.getD r 0<s.out.getD p 0)
 | _,_=>false
theorem oV_non {o:Option Nat}:oV o = .non↔o=none:=by
 cases o with
 | none=>exact⟨fun _=>rfl,fun _=>rfl⟩
 | some r=>exact⟨fun h=>(by cases h),fun h=>(by cases h)⟩
theorem exch_in (s:SH.Sh) (r p:Nat):(s.exch r p).inn.length=s.inn.length∧(s.exch r p).out.length=s.out.length:=⟨by unfold SH.Sh.exch; simp,by unfold SH.Sh.exch; simp⟩
theorem three_ok:3≤sizeLine:=by decide
theorem li_lt {s:SH.Sh} {j r:Nat} (h:SH.LiR s j (some r)):∃ u,s.inn[r]? = some u:=by
 obtain⟨u,_,hu,_⟩:=h
 exact⟨u,hu⟩
theorem lo_lt {s:SH.Sh} {l:List Rat} {p:Nat} (h:SH.LoR s l (some p)):∃ u,s.out[p]? = some u:=by
 obtain⟨u,hu,_⟩:=h
 exact⟨u,hu⟩
section
variable {P:Program} {w:World} {K:PySem.W.Frag} {mg:Str→Option Value} {base:Heap} {t:Adr} {k:Nat} {Pt:Addr}
set_option maxHeartbeats 2000000 in
theorem ok_searched (T:Txt K mg t) (G_least_short:FnOk P w K mg base (CXE P w) k t.f_least_short t.d_least_short ["sheet"] (spLi K t.c_Sheet Pt))
  (G_least_gaining:FnOk P w K mg base (CXE P w) k t.f_least_gaining t.d_least_gaining ["sheet"] (spLg K t.c_Sheet Pt))
  (G_least_helping:FnOk P w K mg base (CXE P w) k t.f_least_helping t.d_least_helping ["sheet","row"] (spLh K t.c_Sheet Pt))
  (G_least_bounding:FnOk P w K mg base (CXE P w) k t.f_least_bounding t.d_least_bounding ["sheet","place"] (spLb K t.c_Sheet Pt))
  (G_exchanged:FnOk P w K mg base (CXE P w) k t.f_exchanged t.d_exchanged ["sheet","row","place"] (spExch K t.c_Sheet)) :
  FnOk P w K mg base (CXE P w) (k+1) t.f_searched t.d_searched ["sheet"] (spSr K t.c_Sheet Pt):=by
 refine T.F_searched.okE sc_searched (fun vs H Q E h=>?_) (fun cdv A outer s H vs Q E hr h=>?_)
 ·obtain⟨v,z,N,M,rfl,_⟩:=h
  rfl
 obtain⟨v,z,N,M,rfl,hv,ok,nm,li,lo,hsz,hM,hT,q⟩:=h
 refine⟨_,(pss_one (ps_while PassesOwn.leaving (pt_val pe_bl)
   (pss_cons (ps_set (i:=1) sc_searched.nd rfl (Or.inl rfl) (pe_call G_least_short hr rfl T.m_least_short T.F_least_short.kp T.b_least_short .nil pass_no (pa_cons (pv 0) pa_nil)))
  (pss_cons (ps_set (i:=2) sc_searched.nd rfl (Or.inl rfl) (pe_call G_least_gaining hr rfl T.m_least_gaining T.F_least_gaining.kp T.b_least_gaining .nil pass_no (pa_cons (pv 0) pa_nil)))
  (pss_cons (ps_if (PW.pt (pw_and (pt_cmp (pc_isN (pv 1))) (pw_and1 (pt_cmp (pc_isN (pv 2))))))
   (pss_one (ps_ret (pe_tup (pa_cons (pv 0) (pa_cons pe_non (pa_cons pe_non pa_nil))))))
   pss_nil)
  (pss_cons (ps_if (PW.pt (pw_or (pt_cmp (pc_isN (pv 2))) (pw_or1 (PW.pt (pw_and (pt_cmp (pc_notN (pv 1))) (pw_and1 (pt_cmpR op_lt (pe_ix ix_list (pe_fld (pv 0) rfl) (pv 1) (fun _ _=>rfl)) (pe_ix ix_list (pe_fld (pv 0) rfl) (pv 2) (fun _ _=>rfl)) (nomark _))))))))
   (pss_cons (ps_set (i:=2) sc_searched.nd rfl (Or.inl rfl) (pe_call G_least_helping hr rfl T.m_least_helping T.F_least_helping.kp T.b_least_helping .nil pass_no (pa_cons (pv 0) (pa_cons (pv 1) pa_nil))))
  (pss_one (ps_if (pt_cmp (pc_isN (pv 2)))
   (pss_one (ps_ret (pe_tup (pa_cons (pv 0) (pa_cons (pv 1) (pa_cons pe_non pa_nil))))))
   pss_nil)))
   (pss_cons (ps_set (i:=1) sc_searched.nd rfl (Or.inl rfl) (pe_call G_least_bounding hr rfl T.m_least_bounding T.F_least_bounding.kp T.b_least_bounding .nil pass_no (pa_cons (pv 0) (pa_cons (pv 2) pa_nil))))
  (pss_one (ps_if (pt_cmp (pc_isN (pv 1)))
   (pss_one (ps_ret (pe_tup (pa_cons (pv 0) (pa_cons pe_non (pa_cons (pv 2) pa_nil))))))
   pss_nil))))
  (pss_one (ps_set (i:=0) sc_searched.nd rfl (Or.inl rfl) (pe_call G_exchanged hr rfl T.m_exchanged T.F_exchanged.kp T.b_exchanged .nil pass_no (pa_cons (pv 0) (pa_cons (pv 1) (pa_cons (pv 2) pa_nil)))))))))))),?_⟩
 refine⟨SrW K t.c_Sheet M H z N,⟨2 ^ N,z,_,M,0,none,none,by omega,rfl,Gr.refl hM,hv,.refl ok,rfl,.start ok⟩,?_⟩
 rintro m σ Hc ⟨y,x,Mc,L,a,b,hm,rfl,g,hs,e,hi,R⟩
 have en:=e.n
 have hlt:=R.lt
 have nm':=e.nm nm
 refine⟨_,rfl,iteT ⟨fun σ' H'=>∃ m',m'<m∧SrW K t.c_Sheet M H z N m' σ' H',fun _ _ h=>h,?_⟩⟩
 refine⟨_,rfl,_,y,Mc,rfl,hs,e.ok,by omega,by omega,g.mh,g.tt _ hT,fun o1 M1 H1 g1 r1=>?_⟩
 refine⟨_,rfl,_,y,M1,rfl,hs.mono g1.mm,e.ok,by omega,by omega,g1.mh,(g.trans g1).tt _ hT,fun o2 M2 H2 g2 r2=>?_⟩
 have g12:=(g.trans g1).trans g2
 have hs2:=hs.mono (g1.mm.trans g2.mm)
 have turn:∀ (r p:Nat) (u v:Int) (l:List Rat) (a:Rat) (x':V) (M4 H4:Hp) (c d:Option V),y.At r p u v l a→SH.Step y (y.exch r p) u v→Gr M H M4 H4→ShAt K t.c_Sheet M4 (y.exch r p) x'→∃ m',m'<m∧SrW K t.c_Sheet M H z N m' [some x',c,d] H4:=fun r p u v l a x' M4 H4 c d A st g4 h4=>
  ⟨m-1,by omega,y.exch r p,x',M4,L+1,c,d,by omega,rfl,g4,h4,e.step A,(exch_in y r p).1.trans hi,R.step (e.ok.exch A) st (nm'.1 _ (List.mem_of_getElem? A.hu)) (nm'.2 _ (List.mem_of_getElem? A.hv))⟩
 dsimp only [tSeq,tIfS,gName,tAsg]
 refine tAnd_by (decide (oV o1 = .non)) (decide (oV o2 = .non)) (fun Q' h=>⟨_,rfl,_,rfl,h⟩) (fun _ Q' h=>⟨_,rfl,_,rfl,h⟩) ?_
 refine ite2 (fun c=>?_) (fun c=>?_)
 ·have h1:o1=none:=oV_non.mp (by simp at c; exact c.1)
  have h2:o2=none:=oV_non.mp (by simp at c; exact c.2)
  subst h1 h2
  exact⟨_,rfl,three_ok,fun p hp=>q none none y x p _ _ (g12.add hp) upd_same (hs2.mono (same_new (g12.mh.free hp) _)) e hi ⟨r1,r2⟩⟩
 dsimp only [tNext,tSeq,tIfS,gName,tAsg]
 refine tOr_by (decide (oV o2 = .non)) (!decide (oV o1 = .non) && cmpO y o1 o2) (fun Q' h=>⟨_,rfl,_,rfl,h⟩) (fun hb Q' h=>?_) ?_
 ·refine tAnd_by (!decide (oV o1 = .non)) (cmpO y o1 o2) (fun Q' h=>⟨_,rfl,_,rfl,h⟩) (fun hb2 Q' h=>?_) h
  cases o2 with
  | none=>cases hb
  | some p=>
   cases o1 with
   | none=>cases hb2
   | some r=>
    obtain⟨u,hu⟩:=li_lt r1
    obtain⟨v,hv⟩:=lo_lt r2
    obtain⟨o,dx,v1,v2,v3,v4,rfl,ho,h1,h2,h3,h4⟩:=hs2
    obtain⟨b1,x1,rfl,hb1,a1⟩:=h1.lst_inv
    obtain⟨b2,x2,rfl,hb2,a2⟩:=h2.lst_inv
    have e1:=Ats.ints_inv a1
    have e2:=Ats.ints_inv a2
    subst e1 e2
    have hoH:=g12.mh _ _ ho
    refine⟨_,rfl,o,_,dx,_,_,rfl,hoH,T.cl_Sheet,T.na_Sheet_inner,fl_inner _ _ _ _,_,rfl,b1,_,_,_,rfl,rfl,SqL.of (g12.mh _ _ hb1),atI_nat (show (y.inn.map V.int)[r]? = some (.int u) by rw[List.getElem?_map,hu]; rfl),?_⟩
    refine⟨_,rfl,o,_,dx,_,_,rfl,hoH,T.cl_Sheet,T.na_Sheet_outer,fl_outer _ _ _ _,_,rfl,b2,_,_,_,rfl,rfl,SqL.of (g12.mh _ _ hb2),atI_nat (show (y.out.map V.int)[p]? = some (.int v) by rw[List.getElem?_map,hv]; rfl),?_⟩
    have ec:cmpO y (some r) (some p)=decide (u<v):=by
     show decide (y.inn.getD r 0<y.out.getD p 0)=_
     rw[SH.gI hu,SH.gI hv]
    rw[ec] at h
    exact⟨_,_,rfl,rfl,_,rfl,h⟩
 refine ite2 (fun c2=>?_) (fun c2=>?_)
 ·have hA:∃ r,o1=some r∧∀ p,o2=some p→y.inn.getD r 0<y.out.getD p 0:=by
   cases o1 with
   | none=>
    exfalso
    cases o2 with
    | none=>exact c rfl
    | some p=>cases c2
   | some r=>
    refine⟨r,rfl,fun p hp=>?_⟩
    subst hp
    have:cmpO y (some r) (some p)=true:=by simpa [oV] using c2
    exact of_decide_eq_true this
  obtain⟨r,rfl,hc⟩:=hA
  obtain⟨u,l,hu,hl,hb,hstep⟩:=SH.goA e.ok r1 r2 hc
  refine⟨_,rfl,_,rfl,_,y,r,l,M2,rfl,hs2,e.ok,hl,by omega,by omega,g12.mh,g12.tt _ hT,fun o3 M3 H3 g3 r3=>?_⟩
  have g13:=g12.trans g3
  have hs3:=hs2.mono g3.mm
  refine⟨_,rfl,_,rfl,?_⟩
  refine ite2 (fun c3=>?_) (fun c3=>?_)
  ·have h3:o3=none:=oV_non.mp (of_decide_eq_true c3)
   subst h3
   exact⟨_,rfl,_,rfl,three_ok,fun p hp=>q (some r) none y x p _ _ (g13.add hp) upd_same (hs3.mono (same_new (g13.mh.free hp) _)) e hi ⟨u,l,hu,hl,hb,r3⟩⟩
  ·cases o3 with
   | none=>exact absurd rfl c3
   | some p=>
    obtain⟨v,a,A,st⟩:=hstep p r3
    refine⟨_,rfl,_,rfl,_,rfl,_,y,r,p,u,v,l,a,M3,rfl,hs3,e.ok,A,hsz _ e,hsz _ (e.step A),by omega,by omega,g13.mh,fun x' M4 H4 g4 h4=>?_⟩
    exact turn r p u v l a x' M4 H4 _ _ A st (g13.trans g4) h4
 ·have hB:∃ p,o2=some p∧∀ r,o1=some r→¬ y.inn.getD r 0<y.out.getD p 0:=by
   cases o2 with
   | none=>exact absurd rfl c2
   | some p=>
    refine⟨p,rfl,fun r hr hh=>c2 ?_⟩
    subst hr
    have:cmpO y (some r) (some p)=true:=decide_eq_true hh
    simp[oV,this]
  obtain⟨p,rfl,hc⟩:=hB
  obtain⟨v,hv,hg,hstep⟩:=SH.goB e.ok r2 r1 hc
  have hpl:=(List.getElem?_eq_some_iff.mp hv).1
  refine⟨_,rfl,_,rfl,_,y,p,M2,rfl,hs2,e.ok,hpl,by omega,by omega,g12.mh,g12.tt _ hT,fun o3 M3 H3 g3 r3=>?_⟩
  have g13:=g12.trans g3
  have hs3:=hs2.mono g3.mm
  refine⟨_,rfl,_,rfl,?_⟩
  refine ite2 (fun c3=>?_) (fun c3=>?_)
  ·have h3:o3=none:=oV_non.mp (of_decide_eq_true c3)
   subst h3
   exact⟨_,rfl,_,rfl,three_ok,fun a ha=>q none (some p) y x a _ _ (g13.add ha) upd_same (hs3.mono (same_new (g13.mh.free ha) _)) e hi ⟨v,hv,hg,r3⟩⟩
  ·cases o3 with
   | none=>exact absurd rfl c3
   | some r=>
    obtain⟨u,l,a,A,st⟩:=hstep r r3
    refine⟨_,rfl,_,rfl,_,rfl,_,y,r,p,u,v,l,a,M3,rfl,hs3,e.ok,A,hsz _ e,hsz _ (e.step A),by omega,by omega,g13.mh,fun x' M4 H4 g4 h4=>?_⟩
    exact turn r p u v l a x' M4 H4 _ _ A st (g13.trans g4) h4
end
end W1
namespace W1
open PySem PySem.Spec L2
def Kn (K:PySem.W.Frag) (M:Hp) (kvs:List (Key × V)) (f:Int→Rat):Prop:=∀ k:Int,(∃ v,valV kvs (.inl k)=some v∧At K M (frT (f k)) v)∨(valV kvs (.inl k)=none∧f k=0)
theorem Kn.mono {K:PySem.W.Frag} {M M':Hp} {kvs:List (Key × V)} {f:Int→Rat} (h:Kn K M kvs f) (e:Same M M'):Kn K M' kvs f:=fun k=>by
 rcases h k with⟨v,h1,h2⟩ | h
 ·exact .inl ⟨v,h1,h2.mono e⟩
 ·exact .inr h
theorem val_putAll:∀ (ks:List Int) (ys:List V) (m:List (Key × V)) (k:Int),ks.length=ys.length→(∀ (i j:Nat) (u:Int),ks[i]? = some u→ks[j]? = some u→i=j) →
  valV (putAll ks ys m) (.inl k:Key)=match SH.idx ks k with
   | some i=>ys[i]?
   | none=>valV m (.inl k)
 | [],[],m,k,_,_=>rfl
 | w :: ks,y :: ys,m,k,hl,un=>by
  obtain⟨un',nw⟩:=SH.un_tail un
  have ih:=val_putAll ks ys (putK m (.inl w) y) k (by simpa using hl) un'
  show valV (putAll ks ys (putK m (.inl w) y)) (.inl k:Key)=_
  rw[ih]
  rw[show SH.idx (w :: ks) k=if w=k then some 0 else (SH.idx ks k).map (· + 1) from rfl]
  by_cases h:w=k
  ·subst h
   have:SH.idx ks w=none:=by
    cases q:SH.idx ks w with
    | none=>rfl
    | some j=>exact absurd (List.mem_of_getElem? (SH.idx_some q)) nw
   rw[this,if_pos rfl]
   show valV (putK m (.inl w) y) (.inl w:Key)=some y
   rw[valV_put,if_pos rfl]
  ·rw[if_neg h]
   cases q:SH.idx ks k with
   | none=>
    show valV (putK m (.inl w) y) (.inl k:Key)=valV m (.inl k)
    rw[valV_put,if_neg (fun z=>h (Sum.inl.inj z).symm)]
   | some j=>
    show ys[j]? = (y :: ys)[j+1]?
    simp
 | [],_ :: _,_,_,hl,_=>by simp at hl
 | _ :: _,[],_,_,hl,_=>by simp at hl
section
variable {K:PySem.W.Frag} {M:Hp} {ks:List Int} {rs:List Rat} {ys:List V}
theorem kn_all (un:∀ (i j:Nat) (u:Int),ks[i]? = some u→ks[j]? = some u→i=j) (h:Ats K M (rs.map frT) ys) (hl:ks.length=rs.length):Kn K M (putAll ks ys []) (SH.coef ks rs):=fun k=>by
 have hy:ys.length=rs.length:=by have:=h.1; simp at this; exact this.symm
 rw[val_putAll ks ys [] k (by omega) un]
 unfold SH.coef
 cases q:SH.idx ks k with
 | none=>exact .inr ⟨rfl,rfl⟩
 | some i=>
  have hi:=(List.getElem?_eq_some_iff.mp (SH.idx_some q)).1
  obtain⟨x,hx,a⟩:=ln_get h (List.getElem?_eq_getElem (show i<rs.length by omega))
  refine .inl ⟨x,hx,?_⟩
  show At K M (frT (rs.getD i 0)) x
  rw[SH.getD_of (List.getElem?_eq_getElem (show i<rs.length by omega))]
  exact a
theorem Kn.set {kvs:List (Key × V)} {f:Int→Rat} (h:Kn K M kvs f) {u:Int} {v:V} {r:Rat} (a:At K M (frT r) v):Kn K M (putK kvs (.inl u) v) (fun k=>if k=u then r else f k):=fun k=>by
 rw[valV_put]
 by_cases e:k=u
 ·subst e
  refine .inl ⟨v,if_pos rfl,?_⟩
  show At K M (frT (if k=k then r else f k)) v
  rw[if_pos rfl]
  exact a
 ·rw[if_neg (fun z=>e (Sum.inl.inj z))]
  show (∃ v,_∧At K M (frT (if k=u then r else f k)) v)∨(_∧(if k=u then r else f k)=0)
  rw[if_neg e]
  exact h k
end
def spOw (K:PySem.W.Frag) (C:Addr):Sp:=fun vs H Q _=>∃ (v:V) (d:Addr) (s:SH.Sh) (kvs:List (Key × V)) (f:Int→Rat) (M:Hp),vs=[v,.ref d]∧ShAt K C M s v∧M d=some (.dK kvs)∧Kn K M kvs f∧s.inn.length≤100∧s.out.length≤100∧Same M H∧Res K M H (lnT (SH.at_ f 0 s.out.length)) Q
def spOs (K:PySem.W.Frag) (C:Addr):Sp:=fun vs H Q _=>∃ (v:V) (d:Addr) (s:SH.Sh) (kvs:List (Key × V)) (f:Int→Rat) (M:Hp),vs=[v,.ref d]∧ShAt K C M s v∧M d=some (.dK kvs)∧Kn K M kvs f∧s.inn.length≤100∧s.out.length≤100∧Same M H∧Res K M H (lnT (SH.at_ f s.out.length s.inn.length)) Q
theorem at_range (f:Int→Rat) (lo:Int) (n:Nat):(List.range n).map (fun i=>frT (f (lo+(i:Nat))))=(SH.at_ f lo n).map frT:=by
 unfold SH.at_ SH.nms
 rw[List.map_map,List.map_map]
 rfl
def spOf1 (K:PySem.W.Frag) (C:Addr) (F:SH.Sh→List Rat):Sp:=fun vs H Q _=>∃ (v:V) (s:SH.Sh) (M:Hp),vs=[v]∧ShAt K C M s v∧s.Ok∧s.inn.length≤100∧s.out.length≤100∧Same M H∧Res K M H (lnT (F s)) Q
def spWe (K:PySem.W.Frag) (C:Addr):Sp:=fun vs H Q _=>∃ (v:V) (s:SH.Sh) (r:Nat) (u:Int) (M:Hp),vs=[v,.int r]∧ShAt K C M s v∧s.Ok∧s.inn[r]? = some u∧s.inn.length≤100∧s.out.length≤100∧Same M H∧Res K M H (lnT (SH.at_ (s.weightF r) s.out.length s.inn.length)) Q
def spWa (K:PySem.W.Frag) (C:Addr):Sp:=fun vs H Q _=>∃ (v:V) (s:SH.Sh) (p:Nat) (u:Int) (M:Hp),vs=[v,.int p]∧ShAt K C M s v∧s.Ok∧s.out[p]? = some u∧s.inn.length≤100∧s.out.length≤100∧Same M H∧Res K M H (lnT (SH.at_ (s.wayF p) 0 s.out.length)) Q
theorem room_one {k:Nat} {A:Around} (r:Room k A):A.units+1<cLine:=by
 have:=r.un
 omega
section
variable {P:Program} {w:World} {K:PySem.W.Frag} {mg:Str→Option Value} {base:Heap} {t:Adr} {k:Nat}
theorem kn_get {M:Hp} {kvs:List (Key × V)} {f:Int→Rat} (T:Txt K mg t) (h:Kn K M kvs f) (k:Int):At K M (frT (f k)) ((valV kvs (.inl k:Key)).getD (.ref t.k_NOUGHT)):=by
 rcases h k with⟨v,h1,h2⟩ | ⟨h1,h2⟩
 ·rw[h1]; exact h2
 ·rw[h1,h2]; exact nought_T T
theorem ok_of_wares (T:Txt K mg t):FnOk P w K mg base (CXE P w) (k+1) t.f_of_wares t.d_of_wares ["sheet","known"] (spOw K t.c_Sheet):=by
 refine T.F_of_wares.okE sc_of_wares (fun vs H Q E h=>?_) (fun cdv A outer s H vs Q E hr h=>?_)
 ·obtain⟨v,d,z,kvs,f,M,rfl,_⟩:=h
  rfl
 obtain⟨v,d,z,kvs,f,M,rfl,⟨o,dx,v1,v2,v3,v4,rfl,ho,h1,h2,h3,h4⟩,hd,kn,li,lo,hM,q⟩:=h
 have hoH:=hM _ _ ho
 obtain⟨b2,x2,rfl,hb2,a2⟩:=h2.lst_inv
 have e2:=Ats.ints_inv a2
 subst e2
 have hu:=room_one hr
 refine⟨_,(pss_one (ps_ret (pe_compG rfl (compt_of (n:=1) (js:=[1]) (Nb:=["ware","known"]) (by kernel_rfl) rfl (by decide +kernel) (by decide) (by kernel_rfl)) (pi_range1 rfl T.n_range (pa_cons (pe_callB call_len_seq rfl T.n_len PySem.boot_len (pa_cons (pe_fld (pv 0) rfl) pa_nil)) pa_nil)) (fun C s0 H0 fp pn'=>(pg_name (i:=0) (nd_of (l:=["ware","known"]) (by decide +kernel)) rfl (Or.inl rfl))) own_name (fun C s0 H0 fp pn'=>pts_none) (fun C s0 H0 fp pn'=>(pe_dget2 hu (pv 1) (pv 0) (pe_glob (v:=.ref t.k_NOUGHT) rfl T.m_NOUGHT rfl) ⟨rfl,rfl,rfl,rfl⟩))))),?_⟩
 refine⟨_,rfl,o,_,dx,_,_,rfl,hoH,T.cl_Sheet,T.na_Sheet_outer,fl_outer _ _ _ _,b2,_,rfl,.inl (SqL.of (hM _ _ hb2)),_,rfl,by simp <;> omega,by simp <;> omega,fun y hy=>cm_range (K:=K) (M:=M) (n:=(z.out.map V.int).length) (F:=fun i=>frT (f (0+(i:Nat)))) hM (by simp <;> omega) hy (fun i Mi Hi Qy hi gi kk=>?_) (fun M2 H2 ys g2 m2 hys at2=>?_)⟩
 ·have hdi:=gi.mh _ _ (gi.mm _ _ hd)
  exact⟨_,rfl,d,rfl,.inl ⟨_,.inl hdi⟩,_,rfl,_,DGet.k (k:=.inl (0+(i:Int))) hdi,kk _ _ _ (Gr.refl gi.mh) ((kn_get T kn _).mono gi.mm)⟩
 rw[at_range,List.length_map] at at2
 exact q _ _ _ (g2.frz hy m2 hys) ((at2.mono (same_new m2 _)).lst upd_same)
theorem ok_of_stocks (T:Txt K mg t):FnOk P w K mg base (CXE P w) (k+1) t.f_of_stocks t.d_of_stocks ["sheet","known"] (spOs K t.c_Sheet):=by
 refine T.F_of_stocks.okE sc_of_stocks (fun vs H Q E h=>?_) (fun cdv A outer s H vs Q E hr h=>?_)
 ·obtain⟨v,d,z,kvs,f,M,rfl,_⟩:=h
  rfl
 obtain⟨v,d,z,kvs,f,M,rfl,⟨o,dx,v1,v2,v3,v4,rfl,ho,h1,h2,h3,h4⟩,hd,kn,li,lo,hM,q⟩:=h
 have hoH:=hM _ _ ho
 obtain⟨b1,x1,rfl,hb1,a1⟩:=h1.lst_inv
 obtain⟨b2,x2,rfl,hb2,a2⟩:=h2.lst_inv
 have e1:=Ats.ints_inv a1
 have e2:=Ats.ints_inv a2
 subst e1 e2
 have hu:=room_one hr
 refine⟨_,(pss_cons (ps_set (i:=2) sc_of_stocks.nd rfl (Or.inr rfl) (pe_callB call_len_seq rfl T.n_len PySem.boot_len (pa_cons (pe_fld (pv 0) rfl) pa_nil)))
  (pss_one (ps_ret (pe_compG rfl (compt_of (n:=1) (js:=[1,2]) (Nb:=["stock","known","wares"]) (by kernel_rfl) rfl (by decide +kernel) (by decide) (by kernel_rfl)) (pi_range1 rfl T.n_range (pa_cons (pe_callB call_len_seq rfl T.n_len PySem.boot_len (pa_cons (pe_fld (pv 0) rfl) pa_nil)) pa_nil)) (fun C s0 H0 fp pn'=>(pg_name (i:=0) (nd_of (l:=["stock","known","wares"]) (by decide +kernel)) rfl (Or.inl rfl))) own_name (fun C s0 H0 fp pn'=>pts_none) (fun C s0 H0 fp pn'=>(pe_dget2 hu (pv 1) (pe_op op_add (pv 2) (pv 0)) (pe_glob (v:=.ref t.k_NOUGHT) rfl T.m_NOUGHT rfl) ⟨rfl,rfl,rfl,rfl⟩)))))),?_⟩
 refine⟨_,rfl,o,_,dx,_,_,rfl,hoH,T.cl_Sheet,T.na_Sheet_outer,fl_outer _ _ _ _,b2,_,rfl,.inl (SqL.of (hM _ _ hb2)),?_⟩
 refine⟨_,rfl,o,_,dx,_,_,rfl,hoH,T.cl_Sheet,T.na_Sheet_inner,fl_inner _ _ _ _,b1,_,rfl,.inl (SqL.of (hM _ _ hb1)),_,rfl,by simp <;> omega,by simp <;> omega,fun y hy=>cm_range (K:=K) (M:=M) (n:=(z.inn.map V.int).length) (F:=fun i=>frT (f (((z.out.map V.int).length:Nat)+(0+(i:Nat):Int)))) hM (by simp <;> omega) hy (fun i Mi Hi Qy hi gi kk=>?_) (fun M2 H2 ys g2 m2 hys at2=>?_)⟩
 ·have hdi:=gi.mh _ _ (gi.mm _ _ hd)
  exact⟨_,rfl,d,rfl,.inl ⟨_,.inl hdi⟩,_,rfl,_,rfl,_,_,rfl,rfl,_,DGet.k (k:=.inl (((z.out.map V.int).length:Nat)+(0+(i:Int)))) hdi,kk _ _ _ (Gr.refl gi.mh) ((kn_get T kn _).mono gi.mm)⟩
 simp only [List.length_map,Int.zero_add] at at2
 rw[at_range] at at2
 exact q _ _ _ (g2.frz hy m2 hys) ((at2.mono (same_new m2 _)).lst upd_same)
theorem ok_plan_of (T:Txt K mg t) (G_of_wares:FnOk P w K mg base (CXE P w) k t.f_of_wares t.d_of_wares ["sheet","known"] (spOw K t.c_Sheet)) :
  FnOk P w K mg base (CXE P w) (k+1) t.f_plan_of t.d_plan_of ["sheet"] (spOf1 K t.c_Sheet fun s=>SH.at_ s.planF 0 s.out.length):=by
 refine T.F_plan_of.okE sc_plan_of (fun vs H Q E h=>?_) (fun cdv A outer s H vs Q E hr h=>?_)
 ·obtain⟨v,z,M,rfl,_⟩:=h
  rfl
 obtain⟨v,z,M,rfl,hs,ok,li,lo,hM,q⟩:=h
 obtain⟨o,dx,v1,v2,v3,v4,rfl,ho,h1,h2,h3,h4⟩:=id hs
 have hoH:=hM _ _ ho
 obtain⟨b1,x1,rfl,hb1,a1⟩:=h1.lst_inv
 obtain⟨b3,x3,rfl,hb3,a3⟩:=h3.lst_inv
 have e1:=Ats.ints_inv a1
 subst e1
 have l3:x3.length=z.inn.length:=by have:=a3.1; simp at this; rw[← this,ok.ln]
 refine⟨_,(pss_one (ps_ret (pe_call G_of_wares hr rfl T.m_of_wares T.F_of_wares.kp T.b_of_wares .nil pass_no (pa_cons (pv 0) (pa_cons (pe_dz hr.hd rfl T.n_dict rfl T.n_zip (pa_cons (pe_fld (pv 0) rfl) (pa_cons (pe_compG rfl (compt_of (n:=1) (js:=[]) (Nb:=["line"]) (by kernel_rfl) rfl (by decide +kernel) (by decide) (by kernel_rfl)) (pi_list (pe_fld (pv 0) rfl)) (fun C s0 H0 fp pn'=>(pg_name (i:=0) (nd_of (l:=["line"]) (by decide +kernel)) rfl (Or.inl rfl))) own_name (fun C s0 H0 fp pn'=>pts_none) (fun C s0 H0 fp pn'=>(pe_ix (r:=rIxL K) ix_list (pv 0) (pe_un un_neg pe_int) (fun _ _=>rfl)))) pa_nil))) pa_nil))))),?_⟩
 refine⟨_,rfl,_,rfl,o,_,dx,_,_,rfl,hoH,T.cl_Sheet,T.na_Sheet_inner,fl_inner _ _ _ _,_,rfl,o,_,dx,_,_,rfl,hoH,T.cl_Sheet,T.na_Sheet_lines,fl_lines _ _ _ _,b3,rfl,⟨_,SqL.of (hM _ _ hb3)⟩,fun y hy=>cm_list (K:=K) (M:=M) (F:=fun i=>frT ((z.ln.getD i []).getD z.out.length 0)) hM hb3 (by omega) hy (fun i x Mi Hi Qy hx gi kk=>?_) (fun M2 H2 ys g2 m2 hys at2=>?_)⟩
 ·obtain⟨l,hl,atl⟩:=lns_get' a3 hx
  have hw:=ok.wd l (List.mem_of_getElem? hl)
  obtain⟨b,xs,rfl,hb,ats⟩:=atl.lst_inv
  have hxl:xs.length=z.out.length+1:=by have:=ats.1; simp at this; omega
  have hd:=List.getElem?_eq_getElem (show z.out.length<l.length by omega)
  obtain⟨xp,hxp,atp⟩:=ln_get ats hd
  refine⟨_,rfl,_,rfl,b,_,_,_,rfl,rfl,SqL.of (gi.mh _ _ (gi.mm _ _ hb)),atI_m1 hxl hxp,kk _ _ _ (Gr.refl gi.mh) ?_⟩
  rw[SH.gD hl,SH.getD_of hd]
  exact atp.mono gi.mm
 have at3:Ats K M2 (z.bases.map frT) ys:=ats_range at2 (by unfold SH.Sh.bases; simp[ok.ln,l3]) fun i t ht=>by
  unfold SH.Sh.bases at ht
  rw[List.map_map,List.getElem?_map] at ht
  cases e:z.ln[i]? with
  | none=>rw[e] at ht; cases ht
  | some l=>rw[e] at ht; cases ht; rw[SH.gD e]; rfl
 have hyl:ys.length=z.inn.length:=by have:=at3.1; unfold SH.Sh.bases at this; simp at this; rw[← this,ok.ln]
 refine⟨b1,y,z.inn,ys,rfl,SqL.of (g2.hh _ _ (hM _ _ hb1)),SqL.of hys,hyl.symm,by omega,fun d hd=>?_⟩
 have g3:Gr M H (upd M2 d (.dK (putAll z.inn ys []))) (upd H2 d (.dK (putAll z.inn ys []))):=g2.add hd
 have s23:Same M2 (upd M2 d (.dK (putAll z.inn ys []))):=same_new (g2.mh.free hd) _
 exact⟨_,d,z,_,z.planF,_,rfl,hs.mono g3.mm,upd_same,(kn_all ok.un.l at3 (by unfold SH.Sh.bases; simp[ok.ln])).mono s23,li,lo,g3.mh,fun v' M4 H4 g4 h4=>q v' M4 H4 (g3.trans g4) h4⟩
theorem opp_list {M:Hp} {l:List Rat} {n:Nat} {ys:List V} (hl:l.length=n+1) (h:Ats K M ((List.range n).map fun i=>frT (-(l.getD i 0))) ys):Ats K M (((l.take n).map fun x=>-x).map frT) ys:=ats_range h (by simp <;> omega) fun i t ht=>by
 rw[List.map_map,List.getElem?_map,List.getElem?_take] at ht
 split at ht
 ·cases e:l[i]? with
  | none=>rw[e] at ht; cases ht
  | some r=>rw[e] at ht; cases ht; rw[SH.getD_of e]; rfl
 ·cases ht
theorem ok_prices_of (T:Txt K mg t) (G_opposite:FnOk P w K mg base (CXE P w) k t.f_opposite t.d_opposite ["fraction"] (spOpp K)) (G_of_stocks:FnOk P w K mg base (CXE P w) k t.f_of_stocks t.d_of_stocks ["sheet","known"] (spOs K t.c_Sheet)) :
  FnOk P w K mg base (CXE P w) (k+1) t.f_prices_of t.d_prices_of ["sheet"] (spOf1 K t.c_Sheet fun s=>SH.at_ s.priceF s.out.length s.inn.length):=by
 refine T.F_prices_of.okE sc_prices_of (fun vs H Q E h=>?_) (fun cdv A outer s H vs Q E hr h=>?_)
 ·obtain⟨v,z,M,rfl,_⟩:=h
  rfl
 obtain⟨v,z,M,rfl,hs,ok,li,lo,hM,q⟩:=h
 obtain⟨o,dx,v1,v2,v3,v4,rfl,ho,h1,h2,h3,h4⟩:=id hs
 have hoH:=hM _ _ ho
 obtain⟨b2,x2,rfl,hb2,a2⟩:=h2.lst_inv
 obtain⟨b4,x4,rfl,hb4,a4⟩:=h4.lst_inv
 have e2:=Ats.ints_inv a2
 subst e2
 have l4:x4.length=z.out.length+1:=by have:=a4.1; simp at this; rw[← this,ok.gl]
 refine⟨_,(pss_one (ps_ret (pe_call G_of_stocks hr rfl T.m_of_stocks T.F_of_stocks.kp T.b_of_stocks .nil pass_no (pa_cons (pv 0) (pa_cons (pe_dz hr.hd rfl T.n_dict rfl T.n_zip (pa_cons (pe_fld (pv 0) rfl) (pa_cons (pe_compG rfl (compt_of (n:=1) (js:=[]) (Nb:=["part"]) (by kernel_rfl) rfl (by decide +kernel) (by decide) (by kernel_rfl)) (pi_list (pe_slice sl_list (pe_fld (pv 0) rfl) po_none (po_some (pe_un un_neg pe_int)))) (fun C s0 H0 fp pn'=>(pg_name (i:=0) (nd_of (l:=["part"]) (by decide +kernel)) rfl (Or.inl rfl))) own_name (fun C s0 H0 fp pn'=>pts_none) (fun C s0 H0 fp pn'=>(pe_call G_opposite hr rfl T.m_opposite T.F_opposite.kp T.b_opposite .nil pass_no (pa_cons (pv 0) pa_nil)))) pa_nil))) pa_nil))))),?_⟩
 refine⟨_,rfl,_,rfl,o,_,dx,_,_,rfl,hoH,T.cl_Sheet,T.na_Sheet_outer,fl_outer _ _ _ _,_,rfl,o,_,dx,_,_,rfl,hoH,T.cl_Sheet,T.na_Sheet_goal,fl_goal _ _ _ _,_,rfl,_,rfl,b4,_,rfl,SqL.of (hM _ _ hb4),fun c hc=>?_⟩
 rw[cut_m1 l4]
 have g0:Gr M H (upd M c (.lst (x4.take z.out.length))) (upd H c (.lst (x4.take z.out.length))):=(Gr.refl hM).add hc
 have hc0:(upd M c (.lst (x4.take z.out.length))) c=some (.lst (x4.take z.out.length)):=upd_same
 generalize upd M c (.lst (x4.take z.out.length))=M0 at g0 hc0
 generalize upd H c (.lst (x4.take z.out.length))=H0 at g0 ⊢
 have lt:(x4.take z.out.length).length=z.out.length:=by rw[List.length_take]; omega
 refine⟨c,rfl,⟨_,SqL.of (g0.mh _ _ hc0)⟩,fun y hy=>cm_list (K:=K) (M:=M0) (F:=fun i=>frT (-(z.gl.getD i 0))) g0.mh hc0 (by omega) hy (fun i x Mi Hi Qy hx gi kk=>?_) (fun M2 H2 ys g2 m2 hys at2=>?_)⟩
 ·rw[List.getElem?_take] at hx
  split at hx
  ·obtain⟨r,hr0,atr⟩:=ln_get' a4 hx
   refine⟨_,rfl,_,r,Mi,rfl,atr.mono (g0.mm.trans gi.mm),gi.mh,fun x' M4 H4 g4 t4=>kk x' M4 H4 g4 ?_⟩
   rw[SH.getD_of hr0]
   exact t4
  ·cases hx
 rw[lt] at at2
 have at3:=opp_list ok.gl at2
 have hyl:ys.length=z.out.length:=by have:=at3.1; simp[ok.gl] at this; omega
 have g02:=g0.trans g2
 refine⟨b2,y,z.out,ys,rfl,SqL.of (g02.hh _ _ (hM _ _ hb2)),SqL.of hys,hyl.symm,by omega,fun d hd=>?_⟩
 have g3:Gr M H (upd M2 d (.dK (putAll z.out ys []))) (upd H2 d (.dK (putAll z.out ys []))):=g02.add hd
 have s23:Same M2 (upd M2 d (.dK (putAll z.out ys []))):=same_new (g2.mh.free hd) _
 exact⟨_,d,z,_,z.priceF,_,rfl,hs.mono g3.mm,upd_same,(kn_all ok.un.r at3 (by simp[ok.gl])).mono s23,li,lo,g3.mh,fun v' M4 H4 g4 h4=>q v' M4 H4 (g3.trans g4) h4⟩
theorem ok_weights_of (T:Txt K mg t) (G_opposite:FnOk P w K mg base (CXE P w) k t.f_opposite t.d_opposite ["fraction"] (spOpp K)) (G_of_stocks:FnOk P w K mg base (CXE P w) k t.f_of_stocks t.d_of_stocks ["sheet","known"] (spOs K t.c_Sheet)) :
  FnOk P w K mg base (CXE P w) (k+1) t.f_weights_of t.d_weights_of ["sheet","row"] (spWe K t.c_Sheet):=by
 refine T.F_weights_of.okE sc_weights_of (fun vs H Q E h=>?_) (fun cdv A outer s H vs Q E hr h=>?_)
 ·obtain⟨v,z,r,u,M,rfl,_⟩:=h
  rfl
 obtain⟨v,z,r,u,M,rfl,hs,ok,hur,li,lo,hM,q⟩:=h
 obtain⟨o,dx,v1,v2,v3,v4,rfl,ho,h1,h2,h3,h4⟩:=id hs
 have hoH:=hM _ _ ho
 obtain⟨b1,x1,rfl,hb1,a1⟩:=h1.lst_inv
 obtain⟨b2,x2,rfl,hb2,a2⟩:=h2.lst_inv
 obtain⟨b3,x3,rfl,hb3,a3⟩:=h3.lst_inv
 have e1:=Ats.ints_inv a1
 have e2:=Ats.ints_inv a2
 subst e1 e2
 have hrl:r<z.ln.length:=by rw[ok.ln]; exact (List.getElem?_eq_some_iff.mp hur).1
 have hl:=List.getElem?_eq_getElem hrl
 generalize hL:z.ln[r]=l at hl
 obtain⟨vl,hvl,atl⟩:=lns_get a3 hl
 obtain⟨b4,x4,rfl,hb4,a4⟩:=atl.lst_inv
 have hw:=ok.wd l (List.mem_of_getElem? hl)
 have l4:x4.length=z.out.length+1:=by have:=a4.1; simp at this; omega
 have hu:=room_one hr
 refine⟨_,(pss_cons (ps_set (i:=2) sc_weights_of.nd rfl (Or.inl rfl) (pe_dz hr.hd rfl T.n_dict rfl T.n_zip (pa_cons (pe_fld (pv 0) rfl) (pa_cons (pe_compG rfl (compt_of (n:=1) (js:=[]) (Nb:=["part"]) (by kernel_rfl) rfl (by decide +kernel) (by decide) (by kernel_rfl)) (pi_list (pe_slice sl_list (pe_ix ix_list (pe_fld (pv 0) rfl) (pv 1) (fun _ _=>rfl)) po_none (po_some (pe_un un_neg pe_int)))) (fun C s0 H0 fp pn'=>(pg_name (i:=0) (nd_of (l:=["part"]) (by decide +kernel)) rfl (Or.inl rfl))) own_name (fun C s0 H0 fp pn'=>pts_none) (fun C s0 H0 fp pn'=>(pe_call G_opposite hr rfl T.m_opposite T.F_opposite.kp T.b_opposite .nil pass_no (pa_cons (pv 0) pa_nil)))) pa_nil))))
  (pss_cons (ps_dput hu (pv 2) (pe_ix ix_list (pe_fld (pv 0) rfl) (pv 1) (fun _ _=>rfl)) (pe_glob (v:=.ref t.k_ONE) rfl T.m_ONE rfl) rfl)
  (pss_one (ps_ret (pe_call G_of_stocks hr rfl T.m_of_stocks T.F_of_stocks.kp T.b_of_stocks .nil pass_no (pa_cons (pv 0) (pa_cons (pv 2) pa_nil))))))),?_⟩
 refine⟨_,rfl,o,_,dx,_,_,rfl,hoH,T.cl_Sheet,T.na_Sheet_outer,fl_outer _ _ _ _,_,rfl,o,_,dx,_,_,rfl,hoH,T.cl_Sheet,T.na_Sheet_lines,fl_lines _ _ _ _,_,rfl,b3,_,_,_,rfl,rfl,SqL.of (hM _ _ hb3),atI_nat hvl,_,rfl,_,rfl,b4,_,rfl,SqL.of (hM _ _ hb4),fun c hc=>?_⟩
 rw[cut_m1 l4]
 have g0:Gr M H (upd M c (.lst (x4.take z.out.length))) (upd H c (.lst (x4.take z.out.length))):=(Gr.refl hM).add hc
 have hc0:(upd M c (.lst (x4.take z.out.length))) c=some (.lst (x4.take z.out.length)):=upd_same
 generalize upd M c (.lst (x4.take z.out.length))=M0 at g0 hc0
 generalize upd H c (.lst (x4.take z.out.length))=H0 at g0 ⊢
 have lt:(x4.take z.out.length).length=z.out.length:=by rw[List.length_take]; omega
 refine⟨c,rfl,⟨_,SqL.of (g0.mh _ _ hc0)⟩,fun y hy=>cm_list (K:=K) (M:=M0) (F:=fun i=>frT (-(l.getD i 0))) g0.mh hc0 (by omega) hy (fun i x Mi Hi Qy hx gi kk=>?_) (fun M2 H2 ys g2 m2 hys at2=>?_)⟩
 ·rw[List.getElem?_take] at hx
  split at hx
  ·obtain⟨r,hr0,atr⟩:=ln_get' a4 hx
   refine⟨_,rfl,_,r,Mi,rfl,atr.mono (g0.mm.trans gi.mm),gi.mh,fun x' M4 H4 g4 t4=>kk x' M4 H4 g4 ?_⟩
   rw[SH.getD_of hr0]
   exact t4
  ·cases hx
 rw[lt] at at2
 have at3:=opp_list hw at2
 have hyl:ys.length=z.out.length:=by have:=at3.1; simp[hw] at this; omega
 have g02:=g0.trans g2
 refine⟨b2,y,z.out,ys,rfl,SqL.of (g02.hh _ _ (hM _ _ hb2)),SqL.of hys,hyl.symm,by omega,fun d hd=>?_⟩
 have g3:Gr M H M2 (upd H2 d (.dK (putAll z.out ys []))):=g02.new hd
 have m2d:M2 d=none:=g2.mh.free hd
 have hd0:H d=none:=g02.hfree hd
 have hlen:(putAll z.out ys []).length<sizeLine:=small1000 (Nat.le_trans (putAll_len _ _ _) (by rw[List.length_nil]; omega))
 refine⟨_,rfl,_,rfl,o,_,dx,_,_,rfl,g3.hh _ _ hoH,T.cl_Sheet,T.na_Sheet_inner,fl_inner _ _ _ _,_,rfl,b1,_,_,_,rfl,rfl,SqL.of (g3.hh _ _ (hM _ _ hb1)),atI_nat (show (z.inn.map V.int)[r]? = some (.int u) by rw[List.getElem?_map,hur]; rfl),d,_,rfl,.inl ⟨_,.inl u,upd_same,rfl,hlen,rfl⟩,?_⟩
 have g4:Gr M H (upd M2 d (.dK (putK (putAll z.out ys []) (.inl u) (.ref t.k_ONE)))) (upd (upd H2 d (.dK (putAll z.out ys []))) d (.dK (putK (putAll z.out ys []) (.inl u) (.ref t.k_ONE)))):=(g3.putK hd0 m2d upd_same).frz hd0 m2d upd_same
 have s23:Same M2 (upd M2 d (.dK (putK (putAll z.out ys []) (.inl u) (.ref t.k_ONE)))):=same_new m2d _
 have kn:=((kn_all ok.un.r at3 (by simp[hw])).set (u:=u) (one_T (M:=M2) T)).mono s23
 have ef:(fun k=>if k=u then 1 else SH.coef z.out ((l.take z.out.length).map fun x=>-x) k)=z.weightF r:=by
  funext k
  unfold SH.Sh.weightF
  rw[SH.gI hur,SH.gD hl]
 rw[ef] at kn
 exact⟨_,rfl,_,rfl,_,d,z,_,z.weightF r,_,rfl,hs.mono g4.mm,upd_same,kn,li,lo,g4.mh,fun v' M4 H4 g5 h4=>q v' M4 H4 (g4.trans g5) h4⟩
theorem ok_way_of (T:Txt K mg t) (G_of_wares:FnOk P w K mg base (CXE P w) k t.f_of_wares t.d_of_wares ["sheet","known"] (spOw K t.c_Sheet)) :
  FnOk P w K mg base (CXE P w) (k+1) t.f_way_of t.d_way_of ["sheet","place"] (spWa K t.c_Sheet):=by
 refine T.F_way_of.okE sc_way_of (fun vs H Q E h=>?_) (fun cdv A outer s H vs Q E hr h=>?_)
 ·obtain⟨v,z,p,u,M,rfl,_⟩:=h
  rfl
 obtain⟨v,z,p,u,M,rfl,hs,ok,hup,li,lo,hM,q⟩:=h
 obtain⟨o,dx,v1,v2,v3,v4,rfl,ho,h1,h2,h3,h4⟩:=id hs
 have hoH:=hM _ _ ho
 obtain⟨b1,x1,rfl,hb1,a1⟩:=h1.lst_inv
 obtain⟨b2,x2,rfl,hb2,a2⟩:=h2.lst_inv
 obtain⟨b3,x3,rfl,hb3,a3⟩:=h3.lst_inv
 have e1:=Ats.ints_inv a1
 have e2:=Ats.ints_inv a2
 subst e1 e2
 have l3:x3.length=z.inn.length:=by have:=a3.1; simp at this; rw[← this,ok.ln]
 have hpl:=(List.getElem?_eq_some_iff.mp hup).1
 have hu:=room_one hr
 refine⟨_,(pss_cons (ps_set (i:=2) sc_way_of.nd rfl (Or.inl rfl) (pe_dz hr.hd rfl T.n_dict rfl T.n_zip (pa_cons (pe_fld (pv 0) rfl) (pa_cons (pe_compG rfl (compt_of (n:=1) (js:=[1]) (Nb:=["line","place"]) (by kernel_rfl) rfl (by decide +kernel) (by decide) (by kernel_rfl)) (pi_list (pe_fld (pv 0) rfl)) (fun C s0 H0 fp pn'=>(pg_name (i:=0) (nd_of (l:=["line","place"]) (by decide +kernel)) rfl (Or.inl rfl))) own_name (fun C s0 H0 fp pn'=>pts_none) (fun C s0 H0 fp pn'=>(pe_ix (r:=rIxL K) ix_list (pv 0) (pv 1) (fun _ _=>rfl)))) pa_nil))))
  (pss_cons (ps_dput hu (pv 2) (pe_ix ix_list (pe_fld (pv 0) rfl) (pv 1) (fun _ _=>rfl)) (pe_glob (v:=.ref t.k_ONE) rfl T.m_ONE rfl) rfl)
  (pss_one (ps_ret (pe_call G_of_wares hr rfl T.m_of_wares T.F_of_wares.kp T.b_of_wares .nil pass_no (pa_cons (pv 0) (pa_cons (pv 2) pa_nil))))))),?_⟩
 refine⟨_,rfl,o,_,dx,_,_,rfl,hoH,T.cl_Sheet,T.na_Sheet_inner,fl_inner _ _ _ _,_,rfl,o,_,dx,_,_,rfl,hoH,T.cl_Sheet,T.na_Sheet_lines,fl_lines _ _ _ _,b3,rfl,⟨_,SqL.of (hM _ _ hb3)⟩,fun y hy=>cm_list (K:=K) (M:=M) (F:=fun i=>frT ((z.ln.getD i []).getD p 0)) hM hb3 (by omega) hy (fun i x Mi Hi Qy hx gi kk=>?_) (fun M2 H2 ys g2 m2 hys at2=>?_)⟩
 ·obtain⟨l,hl,atl⟩:=lns_get' a3 hx
  have hw:=ok.wd l (List.mem_of_getElem? hl)
  obtain⟨b,xs,rfl,hb,ats⟩:=atl.lst_inv
  have hd:=List.getElem?_eq_getElem (show p<l.length by omega)
  obtain⟨xp,hxp,atp⟩:=ln_get ats hd
  refine⟨_,rfl,_,rfl,b,_,_,_,rfl,rfl,SqL.of (gi.mh _ _ (gi.mm _ _ hb)),atI_nat hxp,kk _ _ _ (Gr.refl gi.mh) ?_⟩
  rw[SH.gD hl,SH.getD_of hd]
  exact atp.mono gi.mm
 have at3:Ats K M2 ((z.ln.map fun l=>l.getD p 0).map frT) ys:=ats_range at2 (by simp[ok.ln,l3]) fun i t ht=>by
  rw[List.map_map,List.getElem?_map] at ht
  cases e:z.ln[i]? with
  | none=>rw[e] at ht; cases ht
  | some l=>rw[e] at ht; cases ht; rw[SH.gD e]; rfl
 have hyl:ys.length=z.inn.length:=by have:=at3.1; simp at this; rw[← this,ok.ln]
 refine⟨b1,y,z.inn,ys,rfl,SqL.of (g2.hh _ _ (hM _ _ hb1)),SqL.of hys,hyl.symm,by omega,fun d hd=>?_⟩
 have g3:Gr M H M2 (upd H2 d (.dK (putAll z.inn ys []))):=g2.new hd
 have m2d:M2 d=none:=g2.mh.free hd
 have hd0:H d=none:=g2.hfree hd
 have hlen:(putAll z.inn ys []).length<sizeLine:=small1000 (Nat.le_trans (putAll_len _ _ _) (by rw[List.length_nil]; omega))
 refine⟨_,rfl,_,rfl,o,_,dx,_,_,rfl,g3.hh _ _ hoH,T.cl_Sheet,T.na_Sheet_outer,fl_outer _ _ _ _,_,rfl,b2,_,_,_,rfl,rfl,SqL.of (g3.hh _ _ (hM _ _ hb2)),atI_nat (show (z.out.map V.int)[p]? = some (.int u) by rw[List.getElem?_map,hup]; rfl),d,_,rfl,.inl ⟨_,.inl u,upd_same,rfl,hlen,rfl⟩,?_⟩
 have g4:Gr M H (upd M2 d (.dK (putK (putAll z.inn ys []) (.inl u) (.ref t.k_ONE)))) (upd (upd H2 d (.dK (putAll z.inn ys []))) d (.dK (putK (putAll z.inn ys []) (.inl u) (.ref t.k_ONE)))):=(g3.putK hd0 m2d upd_same).frz hd0 m2d upd_same
 have s23:Same M2 (upd M2 d (.dK (putK (putAll z.inn ys []) (.inl u) (.ref t.k_ONE)))):=same_new m2d _
 have kn:=((kn_all ok.un.l at3 (by simp[ok.ln])).set (u:=u) (one_T (M:=M2) T)).mono s23
 have ef:(fun k=>if k=u then 1 else SH.coef z.inn (z.ln.map fun l=>l.getD p 0) k)=z.wayF p:=by
  funext k
  unfold SH.Sh.wayF
  rw[SH.gI hup]
 rw[ef] at kn
 exact⟨_,rfl,_,rfl,_,d,z,_,z.wayF p,_,rfl,hs.mono g4.mm,upd_same,kn,li,lo,g4.mh,fun v' M4 H4 g5 h4=>q v' M4 H4 (g4.trans g5) h4⟩
end
end W1
namespace W1
open PySem PySem.Spec L2
def ansT:SH.Ans→Tr
 | .best x y=>.tup [.str "best",lnT x,lnT y]
 | .no w=>.tup [.str "none",lnT w]
 | .endl x d=>.tup [.str "endless",lnT x,lnT d]
def spNoG (K:PySem.W.Frag) (C:Addr):Sp:=fun vs H Q _=>∃ (v:V) (s:SH.Sh) (M:Hp),vs=[v]∧ShAt K C M s v∧s.gl.length≤200∧Same M H ∧
 ∀ (x:V) (M' H':Hp),Gr M H M' H'→ShAt K C M' s.noG x→Q x H'
structure Tsk (U:List (List Int)) (am gn:List Int):Prop where
 t:SH.Task U am gn
 s:SH.Small U am gn
 m:am.length≤7
 n:gn.length≤7
def Answers (K:PySem.W.Frag) (U:List (List Int)) (am gn:List Int) (M H:Hp) (Q:VK):Prop:=∀ (a:SH.Ans) (v:V) (M' H':Hp),Gr M H M' H'→SH.Right U am gn a→a.Sm→At K M' (ansT a) v→Q v H'
def spSw (K:PySem.W.Frag) (C Pt:Addr):Sp:=fun vs H Q _=>∃ (v:V) (p:Nat) (s:SH.Sh) (U:List (List Int)) (am gn:List Int) (u:Int) (M:Hp),vs=[v,.int p]∧Tsk U am gn∧ShAt K C M s v∧(SH.sh0 U am gn).Eqv s∧s.inn.length=am.length∧s.out[p]? = some u∧0<s.gl.getD p 0∧SH.LiR s p none∧Same M H∧TabOk Pt M H∧Answers K U am gn M H Q
def spSv (K:PySem.W.Frag) (Pt:Addr):Sp:=fun vs H Q _=>∃ (v1 v2 v3:V) (U:List (List Int)) (am gn:List Int) (M:Hp),vs=[v1,v2,v3]∧Tsk U am gn∧At K M (intssT U) v1∧At K M (intsT am) v2∧At K M (intsT gn) v3∧Same M H∧TabOk Pt M H∧Answers K U am gn M H Q
section
variable {U:List (List Int)} {am gn:List Int}
theorem sh0_n:(SH.sh0 U am gn).out.length=gn.length:=SH.nms_len _ _
theorem sh0_m:(SH.sh0 U am gn).inn.length=am.length:=SH.nms_len _ _
theorem tsk_sz (T:Tsk U am gn) {s:SH.Sh} (e:(SH.sh0 U am gn).Eqv s):Sz s:=fun l hl=>e.sm (by rw[sh0_n]; exact T.n) (SH.sh0_wh T.t T.s).1 (SH.sh0_wh T.t T.s).2 hl
theorem tsk_sz0 (T:Tsk U am gn) {s:SH.Sh} (e:(SH.sh0 U am gn).noG.Eqv s):Sz s:=fun l hl=>e.sm (show (SH.sh0 U am gn).out.length≤7 by rw[sh0_n]; exact T.n) (SH.sh0_wh T.t T.s).1 SH.noG_wh hl
end
theorem answer2 {K:PySem.W.Frag} {M:Hp} {a:Addr} {n:Str} {l:List Rat} {v:V} (h:M a=some (.tup [.str n,v])) (h1:At K M (lnT l) v):At K M (.tup [.str n,lnT l]) (.ref a):=(Ats.cons .str (Ats.cons h1 Ats.nil)).tup (SqT.of h)
theorem answer3 {K:PySem.W.Frag} {M:Hp} {a:Addr} {n:Str} {l l2:List Rat} {v v2:V} (h:M a=some (.tup [.str n,v,v2])) (h1:At K M (lnT l) v) (h2:At K M (lnT l2) v2):At K M (.tup [.str n,lnT l,lnT l2]) (.ref a):=(Ats.cons .str (Ats.cons h1 (Ats.cons h2 Ats.nil))).tup (SqT.of h)
section
variable {P:Program} {w:World} {K:PySem.W.Frag} {mg:Str→Option Value} {base:Heap} {t:Adr} {k:Nat} {Pt:Addr}
theorem ok_without_gains (T:Txt K mg t) (G_Sheet___init__:FnOk P w K mg base (CXE P w) k t.f_Sheet___init__ t.d_Sheet___init__ ["self","inner","outer","lines","goal"] (spInit t.c_Sheet)) :
  FnOk P w K mg base (CXE P w) (k+2) t.f_without_gains t.d_without_gains ["sheet"] (spNoG K t.c_Sheet):=by
 refine T.F_without_gains.okE sc_without_gains (fun vs H Q E h=>?_) (fun cdv A outer s H vs Q E hr h=>?_)
 ·obtain⟨v,z,M,rfl,_⟩:=h
  rfl
 obtain⟨v,z,M,rfl,⟨o,dx,v1,v2,v3,v4,rfl,ho,h1,h2,h3,h4⟩,lg,hM,q⟩:=h
 have hoH:=hM _ _ ho
 obtain⟨b4,x4,rfl,hb4,a4⟩:=h4.lst_inv
 have l4:x4.length=z.gl.length:=by have:=a4.1; simp at this; omega
 refine⟨_,(pss_one (ps_ret (pe_make T.k_Sheet G_Sheet___init__ hr rfl T.m_Sheet T.b_Sheet___init__ .nil pass_no (pa_cons (pe_fld (pv 0) rfl) (pa_cons (pe_fld (pv 0) rfl) (pa_cons (pe_fld (pv 0) rfl) (pa_cons (pe_compG rfl (compt_of (n:=1) (js:=[]) (Nb:=["part"]) (by kernel_rfl) rfl (by decide +kernel) (by decide) (by kernel_rfl)) (pi_list (pe_fld (pv 0) rfl)) (fun C s0 H0 fp pn'=>(pg_name (i:=0) (nd_of (l:=["part"]) (by decide +kernel)) rfl (Or.inl rfl))) own_name (fun C s0 H0 fp pn'=>pts_none) (fun C s0 H0 fp pn'=>(pe_glob (v:=.ref t.k_NOUGHT) rfl T.m_NOUGHT rfl))) pa_nil))))))),?_⟩
 refine⟨_,rfl,o,_,dx,_,_,rfl,hoH,T.cl_Sheet,T.na_Sheet_inner,fl_inner _ _ _ _,_,rfl,o,_,dx,_,_,rfl,hoH,T.cl_Sheet,T.na_Sheet_outer,fl_outer _ _ _ _,_,rfl,o,_,dx,_,_,rfl,hoH,T.cl_Sheet,T.na_Sheet_lines,fl_lines _ _ _ _,_,rfl,o,_,dx,_,_,rfl,hoH,T.cl_Sheet,T.na_Sheet_goal,fl_goal _ _ _ _,b4,rfl,⟨_,SqL.of (hM _ _ hb4)⟩,fun y hy=>cm_list (K:=K) (M:=M) (F:=fun i=>frT 0) hM hb4 (by omega) hy (fun i x Mi Hi Qy hx gi kk=>kk _ _ _ (Gr.refl gi.mh) (nought_T T)) (fun M2 H2 ys g2 m2 hys at2=>?_)⟩
 have at3:Ats K M2 (z.noG.gl.map frT) ys:=ats_range at2 (by unfold SH.Sh.noG; simp; omega) fun i t ht=>by
  unfold SH.Sh.noG at ht
  rw[List.map_map,List.getElem?_map] at ht
  cases e:z.gl[i]? with
  | none=>rw[e] at ht; cases ht
  | some l=>rw[e] at ht; cases ht; rfl
 have g3:Gr M H (upd M2 y (.lst ys)) H2:=g2.frz hy m2 hys
 have t4:At K (upd M2 y (.lst ys)) (lnT z.noG.gl) (.ref y):=(at3.mono (same_new m2 _)).lst upd_same
 generalize upd M2 y (.lst ys)=M3 at g3 t4
 intro x dx2 nx nd ne
 refine⟨x,dx2,_,_,_,_,rfl,upd_same,rfl,?_⟩
 have g8:=made_gr (o0:=.ins t.c_Sheet dx2 []) (o:=.ins t.c_Sheet dx2 (fl v1 v2 v3 (.ref y))) g3 nx nd ne
 have s38:Same M3 (upd M3 x (.ins t.c_Sheet dx2 (fl v1 v2 v3 (.ref y)))):=same_new (g3.mh.free nx) _
 exact q _ _ _ g8 ⟨x,dx2,_,_,_,_,rfl,upd_same,h1.mono g8.mm,h2.mono g8.mm,h3.mono g8.mm,t4.mono s38⟩
set_option maxHeartbeats 1000000 in
theorem ok_solved_with_way (T:Txt K mg t) (G_searched:FnOk P w K mg base (CXE P w) k t.f_searched t.d_searched ["sheet"] (spSr K t.c_Sheet Pt))
  (G_without_gains:FnOk P w K mg base (CXE P w) k t.f_without_gains t.d_without_gains ["sheet"] (spNoG K t.c_Sheet))
  (G_weights_of:FnOk P w K mg base (CXE P w) k t.f_weights_of t.d_weights_of ["sheet","row"] (spWe K t.c_Sheet))
  (G_plan_of:FnOk P w K mg base (CXE P w) k t.f_plan_of t.d_plan_of ["sheet"] (spOf1 K t.c_Sheet fun s=>SH.at_ s.planF 0 s.out.length))
  (G_way_of:FnOk P w K mg base (CXE P w) k t.f_way_of t.d_way_of ["sheet","place"] (spWa K t.c_Sheet)) :
  FnOk P w K mg base (CXE P w) (k+1) t.f_solved_with_way t.d_solved_with_way ["sheet","place"] (spSw K t.c_Sheet Pt):=by
 refine T.F_solved_with_way.okE sc_solved_with_way (fun vs H Q E h=>?_) (fun cdv A outer s H vs Q E hr h=>?_)
 ·obtain⟨v,p,z,U,am,gn,u,M,rfl,_⟩:=h
  rfl
 obtain⟨v,p,z,U,am,gn,u,M,rfl,TK,hs,e,hi,hp,hg,hl,hM,hT,q⟩:=h
 have en:=e.n
 rw[sh0_n] at en
 have tm:=TK.m
 have tn:=TK.n
 refine⟨_,(pss_cons (ps_set (i:=2) sc_solved_with_way.nd rfl (Or.inl rfl) (pe_call G_searched hr rfl T.m_searched T.F_searched.kp T.b_searched .nil pass_no (pa_cons (pe_call G_without_gains hr rfl T.m_without_gains T.F_without_gains.kp T.b_without_gains .nil pass_no (pa_cons (pv 0) pa_nil)) pa_nil)))
  (pss_cons (ps_if (pt_cmp (pc_notN (pe_ix ix_tup (pv 2) pe_int (fun _ _=>rfl))))
   (pss_one (ps_ret (pe_tup (pa_cons pe_str (pa_cons (pe_call G_weights_of hr rfl T.m_weights_of T.F_weights_of.kp T.b_weights_of .nil pass_no (pa_cons (pe_ix ix_tup (pv 2) pe_int (fun _ _=>rfl)) (pa_cons (pe_ix ix_tup (pv 2) pe_int (fun _ _=>rfl)) pa_nil))) pa_nil)))))
   pss_nil)
  (pss_one (ps_ret (pe_tup (pa_cons pe_str (pa_cons (pe_call G_plan_of hr rfl T.m_plan_of T.F_plan_of.kp T.b_plan_of .nil pass_no (pa_cons (pe_ix ix_tup (pv 2) pe_int (fun _ _=>rfl)) pa_nil)) (pa_cons (pe_call G_way_of hr rfl T.m_way_of T.F_way_of.kp T.b_way_of .nil pass_no (pa_cons (pv 0) (pa_cons (pv 1) pa_nil))) pa_nil)))))))),?_⟩
 refine⟨_,rfl,_,z,M,rfl,hs,by rw[e.ok.gl]; omega,hM,fun x M1 H1 g1 hx=>?_⟩
 have e0:(SH.sh0 U am gn).noG.Eqv z.noG:=e.noG
 refine⟨_,z.noG,gn.length+am.length,M1,rfl,hx,SH.noG_ok e.ok,e.nm (SH.sh0_nm TK.t),by show z.inn.length≤100; omega,by show z.out.length≤100; omega,fun s' e'=>tsk_sz0 TK (e0.trans e'),g1.mh,g1.tt _ hT,fun o1 o2 y xy a M2 H2 g2 ha hy ey iy sr=>?_⟩
 have g12:=g1.trans g2
 have hoy:y.out.length=gn.length:=by have:=ey.n; rw[this]; exact en
 have hiy:y.inn.length=am.length:=iy.trans hi
 have e2:=e0.trans ey
 have haH:SqT K H2 a [xy,oV o1,oV o2]:=SqT.of (g2.mh _ _ ha)
 cases o2 with
 | some p2=>
  cases o1 with
  | some _=>exact sr.elim
  | none=>
   obtain⟨v2,hv2,hg2,_⟩:=sr
   exact (SH.noG_none ey hv2 hg2).elim
 | none=>
  refine⟨_,rfl,a,_,_,_,rfl,rfl,haH,atI_nat (j:=1) rfl,_,rfl,?_⟩
  cases o1 with
  | some r=>
   obtain⟨ur,l,hur,hlr,hb,hlo⟩:=sr
   refine iteT ?_
   refine⟨_,rfl,a,_,_,_,rfl,rfl,haH,atI_nat (j:=0) rfl,_,rfl,a,_,_,_,rfl,rfl,haH,atI_nat (j:=1) rfl,_,y,r,ur,M2,rfl,hy,ey.ok,hur,by omega,by omega,g2.mh,fun vw M3 H3 g3 h3=>?_⟩
   have g13:=g12.trans g3
   refine⟨two_ok,fun b hb'=>?_⟩
   have NR:SH.NoneR U am gn (SH.at_ (y.weightF r) gn.length am.length):=SH.none_ok TK.t ey.ok (e2.nm (show SH.Nm _ (SH.sh0 U am gn).noG from SH.sh0_nm TK.t)) (fun x g f ft=>⟨0,e2.to x g 0 (SH.noG_fit.mpr ⟨⟨f,ft⟩,rfl⟩)⟩) hur hlr hb hlo
   rw[hoy,hiy] at h3
   refine q (.no (SH.at_ (y.weightF r) gn.length am.length)) _ _ _ (g13.add hb') NR (SH.at_sm (SH.weightF_sm (tsk_sz0 TK e2) r) _ _) ?_
   exact answer2 upd_same (h3.mono (same_new (g13.mh.free hb') _))
  | none=>
   refine iteF ?_
   refine⟨_,rfl,a,_,_,_,rfl,rfl,haH,atI_nat (j:=0) rfl,_,y,M2,rfl,hy,ey.ok,by omega,by omega,g2.mh,fun vp M3 H3 g3 h3=>?_⟩
   have g13:=g12.trans g3
   refine⟨_,rfl,_,rfl,_,z,p,u,M3,rfl,hs.mono g13.mm,e.ok,hp,by omega,by omega,g13.mh,fun vw M4 H4 g4 h4=>?_⟩
   have g14:=g13.trans g4
   refine⟨three_ok,fun b hb'=>?_⟩
   replace h3:At K M3 (lnT (SH.at_ y.planF 0 y.out.length)) vp:=h3
   rw[hoy] at h3
   rw[en] at h4
   have PR:SH.PlanR U am gn (SH.at_ y.planF 0 gn.length):=SH.plan_ok TK.t ey.ok (fun x g f ft=>(SH.noG_fit.mp (e2.fro x g f ft)).1) fun l hl=>sr.1 l hl
   have ER:=SH.end_ok TK.t e hp hg hl PR
   refine q (.endl _ _) _ _ _ (g14.add hb') ER ⟨SH.at_sm (SH.planF_sm (tsk_sz0 TK e2)) _ _,SH.at_sm (SH.wayF_sm (tsk_sz TK e) p) _ _⟩ ?_
   exact answer3 upd_same ((h3.mono g4.mm).mono (same_new (g14.mh.free hb') _)) (h4.mono (same_new (g14.mh.free hb') _))
set_option maxHeartbeats 1000000 in
theorem ok_solved (T:Txt K mg t) (G_searched:FnOk P w K mg base (CXE P w) k t.f_searched t.d_searched ["sheet"] (spSr K t.c_Sheet Pt))
  (G_first_sheet:FnOk P w K mg base (CXE P w) k t.f_first_sheet t.d_first_sheet ["uses","amounts","gains"] (spFirst K t.c_Sheet))
  (G_solved_with_way:FnOk P w K mg base (CXE P w) k t.f_solved_with_way t.d_solved_with_way ["sheet","place"] (spSw K t.c_Sheet Pt))
  (G_weights_of:FnOk P w K mg base (CXE P w) k t.f_weights_of t.d_weights_of ["sheet","row"] (spWe K t.c_Sheet))
  (G_plan_of:FnOk P w K mg base (CXE P w) k t.f_plan_of t.d_plan_of ["sheet"] (spOf1 K t.c_Sheet fun s=>SH.at_ s.planF 0 s.out.length))
  (G_prices_of:FnOk P w K mg base (CXE P w) k t.f_prices_of t.d_prices_of ["sheet"] (spOf1 K t.c_Sheet fun s=>SH.at_ s.priceF s.out.length s.inn.length)) :
  FnOk P w K mg base (CXE P w) (k+1) t.f_solved t.d_solved ["uses","amounts","gains"] (spSv K Pt):=by
 refine T.F_solved.okE sc_solved (fun vs H Q E h=>?_) (fun cdv A outer s H vs Q E hr h=>?_)
 ·obtain⟨v1,v2,v3,U,am,gn,M,rfl,_⟩:=h
  rfl
 obtain⟨v1,v2,v3,U,am,gn,M,rfl,TK,h1,h2,h3,hM,hT,q⟩:=h
 have tm:=TK.m
 have tn:=TK.n
 refine⟨_,(pss_cons (ps_set (i:=3) sc_solved.nd rfl (Or.inl rfl) (pe_call G_searched hr rfl T.m_searched T.F_searched.kp T.b_searched .nil pass_no (pa_cons (pe_call G_first_sheet hr rfl T.m_first_sheet T.F_first_sheet.kp T.b_first_sheet .nil pass_no (pa_cons (pv 0) (pa_cons (pv 1) (pa_cons (pv 2) pa_nil)))) pa_nil)))
  (pss_cons (ps_if (pt_cmp (pc_notN (pe_ix ix_tup (pv 3) pe_int (fun _ _=>rfl))))
   (pss_one (ps_ret (pe_call G_solved_with_way hr rfl T.m_solved_with_way T.F_solved_with_way.kp T.b_solved_with_way .nil pass_no (pa_cons (pe_ix ix_tup (pv 3) pe_int (fun _ _=>rfl)) (pa_cons (pe_ix ix_tup (pv 3) pe_int (fun _ _=>rfl)) pa_nil)))))
   pss_nil)
  (pss_cons (ps_if (pt_cmp (pc_notN (pe_ix ix_tup (pv 3) pe_int (fun _ _=>rfl))))
   (pss_one (ps_ret (pe_tup (pa_cons pe_str (pa_cons (pe_call G_weights_of hr rfl T.m_weights_of T.F_weights_of.kp T.b_weights_of .nil pass_no (pa_cons (pe_ix ix_tup (pv 3) pe_int (fun _ _=>rfl)) (pa_cons (pe_ix ix_tup (pv 3) pe_int (fun _ _=>rfl)) pa_nil))) pa_nil)))))
   pss_nil)
  (pss_one (ps_ret (pe_tup (pa_cons pe_str (pa_cons (pe_call G_plan_of hr rfl T.m_plan_of T.F_plan_of.kp T.b_plan_of .nil pass_no (pa_cons (pe_ix ix_tup (pv 3) pe_int (fun _ _=>rfl)) pa_nil)) (pa_cons (pe_call G_prices_of hr rfl T.m_prices_of T.F_prices_of.kp T.b_prices_of .nil pass_no (pa_cons (pe_ix ix_tup (pv 3) pe_int (fun _ _=>rfl)) pa_nil)) pa_nil))))))))),?_⟩
 refine⟨_,rfl,_,rfl,_,rfl,_,_,_,U,am,gn,M,rfl,h1,h2,h3,TK.t,by omega,by omega,hM,fun x M1 H1 g1 hx=>?_⟩
 have o0:=SH.sh0_ok TK.t
 refine⟨_,SH.sh0 U am gn,gn.length+am.length,M1,rfl,hx,o0,SH.sh0_nm TK.t,by rw[sh0_m]; omega,by rw[sh0_n]; omega,fun s' e'=>tsk_sz TK e',g1.mh,g1.tt _ hT,fun o1 o2 y xy a M2 H2 g2 ha hy ey iy sr=>?_⟩
 have g12:=g1.trans g2
 have hoy:y.out.length=gn.length:=by have:=ey.n; rw[this,sh0_n]
 have hiy:y.inn.length=am.length:=by rw[iy,sh0_m]
 have haH:SqT K H2 a [xy,oV o1,oV o2]:=SqT.of (g2.mh _ _ ha)
 refine⟨_,rfl,a,_,_,_,rfl,rfl,haH,atI_nat (j:=2) rfl,_,rfl,?_⟩
 cases o2 with
 | some p=>
  cases o1 with
  | some _=>exact sr.elim
  | none=>
   obtain⟨u,hu,hg,hl⟩:=sr
   refine iteT ?_
   exact⟨_,rfl,a,_,_,_,rfl,rfl,haH,atI_nat (j:=0) rfl,_,rfl,a,_,_,_,rfl,rfl,haH,atI_nat (j:=2) rfl,_,p,y,U,am,gn,u,M2,rfl,TK,hy,ey,hiy,hu,hg,hl,g2.mh,g12.tt _ hT,fun an v' M3 H3 g3 r sm h3=>q an v' M3 H3 (g12.trans g3) r sm h3⟩
 | none=>
  refine iteF ?_
  refine⟨_,rfl,a,_,_,_,rfl,rfl,haH,atI_nat (j:=1) rfl,_,rfl,?_⟩
  cases o1 with
  | some r=>
   obtain⟨ur,l,hur,hlr,hb,hlo⟩:=sr
   refine iteT ?_
   refine⟨_,rfl,a,_,_,_,rfl,rfl,haH,atI_nat (j:=0) rfl,_,rfl,a,_,_,_,rfl,rfl,haH,atI_nat (j:=1) rfl,_,y,r,ur,M2,rfl,hy,ey.ok,hur,by omega,by omega,g2.mh,fun vw M3 H3 g3 h3=>?_⟩
   have g13:=g12.trans g3
   refine⟨two_ok,fun b hb'=>?_⟩
   have NR:SH.NoneR U am gn (SH.at_ (y.weightF r) gn.length am.length):=SH.none_ok TK.t ey.ok (ey.nm (SH.sh0_nm TK.t)) (fun x g f ft=>⟨f,ey.to x g f ft⟩) hur hlr hb hlo
   rw[hoy,hiy] at h3
   refine q (.no (SH.at_ (y.weightF r) gn.length am.length)) _ _ _ (g13.add hb') NR (SH.at_sm (SH.weightF_sm (tsk_sz TK ey) r) _ _) ?_
   exact answer2 upd_same (h3.mono (same_new (g13.mh.free hb') _))
  | none=>
   refine iteF ?_
   refine⟨_,rfl,a,_,_,_,rfl,rfl,haH,atI_nat (j:=0) rfl,_,y,M2,rfl,hy,ey.ok,by omega,by omega,g2.mh,fun vp M3 H3 g3 h3=>?_⟩
   have g13:=g12.trans g3
   refine⟨_,rfl,a,_,_,_,rfl,rfl,g3.htup haH,atI_nat (j:=0) rfl,_,y,M3,rfl,hy.mono g3.mm,ey.ok,by omega,by omega,g3.mh,fun vw M4 H4 g4 h4=>?_⟩
   have g14:=g13.trans g4
   refine⟨three_ok,fun b hb'=>?_⟩
   replace h3:At K M3 (lnT (SH.at_ y.planF 0 y.out.length)) vp:=h3
   rw[hoy] at h3
   replace h4:At K M4 (lnT (SH.at_ y.priceF y.out.length y.inn.length)) vw:=h4
   rw[hoy,hiy] at h4
   have BR:=SH.best_ok TK.t ey (fun l hl=>sr.1 l hl) (fun j hj=>sr.2 j hj)
   refine q (.best _ _) _ _ _ (g14.add hb') BR ⟨SH.at_sm (SH.planF_sm (tsk_sz TK ey)) _ _,SH.at_sm (SH.priceF_sm (tsk_sz TK ey)) _ _⟩ ?_
   exact answer3 upd_same ((h3.mono g4.mm).mono (same_new (g14.mh.free hb') _)) (h4.mono (same_new (g14.mh.free hb') _))
end
end W1
namespace W1
open PySem PySem.Spec L2
mutual
def cnt:Tr→Nat
 | .int _=>1
 | .str _=>1
 | .lst ts=>1+cnts ts
 | .tup ts=>1+cnts ts
def cnts:List Tr→Nat
 | []=>0
 | t :: ts=>cnt t+cnts ts
end
theorem cnts_app:∀ a b:List Tr,cnts (a++b)=cnts a+cnts b
 | [],b=>by simp[cnts]
 | t :: a,b=>by
  show cnt t+cnts (a++b)=cnt t+cnts a+cnts b
  rw[cnts_app a b]; omega
theorem cnt_pos (t:Tr):0<cnt t:=by cases t <;> simp[cnt] <;> omega
theorem cnts_len:∀ ts:List Tr,ts.length≤cnts ts
 | []=>Nat.zero_le _
 | t :: ts=>by
  have:=cnts_len ts
  have:=cnt_pos t
  show ts.length+1≤cnt t+cnts ts
  omega
theorem cnts_one (t:Tr):cnts [t]=cnt t:=by simp[cnts]
def atV (ns:List Int) (k:Int):Int:=if ns=[] then 0 else ns.getD (k % (ns.length:Int)).toNat 0+3*k.fdiv (ns.length:Int)
def spWhole:Sp:=fun vs H Q _=>∃ i:Int,vs=[.int i]∧Q (.bl true) H
def spAt (K:PySem.W.Frag):Sp:=fun vs H Q _=>∃ (a:Addr) (ns:List Int) (k:Int) (M:Hp),vs=[.ref a,.int k]∧SqL K H a (ns.map V.int)∧ns.length≤63∧Same M H∧∀ H',Gr M H M H'→Q (.int (atV ns k)) H'
def spSame (K:PySem.W.Frag):Sp:=fun vs H Q _=>∃ (v x:V) (t:Tr) (M:Hp),vs=[v,x]∧At K M t v∧At K M t x∧cnt t≤1000∧Same M H∧∀ H',Gr M H M H'→Q (.bl true) H'
def spIsFr (K:PySem.W.Frag):Sp:=fun vs H Q _=>∃ (v:V) (r:Rat) (M:Hp),vs=[v]∧At K M (frT r) v∧Same M H∧Q (.bl true) H
def spAreFr (K:PySem.W.Frag):Sp:=fun vs H Q _=>∃ (v:V) (l:List Rat) (M:Hp),vs=[v,.int (l.length:Nat)]∧At K M (lnT l) v∧l.length≤1000∧Same M H∧Q (.bl true) H
theorem ats_unsnoc {K:PySem.W.Frag} {M:Hp} {ts:List Tr} {xs:List V} (h:Ats K M ts xs) (ne:xs≠[]):∃ ts' t xs' x,ts=ts'++[t]∧xs=xs'++[x]∧Ats K M ts' xs'∧At K M t x:=by
 have hl:=h.1
 have hx:0<xs.length:=List.length_pos_iff.mpr ne
 have e1:xs=xs.take (xs.length-1)++[xs[xs.length-1]'(by omega)]:=by
  have:=List.take_append_drop (xs.length-1) xs
  rw[List.drop_eq_getElem_cons (by omega),List.drop_of_length_le (by omega)] at this
  exact this.symm
 have e2:ts=ts.take (xs.length-1)++[ts[xs.length-1]'(by omega)]:=by
  have:=List.take_append_drop (xs.length-1) ts
  rw[List.drop_eq_getElem_cons (by omega),List.drop_of_length_le (by omega)] at this
  exact this.symm
 exact⟨_,_,_,_,e2,e1,h.take _,h.2 _ _ _ (List.getElem?_eq_getElem _) (List.getElem?_eq_getElem _)⟩
theorem last_at {α:Type} (xs:List α) (x:α):(xs++[x])[(xs++[x]).length-1]? = some x:=by simp
section
variable {P:Program} {w:World} {K:PySem.W.Frag} {mg:Str→Option Value} {base:Heap} {t:Adr} {k:Nat}
theorem ok_Lcommon (T:Txt K mg t):FnOk P w K mg base CX0 (k+1) t.f_Lcommon t.d_Lcommon ["_law_one","_law_two"] spCd:=by
 refine T.F_Lcommon.ok sc_Lcommon (fun vs H Q E h=>?_) (fun cdv A outer s H vs Q E hr h=>?_)
 ·obtain⟨a,b,rfl,_⟩:=h
  rfl
 obtain⟨a,b,rfl,ha,hb,q⟩:=h
 refine⟨_,(pss_cons (ps_while PassesOwn.never (pt_cmpR op_ne (pv 1) pe_int (nomark _))
   (pss_cons (ps_set (i:=2) sc_Lcommon.nd rfl (Or.inl rfl) (pe_op op_mod (pv 0) (pv 1)))
  (pss_cons (ps_set (i:=0) sc_Lcommon.nd rfl (Or.inl rfl) (pv 1))
  (pss_one (ps_set (i:=1) sc_Lcommon.nd rfl (Or.inl rfl) (pv 2))))))
  (pss_one (ps_ret (pv 0)))),?_⟩
 refine while_by (fun σ H'=>H'=H∧∃ (x y:Int) (z:Option V),σ=[some (.int x),some (.int y),z]∧0≤x∧0≤y∧Int.gcd x y=Int.gcd a b) (fun σ _=>match σ with | [_,some (.int y),_]=>y.toNat | _=>0) ⟨rfl,a,b,none,rfl,ha,hb,rfl⟩ ?_ ?_
 ·rintro σ H' ⟨rfl,x,y,z,rfl,hx,hy,hg⟩
  refine⟨_,rfl,rfl,_,rfl,?_⟩
  refine ite2 (fun c=>?_) (fun c=>?_)
  ·have hy':0<y:=by have:=ne_of_test c; omega
   refine⟨_,rfl,_,rfl,_,_,rfl,rfl,hy',_,rfl,_,rfl,⟨rfl,y,x % y,_,rfl,hy,Int.emod_nonneg _ (by omega),?_⟩,?_⟩
   ·rw[FM.gcd_turn hx hy',hg]
   ·have:=Int.emod_lt_of_pos x hy'
    show (x % y).toNat<y.toNat
    omega
  ·have hy0:y=0:=eq_of_ntest c
   subst hy0
   refine⟨_,rfl,?_⟩
   have e:((Int.gcd a b:Nat):Int)=x:=by rw[← hg,Int.gcd_zero_right]; omega
   rw[e] at q
   exact q
 ·intro σ H Q Q' hQ h
  obtain⟨v,e,s,k,e2,h⟩:=h
  exact⟨v,e,s,k,e2,hQ _ _ h⟩
theorem ok_Lwhole (T:Txt K mg t):FnOk P w K mg base CX0 (k+1) t.f_Lwhole t.d_Lwhole ["_law_found"] spWhole:=by
 refine T.F_Lwhole.ok sc_Lwhole (fun vs H Q E h=>?_) (fun cdv A outer s H vs Q E hr h=>?_)
 ·obtain⟨i,rfl,_⟩:=h
  rfl
 obtain⟨i,rfl,q⟩:=h
 refine⟨_,(pss_one (ps_ret (pe_and (pe_callB call_isV rfl T.n_isinstance PyProof.Rows.boot_isinstance (pa_cons (pv 0) (pa_cons (pe_bltn (v:=.ty "int") rfl T.n_int bt_int rfl) pa_nil))) (pe_one (pe_not (pe_callB call_isV rfl T.n_isinstance PyProof.Rows.boot_isinstance (pa_cons (pv 0) (pa_cons (pe_bltn (v:=.ty "bool") rfl T.n_bool bt_bool rfl) pa_nil)))))))),?_⟩
 refine⟨_,rfl,_,_,_,_,rfl,.int i,kit_same,_,rfl,iteT ?_⟩
 exact⟨_,rfl,_,_,_,_,rfl,.int i,kn_ib,_,rfl,q⟩
theorem ok_Lat (T:Txt K mg t):FnOk P w K mg base CX0 (k+1) t.f_Lat t.d_Lat ["_law_script","_law_k"] (spAt K):=by
 refine T.F_Lat.ok sc_Lat (fun vs H Q E h=>?_) (fun cdv A outer s H vs Q E hr h=>?_)
 ·obtain⟨a,ns,j,M,rfl,_⟩:=h
  rfl
 obtain⟨a,ns,j,M,rfl,hS,h63,hM,q⟩:=h
 refine⟨_,(pss_cons (ps_if (pt_cmpR op_eqL (pv 0) (pe_lst pa_nil) (nomark _))
   (pss_one (ps_ret pe_int))
   pss_nil)
  (pss_one (ps_ret (pe_op op_add (pe_ix ix_list (pv 0) (pe_op op_mod (pv 1) (pe_callB call_len_seq rfl T.n_len PySem.boot_len (pa_cons (pv 0) pa_nil))) (fun _ _=>rfl)) (pe_op op_mulB pe_int (pe_op op_fdivB (pv 1) (pe_callB call_len_seq rfl T.n_len PySem.boot_len (pa_cons (pv 0) pa_nil)))))))),?_⟩
 refine⟨_,rfl,(by show 0≤sizeLine; decide),fun p hp=>?_⟩
 have g1:Gr M H M (upd H p (.lst [])):=(Gr.refl hM).new hp
 have hS1:=g1.hseq hS
 refine⟨a,p,_,rfl,rfl,hS1,SqL.of upd_same,hr.units0,_,rfl,?_⟩
 cases ns with
 | nil=>exact iteT (q _ g1)
 | cons n0 nr=>
  refine iteF ?_
  have hl:((n0 :: nr).map V.int).length=(n0 :: nr).length:=List.length_map _
  have hL:(0:Int)<((((n0 :: nr).map V.int).length:Nat):Int):=by rw[hl]; simp
  have hm0:=Int.emod_nonneg j (show ((((n0 :: nr).map V.int).length:Nat):Int)≠0 by omega)
  have hm1:=Int.emod_lt_of_pos j hL
  have hv:atI ((n0 :: nr).map V.int) (j % ((((n0 :: nr).map V.int).length:Nat):Int))=some (.int ((n0 :: nr).getD (j % (((n0 :: nr).length:Nat):Int)).toNat 0)):=by
   rw[hl] at hm0 hm1 ⊢
   obtain⟨m,hm⟩:=Int.eq_ofNat_of_zero_le hm0
   rw[hm] at hm1 ⊢
   have hml:m<(n0 :: nr).length:=by omega
   refine atI_nat ?_
   rw[List.getElem?_map,List.getElem?_eq_getElem hml]
   show some (V.int _)=_
   rw[Int.toNat_natCast,SH.gD (List.getElem?_eq_getElem hml)]
  refine⟨_,rfl,_,rfl,_,rfl,a,_,rfl,.inl hS1,_,_,rfl,rfl,hL,a,_,_,_,rfl,rfl,hS1,hv,?_⟩
  have e:atV (n0 :: nr) j=(n0 :: nr).getD (j % (((n0 :: nr).length:Nat):Int)).toNat 0+3*j.fdiv ((((n0 :: nr).map V.int).length:Nat):Int):=by
   unfold atV
   rw[if_neg (by simp),hl]
  refine⟨_,rfl,_,rfl,a,_,rfl,.inl hS1,_,_,rfl,rfl,⟨by omega,FM.lt_mono (m:=10) (by rw[hl]; omega) (by decide)⟩,_,_,rfl,rfl,.of_left (by decide),_,_,rfl,rfl,?_⟩
  have q1:=q _ g1
  rw[e] at q1
  exact q1
theorem ok_Lis_fraction (T:Txt K mg t) (G_Lwhole:FnOk P w K mg base CX0 k t.f_Lwhole t.d_Lwhole ["_law_found"] spWhole) (G_Lcommon:FnOk P w K mg base CX0 k t.f_Lcommon t.d_Lcommon ["_law_one","_law_two"] spCd) :
  FnOk P w K mg base CX0 (k+1) t.f_Lis_fraction t.d_Lis_fraction ["_law_found"] (spIsFr K):=by
 refine T.F_Lis_fraction.ok sc_Lis_fraction (fun vs H Q E h=>?_) (fun cdv A outer s H vs Q E hr h=>?_)
 ·obtain⟨v,r,M,rfl,_⟩:=h
  rfl
 obtain⟨v,r,M,rfl,hv,hM,q⟩:=h
 obtain⟨a,rfl,ha0⟩:=fr_inv hv
 have hS:=hM.tup ha0
 refine⟨_,(pss_cons (ps_if (PW.pt (pw_or (pt_not (pt_val (pe_callB call_isV rfl T.n_isinstance PyProof.Rows.boot_isinstance (pa_cons (pv 0) (pa_cons (pe_bltn (v:=.ty "tuple") rfl T.n_tuple bt_tuple rfl) pa_nil))))) (pw_or1 (pt_cmpR op_ne (pe_callB call_len_seq rfl T.n_len PySem.boot_len (pa_cons (pv 0) pa_nil)) pe_int (nomark _)))))
   (pss_one (ps_ret pe_bl))
   pss_nil)
  (pss_cons (ps_if (PW.pt (pw_or (pt_not (pt_val (pe_call G_Lwhole hr rfl T.m_Lwhole T.F_Lwhole.kp T.b_Lwhole .nil pass0 (pa_cons (pe_ix ix_tup (pv 0) pe_int (fun _ _=>rfl)) pa_nil)))) (pw_or (pt_not (pt_val (pe_call G_Lwhole hr rfl T.m_Lwhole T.F_Lwhole.kp T.b_Lwhole .nil pass0 (pa_cons (pe_ix ix_tup (pv 0) pe_int (fun _ _=>rfl)) pa_nil)))) (pw_or1 (pt_cmpR op_lt (pe_ix ix_tup (pv 0) pe_int (fun _ _=>rfl)) pe_int (nomark _))))))
   (pss_one (ps_ret pe_bl))
   pss_nil)
  (pss_one (ps_ret (pe_cmpR op_eq (pe_call G_Lcommon hr rfl T.m_Lcommon T.F_Lcommon.kp T.b_Lcommon .nil pass0 (pa_cons (pe_callB call_abs rfl T.n_abs PyProof.Rows.boot_abs (pa_cons (pe_ix ix_tup (pv 0) pe_int (fun _ _=>rfl)) pa_nil)) (pa_cons (pe_ix ix_tup (pv 0) pe_int (fun _ _=>rfl)) pa_nil))) pe_int (nomark _)))))),?_⟩
 refine⟨_,rfl,_,_,_,_,rfl,.tup hS,kit_same,_,rfl,iteF ?_⟩
 refine⟨_,rfl,a,_,rfl,.inr hS,rfl,_,rfl,iteF ?_⟩
 have hd:=FM.den_pos r
 refine⟨_,rfl,a,_,_,_,rfl,rfl,hS,fr_top r,_,rfl,_,rfl,iteF ?_⟩
 refine⟨_,rfl,a,_,_,_,rfl,rfl,hS,fr_bot r,_,rfl,_,rfl,iteF ?_⟩
 refine⟨_,rfl,a,_,_,_,rfl,rfl,hS,fr_bot r,_,_,rfl,rfl,_,rfl,?_⟩
 rw[decide_eq_false (show ¬ (r.den:Int)<1 by omega)]
 refine iteF ?_
 refine⟨_,rfl,a,_,_,_,rfl,rfl,hS,fr_top r,_,rfl,_,rfl,a,_,_,_,rfl,rfl,hS,fr_bot r,_,_,rfl,ab_nn _,by omega,rfl,?_⟩
 rw[FM.gcd_one_abs]
 exact q
theorem ok_Lare_fractions (T:Txt K mg t) (G_Lis_fraction:FnOk P w K mg base CX0 k t.f_Lis_fraction t.d_Lis_fraction ["_law_found"] (spIsFr K)) :
  FnOk P w K mg base CX0 (k+1) t.f_Lare_fractions t.d_Lare_fractions ["_law_found","_law_count"] (spAreFr K):=by
 refine T.F_Lare_fractions.ok sc_Lare_fractions (fun vs H Q E h=>?_) (fun cdv A outer s H vs Q E hr h=>?_)
 ·obtain⟨v,l,M,rfl,_⟩:=h
  rfl
 obtain⟨v,l,M,rfl,hv,hl,hM,q⟩:=h
 obtain⟨b,xs,rfl,hb,ats⟩:=hv.lst_inv
 have hbH:=hM _ _ hb
 have hxl:xs.length=l.length:=by have:=ats.1; simp at this; omega
 refine⟨_,(pss_cons (ps_if (PW.pt (pw_or (pt_not (pt_val (pe_callB call_isV rfl T.n_isinstance PyProof.Rows.boot_isinstance (pa_cons (pv 0) (pa_cons (pe_bltn (v:=.ty "list") rfl T.n_list bt_list rfl) pa_nil))))) (pw_or1 (pt_cmpR op_ne (pe_callB call_len_seq rfl T.n_len PySem.boot_len (pa_cons (pv 0) pa_nil)) (pv 1) (nomark _)))))
   (pss_one (ps_ret pe_bl))
   pss_nil)
  (pss_cons (ps_for PassesOwn.never rfl (pi_list (pv 0)) (pg_name (i:=2) sc_Lare_fractions.nd rfl (Or.inl rfl))
   (pss_one (ps_if (pt_not (pt_val (pe_call G_Lis_fraction hr rfl T.m_Lis_fraction T.F_Lis_fraction.kp T.b_Lis_fraction .nil pass0 (pa_cons (pv 2) pa_nil))))
   (pss_one (ps_ret pe_bl))
   pss_nil)))
  (pss_one (ps_ret pe_bl)))),?_⟩
 refine⟨_,rfl,_,_,_,_,rfl,.lst hbH,kit_same,_,rfl,iteF ?_⟩
 refine⟨_,rfl,b,_,rfl,.inl (SqL.of hbH),_,rfl,rfl,_,rfl,?_⟩
 rw[hxl,decide_eq_true rfl]
 refine iteF ?_
 refine⟨_,rfl,b,rfl,⟨_,SqL.of hbH⟩,for_list (K:=K) (xs:=xs) (fun i σ H'=>H'=H∧∃ c:Option V,σ=[some (.ref b),some (.int (l.length:Nat)),c]) ⟨rfl,none,rfl⟩ (fun i σ H' _ h=>by obtain⟨rfl,_⟩:=h; exact SqL.of hbH) ?_ ?_⟩
 ·rintro i x σ H' hx ⟨rfl,c,rfl⟩
  obtain⟨r,hr0,atr⟩:=ln_get' ats hx
  refine⟨_,rfl,_,r,M,rfl,atr,hM,_,rfl,iteF ?_⟩
  exact⟨rfl,_,rfl⟩
 ·rintro σ H' ⟨rfl,c,rfl⟩
  exact q
theorem ok_Lsame (T:Txt K mg t) (G_Lwhole:FnOk P w K mg base CX0 k t.f_Lwhole t.d_Lwhole ["_law_found"] spWhole):FnOk P w K mg base CX0 (k+1) t.f_Lsame t.d_Lsame ["_law_found","_law_due"] (spSame K):=by
 refine T.F_Lsame.ok sc_Lsame (fun vs H Q E h=>?_) (fun cdv A outer s H vs Q E hr h=>?_)
 ·obtain⟨v,x,u,M,rfl,_⟩:=h
  rfl
 obtain⟨v,x,u,M,rfl,hv,hx,hcnt,hM,q⟩:=h
 refine⟨_,(pss_cons (ps_set (i:=2) sc_Lsame.nd rfl (Or.inl rfl) (pe_lst (pa_cons (pv 0) pa_nil)))
  (pss_cons (ps_set (i:=3) sc_Lsame.nd rfl (Or.inl rfl) (pe_lst (pa_cons (pv 1) pa_nil)))
  (pss_cons (ps_while PassesOwn.never (pt_cmpR op_neL (pv 3) (pe_lst pa_nil) (nomark _))
   (pss_cons (ps_set (i:=4) sc_Lsame.nd rfl (Or.inl rfl) (pe_bm0 PySem.F.plainAttrs_list PySem.F.slot_list_pop PySem.F.type_list_pop mt_pop (pv 2)))
  (pss_cons (ps_set (i:=5) sc_Lsame.nd rfl (Or.inl rfl) (pe_bm0 PySem.F.plainAttrs_list PySem.F.slot_list_pop PySem.F.type_list_pop mt_pop (pv 3)))
  (pss_one (ps_if (pt_val (pe_callB call_isV2 rfl T.n_isinstance PyProof.Rows.boot_isinstance (pa_cons (pv 5) (pa_cons (pe_tup (pa_cons (pe_bltn (v:=.ty "list") rfl T.n_list bt_list rfl) (pa_cons (pe_bltn (v:=.ty "tuple") rfl T.n_tuple bt_tuple rfl) pa_nil))) pa_nil))))
   (pss_cons (ps_if (pt_cmpR op_ne (pe_callB call_isV rfl T.n_isinstance PyProof.Rows.boot_isinstance (pa_cons (pv 4) (pa_cons (pe_bltn (v:=.ty "list") rfl T.n_list bt_list rfl) pa_nil))) (pe_callB call_isV rfl T.n_isinstance PyProof.Rows.boot_isinstance (pa_cons (pv 5) (pa_cons (pe_bltn (v:=.ty "list") rfl T.n_list bt_list rfl) pa_nil))) (nomark _))
   (pss_one (ps_ret pe_bl))
   pss_nil)
  (pss_cons (ps_if (PW.pt (pw_or (pt_cmpR op_ne (pe_callB call_isV rfl T.n_isinstance PyProof.Rows.boot_isinstance (pa_cons (pv 4) (pa_cons (pe_bltn (v:=.ty "tuple") rfl T.n_tuple bt_tuple rfl) pa_nil))) (pe_callB call_isV rfl T.n_isinstance PyProof.Rows.boot_isinstance (pa_cons (pv 5) (pa_cons (pe_bltn (v:=.ty "tuple") rfl T.n_tuple bt_tuple rfl) pa_nil))) (nomark _)) (pw_or1 (pt_cmpR op_ne (pe_callB call_len_seq rfl T.n_len PySem.boot_len (pa_cons (pv 4) pa_nil)) (pe_callB call_len_seq rfl T.n_len PySem.boot_len (pa_cons (pv 5) pa_nil)) (nomark _)))))
   (pss_one (ps_ret pe_bl))
   pss_nil)
  (pss_cons (ps_expr (pe_bm PySem.F.plainAttrs_list PySem.F.slot_list_extend PySem.F.type_list_extend mt_extendQ (pv 2) (pa_cons (pv 4) pa_nil)))
  (pss_one (ps_expr (pe_bm PySem.F.plainAttrs_list PySem.F.slot_list_extend PySem.F.type_list_extend mt_extendQ (pv 3) (pa_cons (pv 5) pa_nil)))))))
   (pss_one (ps_if (pt_val (pe_callB call_isV rfl T.n_isinstance PyProof.Rows.boot_isinstance (pa_cons (pv 5) (pa_cons (pe_bltn (v:=.ty "str") rfl T.n_str bt_str rfl) pa_nil))))
   (pss_one (ps_if (PW.pt (pw_or (pt_not (pt_val (pe_callB call_isV rfl T.n_isinstance PyProof.Rows.boot_isinstance (pa_cons (pv 4) (pa_cons (pe_bltn (v:=.ty "str") rfl T.n_str bt_str rfl) pa_nil))))) (pw_or1 (pt_cmpR op_ne (pv 4) (pv 5) (nomark _)))))
   (pss_one (ps_ret pe_bl))
   pss_nil))
   (pss_one (ps_if (PW.pt (pw_or (pt_not (pt_val (pe_call G_Lwhole hr rfl T.m_Lwhole T.F_Lwhole.kp T.b_Lwhole .nil pass0 (pa_cons (pv 4) pa_nil)))) (pw_or1 (pt_cmpR op_ne (pv 4) (pv 5) (nomark _)))))
   (pss_one (ps_ret pe_bl))
   pss_nil)))))))))
  (pss_one (ps_ret pe_bl))))),?_⟩
 have big:∀ {n:Nat},n≤1000→n≤sizeLine:=fun h=>Nat.le_of_lt (small1000 h)
 refine⟨_,rfl,big (by show 1≤1000; decide),fun lL hL=>?_⟩
 refine⟨_,rfl,big (by show 1≤1000; decide),fun rL hR=>?_⟩
 have ne:lL≠rL:=fun e=>by rw[← e,upd_same] at hR; cases hR
 have hR0:H rL=none:=by rw[upd_ne ne.symm] at hR; exact hR
 have g0:Gr M H M (upd (upd H lL (.lst [v])) rL (.lst [x])):=((Gr.refl hM).new hL).new hR
 refine⟨fun m σ H'=>∃ (ts:List Tr) (xs zs:List V) (a b:Option V),m=cnts ts∧σ=[some v,some x,some (.ref lL),some (.ref rL),a,b]∧Gr M H M H'∧H' lL=some (.lst xs)∧H' rL=some (.lst zs)∧Ats K M ts xs∧Ats K M ts zs∧cnts ts≤1000,
  ⟨_,[u],[v],[x],none,none,rfl,rfl,g0,by rw[upd_ne ne]; exact upd_same,upd_same,Ats.cons hv Ats.nil,Ats.cons hx Ats.nil,by rw[cnts_one]; exact hcnt⟩,?_⟩
 rintro m σ H1 ⟨ts,xs,zs,a,b,rfl,rfl,g,h1,h2,at1,at2,hc⟩
 refine⟨_,rfl,big (by show 0≤1000; decide),fun p hp=>?_⟩
 have k1:∀ {c:Addr} {o o':HO},H1 c=some o→upd H1 p o' c=some o:=fun e=>by rw[upd_ne (ne_of_none e hp)]; exact e
 refine⟨rL,p,zs,rfl,rfl,SqL.of (k1 h2),SqL.of upd_same,hr.units0,_,rfl,?_⟩
 have g1:Gr M H M (upd H1 p (.lst [])):=g.new hp
 have h1':upd H1 p (.lst []) lL=some (.lst xs):=k1 h1
 have h2':upd H1 p (.lst []) rL=some (.lst zs):=k1 h2
 generalize upd H1 p (.lst [])=H2 at g1 h1' h2' ⊢
 cases zs with
 | nil=>exact iteF (q _ g1)
 | cons z0 zr=>
  have hne:(z0 :: zr)≠[]:=by simp
  have hnx:xs≠[]:=by
   intro e
   have e1:=at1.1
   have e2:=at2.1
   rw[e] at e1
   simp at e1 e2
   rw[e1] at e2
   simp at e2
  obtain⟨ts',tt,zs',z,e1,e2,at2',atz⟩:=ats_unsnoc at2 hne
  obtain⟨ts'',tt',xs',y,e3,e4,at1',aty⟩:=ats_unsnoc at1 hnx
  obtain⟨e5,e6⟩:ts''=ts'∧tt'=tt:=by
   have:=e3.symm.trans e1
   exact⟨List.append_inj_left' this rfl,by simpa using List.append_inj_right' this rfl⟩
  subst e5 e6 e4
  rw[e2] at h2' ⊢
  rw[e3] at hc ⊢
  rw[cnts_app,cnts_one] at hc ⊢
  have hlen:ts''.length≤cnts ts'':=cnts_len _
  rw[show (!(zs'++[z]).isEmpty)=true by simp]
  refine iteT ⟨fun σ' H'=>∃ m',m'<cnts ts''+cnt tt'∧_,fun _ _ h=>h,?_⟩
  refine⟨_,rfl,.inl ⟨rfl,_,SqL.of h1'⟩,lL,_,y,rfl,rfl,h1',last_at _ _,?_⟩
  rw[List.dropLast_concat]
  have h2'':upd H2 lL (.lst xs') rL=some (.lst (zs'++[z])):=by rw[upd_ne ne.symm]; exact h2'
  refine⟨_,rfl,.inl ⟨rfl,_,SqL.of h2''⟩,rL,_,z,rfl,rfl,h2'',last_at _ _,?_⟩
  rw[List.dropLast_concat]
  have mL:M lL=none:=hM.free hL
  have mR:M rL=none:=hM.free hR0
  have g3:Gr M H M (upd (upd H2 lL (.lst xs')) rL (.lst zs')):=(g1.put hL mL h1').put hR0 mR h2''
  have b1:upd (upd H2 lL (.lst xs')) rL (.lst zs') lL=some (.lst xs'):=by rw[upd_ne ne]; exact upd_same
  have b2:upd (upd H2 lL (.lst xs')) rL (.lst zs') rL=some (.lst zs'):=upd_same
  generalize upd (upd H2 lL (.lst xs')) rL (.lst zs')=H3 at g3 b1 b2 ⊢
  refine⟨_,rfl,two_ok,fun tp htp=>?_⟩
  have k3:∀ {c:Addr} {o o':HO},H3 c=some o→upd H3 tp o' c=some o:=fun e=>by rw[upd_ne (ne_of_none e htp)]; exact e
  have g4:Gr M H M (upd H3 tp (.tup [.ty "list",.ty "tuple"])):=g3.new htp
  have c1:upd H3 tp (.tup [.ty "list",.ty "tuple"]) lL=some (.lst xs'):=k3 b1
  have c2:upd H3 tp (.tup [.ty "list",.ty "tuple"]) rL=some (.lst zs'):=k3 b2
  have hT:upd H3 tp (.tup [.ty "list",.ty "tuple"]) tp=some (.tup [.ty "list",.ty "tuple"]):=upd_same
  generalize upd H3 tp (.tup [.ty "list",.ty "tuple"])=H4 at g4 c1 c2 hT ⊢
  cases tt' with
  | int i=>
   cases aty.int_inv
   cases atz.int_inv
   refine⟨_,tp,_,_,_,_,rfl,hT,.int i,any_i,_,rfl,iteF ?_⟩
   refine⟨_,rfl,_,_,_,_,rfl,.int i,kn_is,_,rfl,iteF ?_⟩
   refine⟨_,rfl,_,rfl,_,rfl,iteF ?_⟩
   refine⟨_,rfl,_,rfl,rfl,_,rfl,?_⟩
   rw[decide_eq_true rfl]
   refine iteF ⟨_,?_,ts'',xs',zs',_,_,rfl,rfl,g4,c1,c2,at1',at2',by omega⟩
   have:=cnt_pos (.int i)
   omega
  | str i=>
   cases aty.str_inv
   cases atz.str_inv
   refine⟨_,tp,_,_,_,_,rfl,hT,.str i,any_s,_,rfl,iteF ?_⟩
   refine⟨_,rfl,_,_,_,_,rfl,.str i,kit_same,_,rfl,iteT ?_⟩
   refine⟨_,rfl,_,_,_,_,rfl,.str i,kit_same,_,rfl,iteF ?_⟩
   refine⟨_,rfl,_,rfl,rfl,_,rfl,?_⟩
   rw[decide_eq_true rfl]
   refine iteF ⟨_,?_,ts'',xs',zs',_,_,rfl,rfl,g4,c1,c2,at1',at2',by omega⟩
   have:=cnt_pos (.str i)
   omega
  | lst us=>
   obtain⟨a1,x1,rfl,m1,q1⟩:=aty.lst_inv
   obtain⟨a2,x2,rfl,m2,q2⟩:=atz.lst_inv
   have n1:=g4.mh _ _ m1
   have n2:=g4.mh _ _ m2
   have hce:cnt (.lst us)=1+cnts us:=rfl
   rw[hce] at hc
   have hle:=cnts_len us
   have lx:x1.length=us.length:=q1.1.symm
   have lz:x2.length=us.length:=q2.1.symm
   have l1:xs'.length=ts''.length:=at1'.1.symm
   have l2:zs'.length=ts''.length:=at2'.1.symm
   refine⟨_,tp,_,_,_,_,rfl,hT,.lst n2,any_l,_,rfl,iteT ?_⟩
   refine⟨_,rfl,_,_,_,_,rfl,.lst n1,kit_same,_,rfl,_,_,_,_,rfl,.lst n2,kit_same,rfl,_,rfl,iteF ?_⟩
   refine⟨_,rfl,_,_,_,_,rfl,.lst n1,kn_lt,_,rfl,_,_,_,_,rfl,.lst n2,kn_lt,rfl,_,rfl,iteF ?_⟩
   refine⟨_,rfl,a1,_,rfl,.inl (SqL.of n1),_,rfl,a2,_,rfl,.inl (SqL.of n2),rfl,_,rfl,?_⟩
   rw[lx,lz,decide_eq_true rfl]
   refine iteF ?_
   refine⟨_,rfl,.inl ⟨rfl,_,SqL.of c1⟩,_,rfl,.inl ⟨lL,a1,_,_,rfl,rfl,c1,n1,big (by omega),?_⟩⟩
   have na2:a2≠lL:=fun e=>by rw[e,mL] at m2; cases m2
   have d2:upd H4 lL (.lst (xs'++x1)) rL=some (.lst zs'):=by rw[upd_ne ne.symm]; exact c2
   refine⟨_,rfl,.inl ⟨rfl,_,SqL.of d2⟩,_,rfl,.inl ⟨rL,a2,_,_,rfl,rfl,d2,by rw[upd_ne na2]; exact n2,big (by omega),?_⟩⟩
   refine⟨_,?_,ts''++us,xs'++x1,zs'++x2,_,_,rfl,rfl,(g4.put hL mL c1).put hR0 mR d2,by rw[upd_ne ne]; exact upd_same,upd_same,at1'.app q1,at2'.app q2,by rw[cnts_app]; omega⟩
   rw[cnts_app,hce]
   omega
  | tup us=>
   obtain⟨a1,x1,rfl,m1,q1⟩:=aty.tup_inv
   obtain⟨a2,x2,rfl,m2,q2⟩:=atz.tup_inv
   have n1:=g4.mh.tup m1
   have n2:=g4.mh.tup m2
   have hce:cnt (.tup us)=1+cnts us:=rfl
   rw[hce] at hc
   have hle:=cnts_len us
   have lx:x1.length=us.length:=q1.1.symm
   have lz:x2.length=us.length:=q2.1.symm
   have l1:xs'.length=ts''.length:=at1'.1.symm
   have l2:zs'.length=ts''.length:=at2'.1.symm
   refine⟨_,tp,_,_,_,_,rfl,hT,.tup n2,any_t,_,rfl,iteT ?_⟩
   refine⟨_,rfl,_,_,_,_,rfl,.tup n1,kn_tl,_,rfl,_,_,_,_,rfl,.tup n2,kn_tl,rfl,_,rfl,iteF ?_⟩
   refine⟨_,rfl,_,_,_,_,rfl,.tup n1,kit_same,_,rfl,_,_,_,_,rfl,.tup n2,kit_same,rfl,_,rfl,iteF ?_⟩
   refine⟨_,rfl,a1,_,rfl,.inr n1,_,rfl,a2,_,rfl,.inr n2,rfl,_,rfl,?_⟩
   rw[lx,lz,decide_eq_true rfl]
   refine iteF ?_
   refine⟨_,rfl,.inl ⟨rfl,_,SqL.of c1⟩,_,rfl,.inr ⟨lL,a1,_,_,rfl,rfl,c1,n1,big (by omega),?_⟩⟩
   have gq:=g4.put (o:=.lst (xs'++x1)) hL mL c1
   have d2:upd H4 lL (.lst (xs'++x1)) rL=some (.lst zs'):=by rw[upd_ne ne.symm]; exact c2
   refine⟨_,rfl,.inl ⟨rfl,_,SqL.of d2⟩,_,rfl,.inr ⟨rL,a2,_,_,rfl,rfl,d2,gq.mh.tup m2,big (by omega),?_⟩⟩
   refine⟨_,?_,ts''++us,xs'++x1,zs'++x2,_,_,rfl,rfl,gq.put hR0 mR d2,by rw[upd_ne ne]; exact upd_same,upd_same,at1'.app q1,at2'.app q2,by rw[cnts_app]; omega⟩
   rw[cnts_app,hce]
   omega
end
end W1
namespace L2
open PySem PySem.Spec PyProof.Rows
theorem ints_all:∀ {ns:List Int} {us:List Value},Vals (ns.map V.int) us→∀ v∈us,∃ n t,v = .int n t
 | [],_,.nil,v,hv=>by cases hv
 | n :: ns,u :: us,.cons r t,v,hv=>by
  rcases List.mem_cons.mp hv with rfl | h
  ·obtain⟨t,rfl⟩:=r
   exact⟨n,t,rfl⟩
  ·exact ints_all t v h
theorem call_sumA {X:Cx} (hh:X.A.handled=none):CallR X (.builtin "sum") (fun xs H Q=>∃ (p:Addr) (ns:List Int),xs=[.ref p]∧SqL X.K H p (ns.map V.int)∧∀ z,Q (.int z) H):=by
 intro pins s σ H xs us Q I r h
 obtain⟨p,ns,rfl,hp,q⟩:=h
 obtain⟨u,rfl,ru⟩:=vals1 r
 cases ru
 obtain⟨its,rr,pl,hz⟩:=I.list hp
 have hall:AllInts its.toArray:=fun v hv=>ints_all rr v (List.mem_toArray.mp hv)
 obtain⟨xs,hx⟩:=hall.items
 exact sum_intListG hh (hx▸pl.isList) fun h' tk t' hk=>⟨.int _,H,I.kept (t':=tk) hk,⟨_,rfl⟩,q _⟩
theorem boot_sumB:bootBuiltins "sum" = some (.builtin "sum"):=by decide +kernel
theorem tOrV_any {ta tb:TE} {σ:St} {H:Hp} {Q:VK} {R:Hp→Prop} (b:Bool) (h1:∀ Q':VK,Q' (.bl b) H→ta σ H Q') (h2:∀ Q':VK,(∀ c H1,R H1→Q' (.bl c) H1)→tb σ H Q') (r:R H) (h:∀ c H1,R H1→Q (.bl c) H1):tOrV ta tb σ H Q:=by
 refine h1 _ ⟨b,rfl,?_⟩
 cases b with
 | true=>rw[if_pos rfl]; exact h _ _ r
 | false=>rw[if_neg (by decide)]; exact h2 _ h
end L2
namespace W1
open PySem PySem.Spec L2
theorem z3:(0:Int)<3:=by decide
theorem z4:(0:Int)<4:=by decide
theorem z5:(0:Int)<5:=by decide
theorem z19:(0:Int)<19:=by decide
theorem z32:(0:Int)<32:=by decide
theorem cP:CPow 10 30:=⟨by decide,by decide,by decide⟩
theorem lt9000 {n:Nat} (h:n<2 ^ 64):n<2 ^ 9000:=FM.lt_mono h (by decide)
def spNum (K:PySem.W.Frag):Sp:=fun vs H Q _=>∃ (c lo hi:Int) (M:Hp),vs=[.int c,.int lo,.int hi]∧lo≤hi∧-10≤lo∧hi≤30∧Same M H∧∀ (z:Int) (H':Hp),Gr M H M H'→z.natAbs+10≤2 ^ 100→Q (.int z) H'
theorem in_range {c m lo:Int} (hm:0<m) (h1 : -10≤lo) (h2:m+lo≤31):(c % m+lo).natAbs+10≤2 ^ 100:=by
 have a:=Int.emod_nonneg c (show m≠0 by omega)
 have b:=Int.emod_lt_of_pos c hm
 have e:(2:Nat) ^ 100=1267650600228229401496703205376:=by decide
 rw[e]; omega
theorem far_in {far:Int} (h0:0≤far) (h1:far<10 ^ (30:Int).toNat):∀ v∈[1000000000000,-1000000000000,far,0-far],v.natAbs+10≤2 ^ 100:=by
 have e:(10:Int) ^ (30:Int).toNat=1000000000000000000000000000000:=by decide
 have e2:(2:Nat) ^ 100=1267650600228229401496703205376:=by decide
 rw[e] at h1
 intro v hv
 simp only [List.mem_cons,List.not_mem_nil,or_false] at hv
 rw[e2]
 rcases hv with rfl | rfl | rfl | rfl <;> omega
theorem far_ok (x:Int):0≤x % 10 ^ (30:Int).toNat∧x % 10 ^ (30:Int).toNat<10 ^ (30:Int).toNat:=⟨Int.emod_nonneg _ (by decide),Int.emod_lt_of_pos _ (by decide)⟩
def SmI (l:List Int):Prop:=∀ z∈l,z.natAbs≤2 ^ 100
def SmJ (l:List Int):Prop:=∀ z∈l,z.natAbs+10≤2 ^ 100
theorem SmJ.i {l:List Int} (h:SmJ l):SmI l:=fun z hz=>Nat.le_trans (Nat.le_add_right _ _) (h z hz)
theorem SmJ.snoc {l:List Int} {z:Int} (h:SmJ l) (hz:z.natAbs+10≤2 ^ 100):SmJ (l++[z]):=fun y hy=>by
 rcases List.mem_append.mp hy with q | q
 ·exact h y q
 ·have:y=z:=by simpa using q
  subst this; exact hz
def spTask (K:PySem.W.Frag):Sp:=fun vs H Q _=>∃ (a:Addr) (ns:List Int) (least:Int) (M:Hp),vs=[.ref a,.int least]∧0≤least∧least≤1∧SqL K H a (ns.map V.int)∧ns.length≤63∧Same M H ∧
 ∀ (U:List (List Int)) (am gn:List Int) (v:V) (M' H':Hp),Gr M H M' H'→Tsk U am gn→SmJ am→1≤gn.length→least≤am.length→At K M' (.tup [intssT U,intsT am,intsT gn]) v→Q v H'
section
variable {P:Program} {w:World} {K:PySem.W.Frag} {mg:Str→Option Value} {base:Heap} {t:Adr} {k:Nat}
theorem ok_Lnumber_of (T:Txt K mg t):FnOk P w K mg base CX0 (k+1) t.f_Lnumber_of t.d_Lnumber_of ["_law_cell","_law_low","_law_high"] (spNum K):=by
 refine T.F_Lnumber_of.ok sc_Lnumber_of (fun vs H Q E h=>?_) (fun cdv A outer s H vs Q E hr h=>?_)
 ·obtain⟨c,lo,hi,M,rfl,_⟩:=h
  rfl
 obtain⟨c,lo,hi,M,rfl,hl,h10,h30,hM,q⟩:=h
 have hm:0<hi-lo+1:=by omega
 refine⟨_,(pss_cons (ps_if (pt_cmpR op_gt (pv 1) pe_int (nomark _))
   (pss_one (ps_ret (pe_op op_add (pe_op op_mod (pv 0) (pe_op op_add (pe_op op_sub (pv 2) (pv 1)) pe_int)) (pv 1))))
   pss_nil)
  (pss_cons (ps_if (pt_cmpR op_eq (pe_op op_mod (pv 0) pe_int) pe_int (nomark _))
   (pss_cons (ps_set (i:=3) sc_Lnumber_of.nd rfl (Or.inl rfl) (pe_op op_mod (pe_op op_mulB (pv 0) pe_int) (pe_op op_pow pe_int pe_int)))
  (pss_one (ps_ret (pe_ix ix_list (pe_lst (pa_cons pe_int (pa_cons (pe_un un_neg pe_int) (pa_cons (pv 3) (pa_cons (pe_op op_sub pe_int (pv 3)) pa_nil))))) (pe_op op_mod (pe_op op_fdivB (pv 0) pe_int) pe_int) (fun _ _=>rfl)))))
   pss_nil)
  (pss_cons (ps_if (pt_cmpR op_eq (pe_op op_mod (pv 0) pe_int) pe_int (nomark _))
   (pss_one (ps_ret pe_int))
   pss_nil)
  (pss_one (ps_ret (pe_op op_add (pe_op op_mod (pe_op op_fdivB (pv 0) pe_int) (pe_op op_add (pe_op op_sub (pv 2) (pv 1)) pe_int)) (pv 1))))))),?_⟩
 refine⟨_,rfl,_,_,rfl,rfl,_,rfl,?_⟩
 refine ite2 (fun c1=>?_) (fun c1=>?_)
 ·exact⟨_,rfl,_,rfl,_,rfl,_,_,rfl,rfl,_,_,rfl,rfl,_,_,rfl,rfl,hm,_,rfl,_,_,rfl,rfl,q _ _ (Gr.refl hM) (in_range hm h10 (by omega))⟩
 refine⟨_,rfl,_,_,rfl,rfl,z19,rfl,_,rfl,?_⟩
 refine ite2 (fun c2=>?_) (fun c2=>?_)
 ·refine⟨_,rfl,_,_,rfl,rfl,.of_right (by decide),_,_,rfl,rfl,cP,_,_,rfl,rfl,zT,?_⟩
  obtain⟨f0,f1⟩:=far_ok (c*48271)
  obtain⟨x,hx,ex⟩:=menu (xs:=[1000000000000,-1000000000000,c*48271 % 10 ^ (30:Int).toNat,0-c*48271 % 10 ^ (30:Int).toNat]) (i:=c.fdiv 19 % 4) (Int.emod_nonneg _ (by decide)) (Int.emod_lt_of_pos _ (by decide))
  refine⟨_,rfl,_,rfl,_,rfl,_,_,rfl,rfl,(by show 4≤sizeLine; decide),fun p hp=>?_⟩
  exact⟨_,rfl,_,_,rfl,rfl,⟨by decide,lt9000 (by decide)⟩,_,_,rfl,rfl,z4,p,_,_,_,rfl,rfl,SqL.of upd_same,ex,q _ _ ((Gr.refl hM).new hp) (far_in f0 f1 x hx)⟩
 refine⟨_,rfl,_,_,rfl,rfl,z5,rfl,_,rfl,?_⟩
 refine ite2 (fun c3=>?_) (fun c3=>?_)
 ·exact q _ _ (Gr.refl hM) (by decide)
 ·exact⟨_,rfl,_,_,rfl,rfl,⟨by decide,lt9000 (by decide)⟩,_,rfl,_,rfl,_,_,rfl,rfl,_,_,rfl,rfl,_,_,rfl,rfl,hm,_,rfl,_,_,rfl,rfl,q _ _ (Gr.refl hM) (in_range hm h10 (by omega))⟩
set_option maxHeartbeats 4000000 in
theorem ok_Ltask_of (T:Txt K mg t) (G_Lat:FnOk P w K mg base CX0 k t.f_Lat t.d_Lat ["_law_script","_law_k"] (spAt K)) (G_Lnumber_of:FnOk P w K mg base CX0 k t.f_Lnumber_of t.d_Lnumber_of ["_law_cell","_law_low","_law_high"] (spNum K)) :
  FnOk P w K mg base CX0 (k+1) t.f_Ltask_of t.d_Ltask_of ["_law_script","_law_least"] (spTask K):=by
 refine T.F_Ltask_of.ok sc_Ltask_of (fun vs H Q E h=>?_) (fun cdv A outer s H vs Q E hr h=>?_)
 ·obtain⟨a,ns,least,M,rfl,_⟩:=h
  rfl
 obtain⟨a,ns,least,M,rfl,hl0,hl1,hS0,h63,hM0,q0⟩:=h
 have z0:0≤sizeLine:=by decide
 refine⟨_,(pss_cons (ps_set (i:=2) sc_Ltask_of.nd rfl (Or.inl rfl) (pe_op op_mulB pe_int (pe_callTy call_int1 rfl T.n_int bt_int (pa_cons (pe_or (pe_cmpR op_gt (pe_callB call_len_seq rfl T.n_len PySem.boot_len (pa_cons (pv 0) pa_nil)) pe_int (nomark _)) (pe_one (pe_cmpR op_eq (pe_op op_mod (pe_callB (call_sumA hr.hd) rfl T.n_sum boot_sumB (pa_cons (pe_slice sl_list (pv 0) po_none (po_some pe_int)) pa_nil)) pe_int) pe_int (nomark _)))) pa_nil))))
  (pss_cons (ps_set (i:=3) sc_Ltask_of.nd rfl (Or.inl rfl) (pe_op op_add (pe_op op_add pe_int (pe_op op_mod (pe_call G_Lat hr rfl T.m_Lat T.F_Lat.kp T.b_Lat .nil pass0 (pa_cons (pv 0) (pa_cons pe_int pa_nil))) pe_int)) (pv 2)))
  (pss_cons (ps_set (i:=4) sc_Ltask_of.nd rfl (Or.inl rfl) (pe_op op_add (pe_op op_add (pv 1) (pe_op op_mod (pe_op op_fdivB (pe_call G_Lat hr rfl T.m_Lat T.F_Lat.kp T.b_Lat .nil pass0 (pa_cons (pv 0) (pa_cons pe_int pa_nil))) pe_int) pe_int)) (pv 2)))
  (pss_cons (ps_set (i:=5) sc_Ltask_of.nd rfl (Or.inl rfl) (pe_ix ix_list (pe_lst (pa_cons pe_int (pa_cons (pe_un un_neg pe_int) (pa_cons pe_int pa_nil)))) (pe_op op_mod (pe_op op_fdivB (pe_call G_Lat hr rfl T.m_Lat T.F_Lat.kp T.b_Lat .nil pass0 (pa_cons (pv 0) (pa_cons pe_int pa_nil))) pe_int) pe_int) (fun _ _=>rfl)))
  (pss_cons (ps_set (i:=6) sc_Ltask_of.nd rfl (Or.inl rfl) (pe_lst pa_nil))
  (pss_cons (ps_for PassesOwn.never rfl (pi_range1 rfl T.n_range (pa_cons (pv 4) pa_nil)) (pg_name (i:=7) sc_Ltask_of.nd rfl (Or.inl rfl))
   (pss_cons (ps_set (i:=11) sc_Ltask_of.nd rfl (Or.inl rfl) (pe_lst pa_nil))
  (pss_cons (ps_for PassesOwn.never rfl (pi_range1 rfl T.n_range (pa_cons (pv 3) pa_nil)) (pg_name (i:=10) sc_Ltask_of.nd rfl (Or.inl rfl))
   (pss_one (ps_expr (pe_bm PySem.F.plainAttrs_list PySem.F.slot_list_append PySem.F.type_list_append mt_append (pv 11) (pa_cons (pe_call G_Lnumber_of hr rfl T.m_Lnumber_of T.F_Lnumber_of.kp T.b_Lnumber_of .nil pass0 (pa_cons (pe_call G_Lat hr rfl T.m_Lat T.F_Lat.kp T.b_Lat .nil pass0 (pa_cons (pv 0) (pa_cons (pe_op op_add (pe_op op_add pe_int (pe_op op_mulB pe_int (pv 7))) (pv 10)) pa_nil))) (pa_cons (pv 5) (pa_cons pe_int pa_nil)))) pa_nil)))))
  (pss_one (ps_expr (pe_bm PySem.F.plainAttrs_list PySem.F.slot_list_append PySem.F.type_list_append mt_append (pv 6) (pa_cons (pv 11) pa_nil)))))))
  (pss_cons (ps_set (i:=8) sc_Ltask_of.nd rfl (Or.inl rfl) (pe_lst pa_nil))
  (pss_cons (ps_for PassesOwn.never rfl (pi_range1 rfl T.n_range (pa_cons (pv 4) pa_nil)) (pg_name (i:=7) sc_Ltask_of.nd rfl (Or.inl rfl))
   (pss_one (ps_expr (pe_bm PySem.F.plainAttrs_list PySem.F.slot_list_append PySem.F.type_list_append mt_append (pv 8) (pa_cons (pe_call G_Lnumber_of hr rfl T.m_Lnumber_of T.F_Lnumber_of.kp T.b_Lnumber_of .nil pass0 (pa_cons (pe_call G_Lat hr rfl T.m_Lat T.F_Lat.kp T.b_Lat .nil pass0 (pa_cons (pv 0) (pa_cons (pe_op op_add pe_int (pv 7)) pa_nil))) (pa_cons (pe_op op_sub (pv 5) pe_int) (pa_cons pe_int pa_nil)))) pa_nil)))))
  (pss_cons (ps_set (i:=9) sc_Ltask_of.nd rfl (Or.inl rfl) (pe_lst pa_nil))
  (pss_cons (ps_for PassesOwn.never rfl (pi_range1 rfl T.n_range (pa_cons (pv 3) pa_nil)) (pg_name (i:=10) sc_Ltask_of.nd rfl (Or.inl rfl))
   (pss_one (ps_expr (pe_bm PySem.F.plainAttrs_list PySem.F.slot_list_append PySem.F.type_list_append mt_append (pv 9) (pa_cons (pe_call G_Lnumber_of hr rfl T.m_Lnumber_of T.F_Lnumber_of.kp T.b_Lnumber_of .nil pass0 (pa_cons (pe_call G_Lat hr rfl T.m_Lat T.F_Lat.kp T.b_Lat .nil pass0 (pa_cons (pv 0) (pa_cons (pe_op op_add pe_int (pv 10)) pa_nil))) (pa_cons (pe_op op_sub (pv 5) (pe_callTy call_int1 rfl T.n_int bt_int (pa_cons (pe_cmpR op_lt (pv 5) pe_int (nomark _)) pa_nil))) (pa_cons pe_int pa_nil)))) pa_nil)))))
  (pss_cons (ps_if (PW.pt (pw_and (pt_cmpR op_eq (pe_op op_mod (pe_call G_Lat hr rfl T.m_Lat T.F_Lat.kp T.b_Lat .nil pass0 (pa_cons (pv 0) (pa_cons pe_int pa_nil))) pe_int) pe_int (nomark _)) (pw_and1 (pt_cmpR op_gt (pv 4) pe_int (nomark _)))))
   (pss_cons (ps_asg (pe_compG rfl (compt_of (n:=1) (js:=[]) (Nb:=["_law_number"]) (by kernel_rfl) rfl (by decide +kernel) (by decide) (by kernel_rfl)) (pi_list (pe_ix ix_list (pv 6) pe_int (fun _ _=>rfl))) (fun C s0 H0 fp pn'=>(pg_name (i:=0) (nd_of (l:=["_law_number"]) (by decide +kernel)) rfl (Or.inl rfl))) own_name (fun C s0 H0 fp pn'=>pts_none) (fun C s0 H0 fp pn'=>(pe_op op_sub pe_int (pv 0)))) (pg_sub (pv 6) pe_int set_list))
  (pss_one (ps_asg (pe_op op_sub pe_int (pe_ix ix_list (pv 8) pe_int (fun _ _=>rfl))) (pg_sub (pv 8) pe_int set_list))))
   pss_nil)
  (pss_one (ps_ret (pe_tup (pa_cons (pv 6) (pa_cons (pv 8) (pa_cons (pv 9) pa_nil))))))))))))))))),?_⟩
 refine tOrV_any (R:=fun H1=>Gr M H M H1) _ (fun Q' h=>⟨_,rfl,a,_,rfl,.inl hS0,_,_,rfl,rfl,h⟩) (fun Q' h=>⟨_,rfl,_,rfl,a,_,rfl,hS0,fun p hp=>?_⟩) (Gr.refl hM0) fun c H1 g0=>.inr ⟨c,rfl,_,_,rfl,rfl,.of_left (by decide),?_⟩
 ·refine⟨p,ns.take 1,rfl,?_,fun z=>⟨_,_,rfl,rfl,z32,rfl,h _ _ ((Gr.refl hM0).new hp)⟩⟩
  have:cutV (ns.map V.int) none (some 1)=(ns.take 1).map V.int:=by
   unfold cutV
   rw[HT.sIx_none,List.drop_zero]
   show (ns.map V.int).take ((if (1:Int)<0 then (1+((ns.map V.int).length:Int)).toNat else min (1:Int).toNat (ns.map V.int).length)-0)=_
   rw[if_neg (by decide),List.map_take]
   show (ns.map V.int).take (min 1 (ns.map V.int).length-0)=_
   rw[Nat.sub_zero,List.take_eq_take_iff]
   omega
  rw[this]
  exact SqL.of upd_same
 have hm1:(if c=true then (1:Int) else 0)=0∨(if c=true then (1:Int) else 0)=1:=by cases c <;> simp
 dsimp only
 generalize (if c=true then (1:Int) else 0)=m1 at hm1 ⊢
 refine⟨_,rfl,a,ns,_,M,rfl,g0.hseq hS0,h63,g0.mh,fun H2 g2=>⟨_,_,rfl,rfl,z3,_,_,rfl,rfl,_,rfl,_,_,rfl,rfl,?_⟩⟩
 have g02:=g0.trans g2
 refine⟨_,rfl,_,rfl,a,ns,_,M,rfl,g02.hseq hS0,h63,g2.mh,fun H3 g3=>⟨_,_,rfl,rfl,⟨by decide,lt9000 (by decide)⟩,_,_,rfl,rfl,z4,_,_,rfl,rfl,_,rfl,_,_,rfl,rfl,?_⟩⟩
 have g03:=g02.trans g3
 have hw:1≤1+atV ns 0 % 3+3*m1∧1+atV ns 0 % 3+3*m1≤6:=by
  have x1:=Int.emod_nonneg (atV ns 0) (show (3:Int)≠0 by decide)
  have x2:=Int.emod_lt_of_pos (atV ns 0) z3
  omega
 have hst:least≤least+(atV ns 0).fdiv 3 % 4+3*m1∧least+(atV ns 0).fdiv 3 % 4+3*m1≤7:=by
  have x1:=Int.emod_nonneg ((atV ns 0).fdiv 3) (show (4:Int)≠0 by decide)
  have x2:=Int.emod_lt_of_pos ((atV ns 0).fdiv 3) z4
  omega
 dsimp only
 generalize 1+atV ns 0 % 3+3*m1=W at hw ⊢
 generalize least+(atV ns 0).fdiv 3 % 4+3*m1=S at hst ⊢
 generalize 3*m1=m3
 obtain⟨n,rfl⟩:=Int.eq_ofNat_of_zero_le (show 0≤W by omega)
 obtain⟨m,rfl⟩:=Int.eq_ofNat_of_zero_le (show 0≤S by omega)
 refine⟨_,rfl,three_ok,fun pl hpl=>?_⟩
 have g4:=g03.new (o:=.lst [.int 0,.int (-3),.int 1]) hpl
 refine⟨_,rfl,a,ns,_,M,rfl,g4.hseq hS0,h63,g4.mh,fun H5 g5=>?_⟩
 obtain⟨lo,hlo,elo⟩:=menu (xs:=[0,-3,1]) (i:=(atV ns 0).fdiv 12 % 3) (Int.emod_nonneg _ (by decide)) (Int.emod_lt_of_pos _ (by decide))
 have hlo':lo=0∨lo = -3∨lo=1:=by simpa using hlo
 refine⟨_,_,rfl,rfl,⟨by decide,lt9000 (by decide)⟩,_,_,rfl,rfl,z3,pl,_,_,_,rfl,rfl,SqL.of (g5.hh _ _ upd_same),elo,?_⟩
 have gS:=g4.trans g5
 refine⟨z0,fun f hf=>?_⟩
 have hf0:H f=none:=gS.hfree hf
 have mf0:M f=none:=hM0.free hf0
 have gU:=gS.new (o:=.lst []) hf
 refine⟨_,rfl,_,rfl,by omega,by omega,for_range (n:=m) (fun i σ H'=>(∃ c d e:Option V,σ=[some (.ref a),some (.int least),some (.int m3),some (.int (n:Nat)),some (.int (m:Nat)),some (.int lo),some (.ref f),c,none,none,d,e]) ∧
  ∃ (Mi:Hp) (U:List (List Int)) (ys:List V),Gr M H Mi H'∧Mi f=none∧H' f=some (.lst ys)∧Ats K Mi (U.map intsT) ys∧U.length=i∧∀ row∈U,row.length=n∧SmJ row) ⟨⟨none,none,none,rfl⟩,M,[],[],gU,mf0,upd_same,Ats.nil,rfl,fun row hrow=>by cases hrow⟩ ?_ ?_⟩
 ·rintro i σ H' hi ⟨⟨c,d,e,rfl⟩,Mi,U,ys,g,mf,hy,at_,hUl,hU⟩
  have hyl:ys.length=i:=by have:=at_.1; simp at this; omega
  refine⟨z0,fun r hr'=>?_⟩
  have hr0:H r=none:=g.hfree hr'
  have mr:Mi r=none:=g.mh.free hr'
  have nfr:f≠r:=ne_of_none hy hr'
  refine⟨_,rfl,_,rfl,by omega,by omega,for_range (n:=n) (fun j σ H''=>(∃ d:Option V,σ=[some (.ref a),some (.int least),some (.int m3),some (.int (n:Nat)),some (.int (m:Nat)),some (.int lo),some (.ref f),some (.int (0+(i:Nat))),none,none,d,some (.ref r)]) ∧
   ∃ l:List Int,Gr M H Mi H''∧H'' f=some (.lst ys)∧H'' r=some (.lst (l.map V.int))∧l.length=j∧SmJ l) ⟨⟨_,rfl⟩,[],g.new hr',by rw[upd_ne nfr]; exact hy,upd_same,rfl,fun z hz=>by cases hz⟩ ?_ ?_⟩
  ·rintro j σ H'' hj ⟨⟨d,rfl⟩,l,gj,hfj,hrj,hlj,hsj⟩
   refine⟨_,rfl,.inl ⟨rfl,_,SqL.of hrj⟩,_,rfl,_,rfl,_,_,rfl,rfl,.of_left (by decide),_,_,rfl,rfl,_,rfl,_,_,rfl,rfl,a,ns,_,Mi,rfl,gj.hseq hS0,h63,gj.mh,fun H6 g6=>?_⟩
   refine⟨_,rfl,_,_,_,Mi,rfl,by omega,by omega,by omega,g6.mh,fun z H7 g7 hz=>?_⟩
   have g67:=g6.trans g7
   have hr7:=g67.hh _ _ hrj
   refine⟨r,_,_,rfl,rfl,hr7,small1000 (by simp <;> omega),⟨_,rfl⟩,l++[z],(gj.trans g67).put hr0 mr hr7,by rw[upd_ne nfr]; exact g67.hh _ _ hfj,?_,by simp <;> omega,hsj.snoc hz⟩
   rw[upd_same,List.map_append]; rfl
  ·rintro σ H'' ⟨⟨d,rfl⟩,l,gj,hfj,hrj,hlj,hsj⟩
   have gz:Gr M H (upd Mi r (.lst (l.map V.int))) H'':=gj.frz hr0 mr hrj
   have mf':upd Mi r (.lst (l.map V.int)) f=none:=by rw[upd_ne nfr]; exact mf
   refine⟨_,rfl,.inl ⟨rfl,_,SqL.of hfj⟩,_,rfl,f,_,_,rfl,rfl,hfj,small1000 (by omega),⟨_,_,_,rfl⟩,upd Mi r (.lst (l.map V.int)),U++[l],ys++[.ref r],gz.put hf0 mf' hfj,mf',upd_same,?_,by simp <;> omega,?_⟩
   ·rw[List.map_append]
    exact (at_.mono (same_new mr _)).snoc ((Ats.ints _).lst upd_same)
   ·intro row hrow
    rcases List.mem_append.mp hrow with x | x
    ·exact hU row x
    ·have:row=l:=by simpa using x
     subst this
     exact⟨hlj,hsj⟩
 rintro σ HU ⟨⟨c,d,e,rfl⟩,MU,U,ys,gU,mfU,hyU,atU,hUl,hU⟩
 have hyl:ys.length=m:=by have:=atU.1; simp at this; omega
 refine⟨z0,fun f2 hf2=>?_⟩
 have hf20:H f2=none:=gU.hfree hf2
 have mf2:MU f2=none:=gU.mh.free hf2
 have n12:f≠f2:=ne_of_none hyU hf2
 refine⟨_,rfl,_,rfl,by omega,by omega,for_range (n:=m) (fun i σ H'=>(∃ c:Option V,σ=[some (.ref a),some (.int least),some (.int m3),some (.int (n:Nat)),some (.int (m:Nat)),some (.int lo),some (.ref f),c,some (.ref f2),none,d,e]) ∧
  ∃ l:List Int,Gr M H MU H'∧H' f=some (.lst ys)∧H' f2=some (.lst (l.map V.int))∧l.length=i∧SmJ l) ⟨⟨_,rfl⟩,[],gU.new hf2,by rw[upd_ne n12]; exact hyU,upd_same,rfl,fun z hz=>by cases hz⟩ ?_ ?_⟩
 ·rintro i σ H' hi ⟨⟨c,rfl⟩,l,gj,hfj,hrj,hlj,hsj⟩
  refine⟨_,rfl,.inl ⟨rfl,_,SqL.of hrj⟩,_,rfl,_,rfl,_,_,rfl,rfl,a,ns,_,MU,rfl,gj.hseq hS0,h63,gj.mh,fun H6 g6=>?_⟩
  refine⟨_,rfl,_,_,rfl,rfl,_,_,_,MU,rfl,by omega,by omega,by omega,g6.mh,fun z H7 g7 hz=>?_⟩
  have g67:=g6.trans g7
  have hr7:=g67.hh _ _ hrj
  refine⟨f2,_,_,rfl,rfl,hr7,small1000 (by simp <;> omega),⟨_,rfl⟩,l++[z],(gj.trans g67).put hf20 mf2 hr7,by rw[upd_ne n12]; exact g67.hh _ _ hfj,?_,by simp <;> omega,hsj.snoc hz⟩
  rw[upd_same,List.map_append]; rfl
 rintro σ HA ⟨⟨c,rfl⟩,am,gA,hfA,hrA,hlA,hsA⟩
 refine⟨z0,fun f3 hf3=>?_⟩
 have hf30:H f3=none:=gA.hfree hf3
 have mf3:MU f3=none:=gA.mh.free hf3
 have n13:f≠f3:=ne_of_none hfA hf3
 have n23:f2≠f3:=ne_of_none hrA hf3
 refine⟨_,rfl,_,rfl,by omega,by omega,for_range (n:=n) (fun i σ H'=>(∃ d:Option V,σ=[some (.ref a),some (.int least),some (.int m3),some (.int (n:Nat)),some (.int (m:Nat)),some (.int lo),some (.ref f),c,some (.ref f2),some (.ref f3),d,e]) ∧
  ∃ l:List Int,Gr M H MU H'∧H' f=some (.lst ys)∧H' f2=some (.lst (am.map V.int))∧H' f3=some (.lst (l.map V.int))∧l.length=i∧SmJ l) ⟨⟨_,rfl⟩,[],gA.new hf3,by rw[upd_ne n13]; exact hfA,by rw[upd_ne n23]; exact hrA,upd_same,rfl,fun z hz=>by cases hz⟩ ?_ ?_⟩
 ·rintro i σ H' hi ⟨⟨d,rfl⟩,l,gj,hfj,haj,hrj,hlj,hsj⟩
  refine⟨_,rfl,.inl ⟨rfl,_,SqL.of hrj⟩,_,rfl,_,rfl,_,_,rfl,rfl,a,ns,_,MU,rfl,gj.hseq hS0,h63,gj.mh,fun H6 g6=>?_⟩
  have hb:∀ b:Bool,(if b=true then (1:Int) else 0)=0∨(if b=true then (1:Int) else 0)=1:=fun b=>by cases b <;> simp
  have hbl:=hb (decide (lo<1))
  refine⟨_,rfl,_,rfl,_,_,rfl,rfl,.inr ⟨_,rfl,_,_,rfl,rfl,_,_,_,MU,rfl,by omega,by omega,by omega,g6.mh,fun z H7 g7 hz=>?_⟩⟩
  have g67:=g6.trans g7
  have hr7:=g67.hh _ _ hrj
  refine⟨f3,_,_,rfl,rfl,hr7,small1000 (by simp <;> omega),⟨_,rfl⟩,l++[z],(gj.trans g67).put hf30 mf3 hr7,by rw[upd_ne n13]; exact g67.hh _ _ hfj,by rw[upd_ne n23]; exact g67.hh _ _ haj,?_,by simp <;> omega,hsj.snoc hz⟩
  rw[upd_same,List.map_append]; rfl
 rintro σ HG ⟨⟨d,rfl⟩,gn,gG,hfG,haG,hgG,hlG,hsG⟩
 have fin:∀ (Mx Hx:Hp) (U:List (List Int)) (am:List Int) (ys:List V),Gr M H Mx Hx→Mx f=none→Mx f2=none→Mx f3=none→Hx f=some (.lst ys)→Hx f2=some (.lst (am.map V.int))→Hx f3=some (.lst (gn.map V.int))→Ats K Mx (U.map intsT) ys→U.length=m→am.length=m→(∀ row∈U,row.length=n∧SmJ row)→SmJ am→∀ p,Hx p=none→Q (.ref p) (upd Hx p (.tup [.ref f,.ref f2,.ref f3])):=by
  intro Mx Hx U am ys g m1 m2 m3 h1 h2 h3 at_ lU lA hU hA p hp
  have k1:Gr M H (upd Mx f (.lst ys)) Hx:=g.frz hf0 m1 h1
  have k2:Gr M H (upd (upd Mx f (.lst ys)) f2 (.lst (am.map V.int))) Hx:=k1.frz hf20 (by rw[upd_ne n12.symm]; exact m2) h2
  have k3:Gr M H (upd (upd (upd Mx f (.lst ys)) f2 (.lst (am.map V.int))) f3 (.lst (gn.map V.int))) Hx:=k2.frz hf30 (by rw[upd_ne n23.symm,upd_ne n13.symm]; exact m3) h3
  have s1:Same Mx (upd Mx f (.lst ys)):=same_new m1 _
  have s2:Same (upd Mx f (.lst ys)) (upd (upd Mx f (.lst ys)) f2 (.lst (am.map V.int))):=same_new (by rw[upd_ne n12.symm]; exact m2) _
  have s3:Same (upd (upd Mx f (.lst ys)) f2 (.lst (am.map V.int))) (upd (upd (upd Mx f (.lst ys)) f2 (.lst (am.map V.int))) f3 (.lst (gn.map V.int))):=same_new (by rw[upd_ne n23.symm,upd_ne n13.symm]; exact m3) _
  have t1:At K (upd Mx f (.lst ys)) (intssT U) (.ref f):=(at_.mono s1).lst upd_same
  have t2:At K (upd (upd Mx f (.lst ys)) f2 (.lst (am.map V.int))) (intsT am) (.ref f2):=(Ats.ints _).lst upd_same
  have t3:At K (upd (upd (upd Mx f (.lst ys)) f2 (.lst (am.map V.int))) f3 (.lst (gn.map V.int))) (intsT gn) (.ref f3):=(Ats.ints _).lst upd_same
  have t1':=t1.mono (s2.trans s3)
  have t2':=t2.mono s3
  generalize upd (upd (upd Mx f (.lst ys)) f2 (.lst (am.map V.int))) f3 (.lst (gn.map V.int))=M9 at k3 t3 t1' t2'
  have k4:=k3.add (o:=.tup [.ref f,.ref f2,.ref f3]) hp
  have s4:Same M9 (upd M9 p (.tup [.ref f,.ref f2,.ref f3])):=same_new (k3.mh.free hp) _
  refine q0 U am gn _ _ _ k4 ⟨⟨by omega,fun row hr=>by rw[(hU row hr).1,hlG]⟩,⟨fun row hr=>(hU row hr).2.i,hA.i,hsG.i⟩,by omega,by omega⟩ hA (by omega) (by omega) ?_
  exact (Ats.cons (t1'.mono s4) (Ats.cons (t2'.mono s4) (Ats.cons (t3.mono s4) Ats.nil))).tup (SqT.of upd_same)
 have mx2:MU f2=none:=mf2
 refine⟨_,rfl,a,ns,_,MU,rfl,gG.hseq hS0,h63,gG.mh,fun H6 g6=>?_⟩
 have gG6:=gG.trans g6
 have hf6:=g6.hh _ _ hfG
 have ha6:=g6.hh _ _ haG
 have hg6:=g6.hh _ _ hgG
 refine⟨_,_,rfl,rfl,z3,rfl,_,rfl,?_⟩
 refine ite2 (fun c1=>?_) (fun c1=>?_)
 ·refine⟨_,rfl,_,_,rfl,rfl,_,rfl,?_⟩
  refine ite2 (fun c2=>?_) (fun c2=>?_)
  ·have hm2:1<m:=by have:=of_decide_eq_true c2; omega
   obtain⟨x0,hx0⟩:∃ x0,ys[0]? = some x0:=⟨ys[0]'(by omega),List.getElem?_eq_getElem (by omega)⟩
   obtain⟨row0,hrow0,at0⟩:=intss_get' atU hx0
   obtain⟨b0,xs0,rfl,hb0,ats0⟩:=at0.lst_inv
   have ex0:=Ats.ints_inv ats0
   subst ex0
   obtain⟨hrl,hrs⟩:=hU row0 (List.mem_of_getElem? hrow0)
   refine⟨_,rfl,f,_,_,_,rfl,rfl,SqL.of hf6,atI_nat (j:=0) hx0,b0,rfl,⟨_,SqL.of (g6.mh _ _ hb0)⟩,fun y hy=>cm_list (K:=K) (M:=MU) (F:=fun i=>.int (0-row0.getD i 0)) g6.mh hb0 (by simp <;> omega) hy (fun i x Mi Hi Qy hx gi kk=>?_) (fun M2 H2 ys2 g2' m2 hys at2=>?_)⟩
   ·rw[List.getElem?_map] at hx
    cases e:row0[i]? with
    | none=>rw[e] at hx; cases hx
    | some v=>
     rw[e] at hx
     cases hx
     refine⟨_,rfl,_,_,rfl,rfl,kk _ _ _ (Gr.refl gi.mh) ?_⟩
     rw[SH.gI e]
     exact .int
   have at3:Ats K M2 ((row0.map fun z=>0-z).map Tr.int) ys2:=ats_range at2 (by simp) fun i t ht=>by
    rw[List.map_map,List.getElem?_map] at ht
    cases e:row0[i]? with
    | none=>rw[e] at ht; cases ht
    | some v=>rw[e] at ht; cases ht; rw[SH.gI e]; rfl
   have ey2:=Ats.ints_inv at3
   subst ey2
   have gH2:=gG6.trans g2'
   have hy0:H y=none:=gG6.hfree hy
   have gz:Gr M H (upd M2 y (.lst ((row0.map fun z=>0-z).map V.int))) H2:=gH2.frz hy0 m2 hys
   have f2':=g2'.hh _ _ hf6
   have a2':=g2'.hh _ _ ha6
   have n2':=g2'.hh _ _ hg6
   have nfy:f≠y:=ne_of_none hf6 hy
   have nf2y:f2≠y:=ne_of_none ha6 hy
   have nf3y:f3≠y:=ne_of_none hg6 hy
   have mz:∀ {q:Addr} {o:HO},H6 q=some o→MU q=none→q≠y→upd M2 y (.lst ((row0.map fun z=>0-z).map V.int)) q=none:=fun h1 h2 h3=>by rw[upd_ne h3]; exact g2'.fr _ _ h1 h2
   have mzf:=mz hf6 mfU nfy
   have mzf2:=mz ha6 mf2 nf2y
   have mzf3:=mz hg6 mf3 nf3y
   have atz:Ats K (upd M2 y (.lst ((row0.map fun z=>0-z).map V.int))) ((U.set 1 (row0.map fun z=>0-z)).map intsT) (ys.set 1 (.ref y)):=by
    rw[List.map_set]
    exact ((atU.mono g2'.mm).mono (same_new m2 _)).set ((Ats.ints _).lst upd_same) 1
   generalize upd M2 y (.lst ((row0.map fun z=>0-z).map V.int))=MZ at gz mzf mzf2 mzf3 atz
   refine⟨_,rfl,f,ys,_,1,rfl,rfl,f2',ix_nat (xs:=ys) (p:=1) (show (1:Nat)<ys.length by omega),?_⟩
   have gz2:=gz.put (o:=.lst (ys.set 1 (.ref y))) hf0 mzf f2'
   have hA0:0<am.length:=by omega
   obtain⟨z0,hz0⟩:∃ z0:Int,am[0]? = some z0:=⟨am[0],List.getElem?_eq_getElem hA0⟩
   have hq0:(am.map V.int)[0]? = some (.int z0):=by rw[List.getElem?_map,hz0]; rfl
   have a3':upd H2 f (.lst (ys.set 1 (.ref y))) f2=some (.lst (am.map V.int)):=by rw[upd_ne n12.symm]; exact a2'
   have n3':upd H2 f (.lst (ys.set 1 (.ref y))) f3=some (.lst (gn.map V.int)):=by rw[upd_ne n13.symm]; exact n2'
   refine⟨_,rfl,f2,_,_,_,rfl,rfl,SqL.of a3',atI_nat (j:=0) hq0,_,_,rfl,rfl,_,rfl,f2,_,_,1,rfl,rfl,a3',ix_nat (xs:=am.map V.int) (p:=1) (show (1:Nat)<(am.map V.int).length by rw[List.length_map]; omega),?_⟩
   have gz3:=gz2.put (o:=.lst ((am.map V.int).set 1 (.int ((0:Int)-z0)))) hf20 mzf2 a3'
   refine⟨_,rfl,_,rfl,_,rfl,three_ok,fin MZ _ (U.set 1 (row0.map fun z=>0-z)) (am.set 1 ((0:Int)-z0)) (ys.set 1 (.ref y)) gz3 mzf mzf2 mzf3 (by rw[upd_ne n12]; exact upd_same) (by rw[upd_same,List.map_set]) (by rw[upd_ne n23.symm]; exact n3') atz (by simp <;> omega) (by simp <;> omega) (fun row hrow=>?_) fun z hz=>?_⟩
   ·rcases List.mem_or_eq_of_mem_set hrow with x | x
    ·exact hU row x
    ·subst x
     refine⟨by simp <;> omega,fun z hz=>?_⟩
     obtain⟨v,hv,rfl⟩:=List.mem_map.mp hz
     have:=hrs v hv
     rw[show (0:Int)-v = -v by omega,Int.natAbs_neg]; exact this
   ·rcases List.mem_or_eq_of_mem_set hz with x | x
    ·exact hsA z x
    ·subst x
     have:=hsA z0 (List.mem_of_getElem? hz0)
     rw[show (0:Int)-z0 = -z0 by omega,Int.natAbs_neg]; exact this
  ·exact⟨_,rfl,_,rfl,_,rfl,three_ok,fin MU H6 U am ys gG6 mfU mf2 mf3 hf6 ha6 hg6 atU hUl hlA hU hsA⟩
 ·exact⟨_,rfl,_,rfl,_,rfl,three_ok,fin MU H6 U am ys gG6 mfU mf2 mf3 hf6 ha6 hg6 atU hUl hlA hU hsA⟩
end
end W1
namespace W1
open PySem PySem.Spec L2
def spTot (K:PySem.W.Frag):Sp:=fun vs H Q _=>∃ (v1 v2:V) (ns:List Int) (x:List Rat) (M:Hp),vs=[v1,v2]∧At K M (intsT ns) v1∧At K M (lnT x) v2∧x.length=ns.length∧ns.length≤10∧SmI ns∧SH.SmLs 1001 x∧Same M H∧Res K M H (pT (SH.tot ns x).1 (SH.tot ns x).2) Q
def spNb (K:PySem.W.Frag):Sp:=fun vs H Q _=>∃ (v:V) (x:List Rat) (M:Hp),vs=[v]∧At K M (lnT x) v∧Same M H∧∀ b:Bool,(b=true↔∀ a∈x,0≤a)→Q (.bl b) H
def spWith (K:PySem.W.Frag):Sp:=fun vs H Q _=>∃ (v1 v2 v3:V) (U:List (List Int)) (am gn:List Int) (x:List Rat) (M:Hp),vs=[v1,v2,v3]∧Tsk U am gn∧At K M (intssT U) v1∧At K M (intsT am) v2∧At K M (lnT x) v3∧x.length=gn.length∧SH.SmLs 1001 x∧Same M H ∧
 ∀ (b:Bool) (M' H':Hp),Gr M H M' H'→(b=true↔SH.PlanR U am gn x)→Q (.bl b) H'
def spCol (K:PySem.W.Frag):Sp:=fun vs H Q _=>∃ (v:V) (U:List (List Int)) (j n:Nat) (M:Hp),vs=[v,.int j]∧At K M (intssT U) v∧(∀ row∈U,row.length=n)∧j<n∧U.length≤100∧Same M H∧Res K M H (intsT (SH.col U j)) Q
structure Tk (K:PySem.W.Frag) (M:Hp) (U:List (List Int)) (am gn:List Int) (v1 v2 v3:V):Prop where
 u:At K M (intssT U) v1
 a:At K M (intsT am) v2
 g:At K M (intsT gn) v3
theorem Tk.mono {K:PySem.W.Frag} {M M':Hp} {U:List (List Int)} {am gn:List Int} {v1 v2 v3:V} (h:Tk K M U am gn v1 v2 v3) (e:Same M M'):Tk K M' U am gn v1 v2 v3:=⟨h.u.mono e,h.a.mono e,h.g.mono e⟩
def spBr (K:PySem.W.Frag):Sp:=fun vs H Q _=>∃ (v1 v2 v3 v4 v5:V) (U:List (List Int)) (am gn:List Int) (x y:List Rat) (M:Hp),vs=[v1,v2,v3,v4,v5]∧Tsk U am gn∧Tk K M U am gn v1 v2 v3∧At K M (lnT x) v4∧At K M (lnT y) v5∧x.length=gn.length∧y.length=am.length∧SH.SmLs 1001 x∧SH.SmLs 1001 y∧Same M H∧∀ (b:Bool) (M' H':Hp),Gr M H M' H'→(b=true↔SH.BestR U am gn x y)→Q (.bl b) H'
def spNr (K:PySem.W.Frag):Sp:=fun vs H Q _=>∃ (v1 v2 v3 v4:V) (U:List (List Int)) (am gn:List Int) (y:List Rat) (M:Hp),vs=[v1,v2,v3,v4]∧Tsk U am gn∧Tk K M U am gn v1 v2 v3∧At K M (lnT y) v4∧y.length=am.length∧SH.SmLs 1001 y∧Same M H∧∀ (b:Bool) (M' H':Hp),Gr M H M' H'→(b=true↔SH.NoneR U am gn y)→Q (.bl b) H'
def spEr (K:PySem.W.Frag):Sp:=fun vs H Q _=>∃ (v1 v2 v3 v4 v5:V) (U:List (List Int)) (am gn:List Int) (x y:List Rat) (M:Hp),vs=[v1,v2,v3,v4,v5]∧Tsk U am gn∧Tk K M U am gn v1 v2 v3∧At K M (lnT x) v4∧At K M (lnT y) v5∧x.length=gn.length∧y.length=gn.length∧SH.SmLs 1001 x∧SH.SmLs 1001 y∧Same M H∧∀ (b:Bool) (M' H':Hp),Gr M H M' H'→(b=true↔SH.EndR U am gn x y)→Q (.bl b) H'
def Fit5 (am gn:List Int):SH.Ans→Prop
 | .best x y=>x.length=gn.length∧y.length=am.length∧SH.SmLs 1001 x∧SH.SmLs 1001 y
 | .no y=>y.length=am.length∧SH.SmLs 1001 y
 | .endl x y=>x.length=gn.length∧y.length=gn.length∧SH.SmLs 1001 x∧SH.SmLs 1001 y
theorem sm1 {l:List Rat} (h:SH.SmLs 1000 l):SH.SmLs 1001 l:=fun a ha=>sm_mono (h a ha) (by decide)
theorem fit5 {U:List (List Int)} {am gn:List Int} {a:SH.Ans} (R:SH.Right U am gn a) (s:a.Sm):Fit5 am gn a:=by
 cases a with
 | best x y=>exact⟨R.plan.len,R.len,sm1 s.1,sm1 s.2⟩
 | no y=>exact⟨R.len,sm1 s⟩
 | endl x y=>exact⟨R.plan.len,R.len,sm1 s.1,sm1 s.2⟩
def spSh (K:PySem.W.Frag):Sp:=fun vs H Q _=>∃ (v1 v2 v3 v4:V) (U:List (List Int)) (am gn:List Int) (a:SH.Ans) (M:Hp),vs=[v1,v2,v3,v4]∧Tsk U am gn∧Tk K M U am gn v1 v2 v3∧At K M (ansT a) v4∧Fit5 am gn a∧Same M H∧∀ (b:Bool) (M' H':Hp),Gr M H M' H'→(b=true↔SH.Right U am gn a)→Q (.bl b) H'
def spIa (K:PySem.W.Frag):Sp:=fun vs H Q _=>∃ (v:V) (U:List (List Int)) (am gn:List Int) (a:SH.Ans) (M:Hp),vs=[v,.int (gn.length:Nat),.int (am.length:Nat)]∧Tsk U am gn∧At K M (ansT a) v∧SH.Right U am gn a∧Same M H∧Q (.bl true) H
theorem big20 {n:Nat} {a:Int} (h:a.natAbs<2 ^ n) (e:n≤20000):a.natAbs<2 ^ 20000:=FM.lt_mono h e
theorem mok {a b:Int} (ha:a.natAbs<2 ^ 20000) (hb:b.natAbs<2 ^ 20000):IntMulOk a b:=mulOk ha hb (by decide)
theorem smi20 {l:List Int} (h:SmI l) {z:Int} (hz:z∈l):z.natAbs<2 ^ 20000:=big20 (n:=101) (Nat.lt_of_le_of_lt (h z hz) (by decide +kernel)) (by decide)
theorem tk_sm1 {ns:List Int} {x:List Rat} (hn:SmI ns) (hx:SH.SmLs 1001 x):∀ k,(SH.tk ns x k).1.natAbs<2 ^ (1200*k+1)∧(SH.tk ns x k).2.natAbs<2 ^ (1200*k+1)
 | 0=>by show (0:Int).natAbs<2 ^ (1200*0+1)∧(1:Int).natAbs<2 ^ (1200*0+1); constructor <;> decide
 | k+1=>by
  obtain⟨h1,h2⟩:=tk_sm1 hn hx k
  have hr:FM.Sm 1001 (x.getD k 0):=by
   cases e:x[k]? with
   | none=>rw[show x.getD k 0=0 by simp[List.getD,e]]; exact SH.sm_zero (by decide)
   | some a=>rw[SH.getD_of e]; exact hx a (List.mem_of_getElem? e)
  have hz:(ns.getD k 0).natAbs<2 ^ 101:=by
   cases e:ns[k]? with
   | none=>rw[show ns.getD k 0=0 by simp[List.getD,e]]; decide
   | some z=>rw[SH.gI e]; exact Nat.lt_of_le_of_lt (hn z (List.mem_of_getElem? e)) (by decide +kernel)
  have hd:(((x.getD k 0).den:Nat):Int).natAbs<2 ^ 1001:=by rw[Int.natAbs_natCast]; exact hr.2
  refine⟨?_,FM.lt_mono (FM.mul_lt h2 hd) (by omega)⟩
  have a1:=FM.lt_mono (n:=1200*k+1103) (FM.mul_lt h1 hd) (by omega)
  have a2:=FM.lt_mono (n:=1200*k+1103) (FM.mul_lt (FM.mul_lt hz hr.1) h2) (by omega)
  exact FM.lt_mono (FM.add_lt a1 a2) (by omega)
theorem tk20 {ns:List Int} {x:List Rat} (hn:SmI ns) (hx:SH.SmLs 1001 x) {i:Nat} (hi:i≤10):(SH.tk ns x i).1.natAbs<2 ^ 20000∧(SH.tk ns x i).2.natAbs<2 ^ 20000:=by
 obtain⟨h1,h2⟩:=tk_sm1 hn hx i
 exact⟨big20 h1 (by omega),big20 h2 (by omega)⟩
theorem tot20 {ns:List Int} {x:List Rat} (hn:SmI ns) (hx:SH.SmLs 1001 x) (hi:ns.length≤10):(SH.tot ns x).1.natAbs<2 ^ 20000∧(SH.tot ns x).2.natAbs<2 ^ 20000:=tk20 hn hx hi
theorem col_len (U:List (List Int)) (j:Nat):(SH.col U j).length=U.length:=by simp[SH.col]
theorem col_sm {U:List (List Int)} {j:Nat} (h:∀ row∈U,SmI row):SmI (SH.col U j):=fun z hz=>by
 obtain⟨row,hr,rfl⟩:=List.mem_map.mp hz
 cases e:row[j]? with
 | none=>rw[show row.getD j 0=0 by simp[List.getD,e]]; exact Nat.zero_le _
 | some v=>rw[SH.gI e]; exact h row hr v (List.mem_of_getElem? e)
section
variable {P:Program} {w:World} {K:PySem.W.Frag} {mg:Str→Option Value} {base:Heap} {t:Adr} {k:Nat}
theorem ok_Ltotal (T:Txt K mg t):FnOk P w K mg base CX0 (k+1) t.f_Ltotal t.d_Ltotal ["_law_numbers","_law_fractions"] (spTot K):=by
 refine T.F_Ltotal.ok sc_Ltotal (fun vs H Q E h=>?_) (fun cdv A outer s H vs Q E hr h=>?_)
 ·obtain⟨v1,v2,ns,x,M,rfl,_⟩:=h
  rfl
 obtain⟨v1,v2,ns,x,M,rfl,h1,h2,hl,h10,hn,hx,hM,q⟩:=h
 obtain⟨a,x1,rfl,ha,a1⟩:=h1.lst_inv
 obtain⟨b,x2,rfl,hb,a2⟩:=h2.lst_inv
 have e1:=Ats.ints_inv a1
 subst e1
 have haH:=hM _ _ ha
 have hbH:=hM _ _ hb
 refine⟨_,(pss_cons (ps_set (i:=2) sc_Ltotal.nd rfl (Or.inl rfl) pe_int)
  (pss_cons (ps_set (i:=3) sc_Ltotal.nd rfl (Or.inl rfl) pe_int)
  (pss_cons (ps_for PassesOwn.never rfl (pi_range1 rfl T.n_range (pa_cons (pe_callB call_len_seq rfl T.n_len PySem.boot_len (pa_cons (pv 0) pa_nil)) pa_nil)) (pg_name (i:=4) sc_Ltotal.nd rfl (Or.inl rfl))
   (pss_cons (ps_set (i:=2) sc_Ltotal.nd rfl (Or.inl rfl) (pe_op op_add (pe_op op_mulB (pv 2) (pe_ix ix_tup (pe_ix ix_list (pv 1) (pv 4) (fun _ _=>rfl)) pe_int (fun _ _=>rfl))) (pe_op op_mulB (pe_op op_mulB (pe_ix ix_list (pv 0) (pv 4) (fun _ _=>rfl)) (pe_ix ix_tup (pe_ix ix_list (pv 1) (pv 4) (fun _ _=>rfl)) pe_int (fun _ _=>rfl))) (pv 3))))
  (pss_one (ps_set (i:=3) sc_Ltotal.nd rfl (Or.inl rfl) (pe_op op_mulB (pv 3) (pe_ix ix_tup (pe_ix ix_list (pv 1) (pv 4) (fun _ _=>rfl)) pe_int (fun _ _=>rfl)))))))
  (pss_one (ps_ret (pe_tup (pa_cons (pv 2) (pa_cons (pv 3) pa_nil)))))))),?_⟩
 refine⟨_,rfl,a,_,rfl,.inl (SqL.of haH),_,rfl,by simp <;> omega,by simp <;> omega,for_range (n:=(ns.map V.int).length) (fun i σ H'=>H'=H∧∃ c:Option V,σ=[some (.ref a),some (.ref b),some (.int (SH.tk ns x i).1),some (.int (SH.tk ns x i).2),c]) ⟨rfl,none,rfl⟩ ?_ ?_⟩
 ·rintro i σ H' hi ⟨rfl,c,rfl⟩
  rw[Int.zero_add]
  have hil:i<ns.length:=by simpa using hi
  have hni:=List.getElem?_eq_getElem hil
  have hri:=List.getElem?_eq_getElem (show i<x.length by omega)
  obtain⟨xp,hxp,atp⟩:=ln_get a2 hri
  obtain⟨p,rfl,hp⟩:=fr_inv atp
  have hpH:=hM.tup hp
  have hnv:(ns.map V.int)[i]? = some (.int ns[i]):=by rw[List.getElem?_map,hni]; rfl
  obtain⟨t1,t2⟩:=tk20 hn hx (i:=i) (by omega)
  have sr:=hx _ (List.mem_of_getElem? hri)
  have sn:=smi20 hn (List.mem_of_getElem? hni)
  have sd:(((x[i]'(by omega)).den:Nat):Int).natAbs<2 ^ 20000:=big20 (sm_den sr) (by decide)
  have sp:=big20 sr.1 (by decide)
  have s3:(ns[i]*(x[i]'(by omega)).num).natAbs<2 ^ 20000:=big20 (FM.mul_lt (m:=101) (Nat.lt_of_le_of_lt (hn _ (List.mem_of_getElem? hni)) (by decide +kernel)) sr.1) (by decide)
  refine⟨_,rfl,_,rfl,_,rfl,b,_,_,_,rfl,rfl,SqL.of hbH,atI_nat hxp,p,_,_,_,rfl,rfl,hpH,fr_bot _,_,_,rfl,rfl,mok t1 sd,_,rfl,_,rfl,a,_,_,_,rfl,rfl,SqL.of haH,atI_nat hnv,_,rfl,_,rfl,b,_,_,_,rfl,rfl,SqL.of hbH,atI_nat hxp,p,_,_,_,rfl,rfl,hpH,fr_top _,_,_,rfl,rfl,mok sn sp,_,rfl,_,_,rfl,rfl,mok s3 t2,_,_,rfl,rfl,?_⟩
  refine⟨_,rfl,_,rfl,_,rfl,b,_,_,_,rfl,rfl,SqL.of hbH,atI_nat hxp,p,_,_,_,rfl,rfl,hpH,fr_bot _,_,_,rfl,rfl,mok t2 sd,?_⟩
  have e:SH.tk ns x (i+1)=((SH.tk ns x i).1*((x[i]'(by omega)).den:Int)+ns[i]*(x[i]'(by omega)).num*(SH.tk ns x i).2,(SH.tk ns x i).2*((x[i]'(by omega)).den:Int)):=by
   show ((SH.tk ns x i).1*((x.getD i 0).den:Int)+ns.getD i 0*(x.getD i 0).num*(SH.tk ns x i).2,(SH.tk ns x i).2*((x.getD i 0).den:Int))=_
   rw[SH.getD_of hri,SH.gI hni]
  refine⟨rfl,some (.int (i:Nat)),?_⟩
  rw[e]
  rfl
 ·rintro σ H' ⟨rfl,c,rfl⟩
  rw[List.length_map]
  refine⟨_,rfl,_,rfl,two_ok,fun p hp=>q _ _ _ ((Gr.refl hM).add hp) (pT_mk (SqT.of upd_same))⟩
theorem ok_Lnone_below (T:Txt K mg t):FnOk P w K mg base CX0 (k+1) t.f_Lnone_below t.d_Lnone_below ["_law_row"] (spNb K):=by
 refine T.F_Lnone_below.ok sc_Lnone_below (fun vs H Q E h=>?_) (fun cdv A outer s H vs Q E hr h=>?_)
 ·obtain⟨v,x,M,rfl,_⟩:=h
  rfl
 obtain⟨v,x,M,rfl,h1,hM,q⟩:=h
 obtain⟨b,xs,rfl,hb,ats⟩:=h1.lst_inv
 have hbH:=hM _ _ hb
 have hxl:xs.length=x.length:=by have:=ats.1; simp at this; omega
 refine⟨_,(pss_cons (ps_for PassesOwn.never rfl (pi_list (pv 0)) (pg_name (i:=1) sc_Lnone_below.nd rfl (Or.inl rfl))
   (pss_one (ps_if (pt_cmpR op_lt (pe_ix ix_tup (pv 1) pe_int (fun _ _=>rfl)) pe_int (nomark _))
   (pss_one (ps_ret pe_bl))
   pss_nil)))
  (pss_one (ps_ret pe_bl))),?_⟩
 refine⟨_,rfl,b,rfl,⟨_,SqL.of hbH⟩,for_list (K:=K) (xs:=xs) (fun i σ H'=>H'=H∧(∃ c:Option V,σ=[some (.ref b),c])∧∀ (j:Nat) r,j<i→x[j]? = some r→0≤r) ⟨rfl,⟨none,rfl⟩,fun j r hj=>absurd hj (Nat.not_lt_zero _)⟩ (fun i σ H' _ h=>by obtain⟨rfl,_⟩:=h; exact SqL.of hbH) ?_ ?_⟩
 ·rintro i y σ H' hy ⟨rfl,⟨c,rfl⟩,hp⟩
  obtain⟨r,hr0,atr⟩:=ln_get' ats hy
  obtain⟨a,rfl,ha⟩:=fr_inv atr
  refine⟨_,rfl,a,_,_,_,rfl,rfl,hM.tup ha,fr_top r,_,_,rfl,rfl,_,rfl,?_⟩
  refine ite2 (fun c1=>?_) (fun c1=>?_)
  ·have c1:=of_decide_eq_true c1
   refine q false ⟨fun h=>(by cases h),fun h=>?_⟩
   have:=Rat.num_nonneg.mpr (h r (List.mem_of_getElem? hr0))
   omega
  ·have c1:¬ r.num<0:=fun h=>c1 (decide_eq_true h)
   refine⟨rfl,⟨_,rfl⟩,fun j r' hj hr'=>?_⟩
   rcases Nat.lt_or_ge j i with z | z
   ·exact hp j r' z hr'
   ·have:j=i:=by omega
    subst this
    rw[hr0] at hr'
    cases hr'
    exact Rat.num_nonneg.mp (by omega)
 ·rintro σ H' ⟨rfl,⟨c,rfl⟩,hp⟩
  refine q true ⟨fun _ a ha=>?_,fun _=>rfl⟩
  obtain⟨j,hj⟩:=List.mem_iff_getElem?.mp ha
  exact hp j a (by have:=(List.getElem?_eq_some_iff.mp hj).1; omega) hj
theorem ints_get {M:Hp} {l:List Int} {v:V} (h:At K M (intsT l) v):∃ a,v = .ref a∧M a=some (.lst (l.map V.int)):=by
 obtain⟨a,xs,rfl,ha,ats⟩:=h.lst_inv
 have e:=Ats.ints_inv ats
 subst e
 exact⟨a,rfl,ha⟩
theorem intss_get {M:Hp} {U:List (List Int)} {xs:List V} {i:Nat} {l:List Int} (h:Ats K M (U.map intsT) xs) (e:U[i]? = some l):∃ x,xs[i]? = some x∧At K M (intsT l) x:=h.get (by rw[List.getElem?_map,e]; rfl)
theorem ok_Lcolumn (T:Txt K mg t):FnOk P w K mg base CX0 (k+1) t.f_Lcolumn t.d_Lcolumn ["_law_uses","_law_k"] (spCol K):=by
 refine T.F_Lcolumn.ok sc_Lcolumn (fun vs H Q E h=>?_) (fun cdv A outer s H vs Q E hr h=>?_)
 ·obtain⟨v,U,j,n,M,rfl,_⟩:=h
  rfl
 obtain⟨v,U,j,n,M,rfl,h1,hU,hj,hl,hM,q⟩:=h
 obtain⟨b,xs,rfl,hb,ats⟩:=h1.lst_inv
 have hxl:xs.length=U.length:=by have:=ats.1; simp at this; omega
 refine⟨_,(pss_one (ps_ret (pe_compG rfl (compt_of (n:=1) (js:=[1]) (Nb:=["_law_row","_law_k"]) (by kernel_rfl) rfl (by decide +kernel) (by decide) (by kernel_rfl)) (pi_list (pv 0)) (fun C s0 H0 fp pn'=>(pg_name (i:=0) (nd_of (l:=["_law_row","_law_k"]) (by decide +kernel)) rfl (Or.inl rfl))) own_name (fun C s0 H0 fp pn'=>pts_none) (fun C s0 H0 fp pn'=>(pe_ix (r:=rIxL K) ix_list (pv 0) (pv 1) (fun _ _=>rfl)))))),?_⟩
 refine⟨_,rfl,b,rfl,⟨_,SqL.of (hM _ _ hb)⟩,fun y hy=>cm_list (K:=K) (M:=M) (F:=fun i=>.int ((U.getD i []).getD j 0)) hM hb (by omega) hy (fun i x Mi Hi Qy hx gi kk=>?_) (fun M2 H2 ys g2 m2 hys at2=>?_)⟩
 ·obtain⟨l,hl',atl⟩:=intss_get' ats hx
  have hw:=hU l (List.mem_of_getElem? hl')
  obtain⟨a,rfl,ha⟩:=ints_get atl
  have hd:=List.getElem?_eq_getElem (show j<l.length by omega)
  refine⟨_,rfl,_,rfl,a,_,_,_,rfl,rfl,SqL.of (gi.mh _ _ (gi.mm _ _ ha)),atI_nat (show (l.map V.int)[j]? = some (.int (l[j]'(by omega))) by rw[List.getElem?_map,hd]; rfl),kk _ _ _ (Gr.refl gi.mh) ?_⟩
  rw[SH.gD hl',SH.gI hd]
  exact .int
 have at3:Ats K M2 ((SH.col U j).map Tr.int) ys:=ats_range at2 (by simp[SH.col,hxl]) fun i t ht=>by
  unfold SH.col at ht
  rw[List.map_map,List.getElem?_map] at ht
  cases e:U[i]? with
  | none=>rw[e] at ht; cases ht
  | some l=>rw[e] at ht; cases ht; rw[SH.gD e]; rfl
 exact q _ _ _ (g2.frz hy m2 hys) ((at3.mono (same_new m2 _)).lst upd_same)
theorem ok_Lwithin (T:Txt K mg t) (G_Ltotal:FnOk P w K mg base CX0 k t.f_Ltotal t.d_Ltotal ["_law_numbers","_law_fractions"] (spTot K)) (G_Lnone_below:FnOk P w K mg base CX0 k t.f_Lnone_below t.d_Lnone_below ["_law_row"] (spNb K)) :
  FnOk P w K mg base CX0 (k+1) t.f_Lwithin t.d_Lwithin ["_law_uses","_law_amounts","_law_plan"] (spWith K):=by
 refine T.F_Lwithin.ok sc_Lwithin (fun vs H Q E h=>?_) (fun cdv A outer s H vs Q E hr h=>?_)
 ·obtain⟨v1,v2,v3,U,am,gn,x,M,rfl,_⟩:=h
  rfl
 obtain⟨v1,v2,v3,U,am,gn,x,M,rfl,TK,h1,h2,h3,hl,hx,hM,q⟩:=h
 obtain⟨a,xs,rfl,ha,ats⟩:=h1.lst_inv
 obtain⟨b,rfl,hb⟩:=ints_get h2
 have tm:=TK.m
 have tn:=TK.n
 have hm:=TK.t.hm
 have hxl:xs.length=U.length:=by have:=ats.1; simp at this; omega
 refine⟨_,(pss_cons (ps_for PassesOwn.never rfl (pi_range1 rfl T.n_range (pa_cons (pe_callB call_len_seq rfl T.n_len PySem.boot_len (pa_cons (pv 0) pa_nil)) pa_nil)) (pg_name (i:=3) sc_Lwithin.nd rfl (Or.inl rfl))
   (pss_cons (ps_asg (pe_call G_Ltotal hr rfl T.m_Ltotal T.F_Ltotal.kp T.b_Ltotal .nil pass0 (pa_cons (pe_ix ix_list (pv 0) (pv 3) (fun _ _=>rfl)) (pa_cons (pv 2) pa_nil))) (pg_tup (n:=2) rfl (pgs_cons (pg_name (i:=4) sc_Lwithin.nd rfl (Or.inl rfl)) (pgs_cons (pg_name (i:=5) sc_Lwithin.nd rfl (Or.inl rfl)) pgs_nil))))
  (pss_one (ps_if (pt_cmpR op_gt (pv 4) (pe_op op_mulB (pe_ix ix_list (pv 1) (pv 3) (fun _ _=>rfl)) (pv 5)) (nomark _))
   (pss_one (ps_ret pe_bl))
   pss_nil))))
  (pss_one (ps_ret (pe_call G_Lnone_below hr rfl T.m_Lnone_below T.F_Lnone_below.kp T.b_Lnone_below .nil pass0 (pa_cons (pv 2) pa_nil))))),?_⟩
 refine⟨_,rfl,a,_,rfl,.inl (SqL.of (hM _ _ ha)),_,rfl,by omega,by omega,for_range (n:=xs.length) (fun i σ H'=>(∃ c d e:Option V,σ=[some (.ref a),some (.ref b),some v3,c,d,e])∧∃ Mi,Gr M H Mi H'∧∀ (j:Nat) row z,j<i→U[j]? = some row→am[j]? = some z→SH.dot (SH.qs row) x≤(z:Rat)) ⟨⟨none,none,none,rfl⟩,M,Gr.refl hM,fun j row z hj=>absurd hj (Nat.not_lt_zero _)⟩ ?_ ?_⟩
 ·rintro i σ H' hi ⟨⟨c,d,e,rfl⟩,Mi,g,hfit⟩
  rw[Int.zero_add]
  have hU:=List.getElem?_eq_getElem (show i<U.length by omega)
  have hA:=List.getElem?_eq_getElem (show i<am.length by omega)
  generalize U[i]'(by omega)=row at hU
  generalize am[i]'(by omega)=z at hA
  obtain⟨y,hy,aty⟩:=intss_get ats hU
  have hw:=TK.t.hw row (List.mem_of_getElem? hU)
  have sr:SmI row:=TK.s.u row (List.mem_of_getElem? hU)
  refine⟨_,rfl,_,rfl,a,_,_,_,rfl,rfl,SqL.of (g.hh _ _ (hM _ _ ha)),atI_nat hy,_,rfl,_,_,row,x,Mi,rfl,aty.mono g.mm,h3.mono g.mm,by omega,by omega,sr,hx,g.mh,fun tv M2 H2 g2 t2=>?_⟩
  obtain⟨p,rfl,hpp⟩:=pT_inv t2
  have gg:=g.trans g2
  obtain⟨s1,s2⟩:=tot20 sr hx (by omega)
  refine⟨p,_,rfl,g2.mh.tup hpp,rfl,_,_,rfl,_,_,rfl,rfl,?_⟩
  refine⟨_,rfl,_,rfl,_,rfl,b,_,_,_,rfl,rfl,SqL.of (gg.hh _ _ (hM _ _ hb)),atI_nat (show (am.map V.int)[i]? = some (.int z) by rw[List.getElem?_map,hA]; rfl),_,rfl,_,_,rfl,rfl,mok (smi20 TK.s.a (List.mem_of_getElem? hA)) s2,_,_,rfl,rfl,_,rfl,?_⟩
  have hle:=SH.tot_le (ns:=row) (x:=x) (by omega) z
  refine ite2 (fun c1=>?_) (fun c1=>?_)
  ·have c1:=of_decide_eq_true c1
   refine q false _ _ gg ⟨fun h=>(by cases h),fun h=>?_⟩
   have:=hle.mpr (h.fit i row z hU hA)
   omega
  ·have c1:¬ z*(SH.tot row x).2<(SH.tot row x).1:=fun h=>c1 (decide_eq_true h)
   refine⟨⟨_,_,_,rfl⟩,M2,gg,fun j row' z' hj hr' hz'=>?_⟩
   rcases Nat.lt_or_ge j i with y | y
   ·exact hfit j row' z' y hr' hz'
   ·have:j=i:=by omega
    subst this
    rw[hU] at hr'
    rw[hA] at hz'
    cases hr'
    cases hz'
    exact hle.mp (by omega)
 ·rintro σ H' ⟨⟨c,d,e,rfl⟩,Mi,g,hfit⟩
  refine⟨_,rfl,_,x,Mi,rfl,h3.mono g.mm,g.mh,fun b hb=>?_⟩
  exact q b _ _ g ⟨fun h=>⟨hl,hb.mp h,fun i row z hr' hz=>hfit i row z (by have:=(List.getElem?_eq_some_iff.mp hr').1; omega) hr' hz⟩,fun h=>hb.mpr h.pos⟩
theorem ok_Lbest_right (T:Txt K mg t) (G_Ltotal:FnOk P w K mg base CX0 k t.f_Ltotal t.d_Ltotal ["_law_numbers","_law_fractions"] (spTot K)) (G_Lnone_below:FnOk P w K mg base CX0 k t.f_Lnone_below t.d_Lnone_below ["_law_row"] (spNb K))
  (G_Lwithin:FnOk P w K mg base CX0 k t.f_Lwithin t.d_Lwithin ["_law_uses","_law_amounts","_law_plan"] (spWith K)) (G_Lcolumn:FnOk P w K mg base CX0 k t.f_Lcolumn t.d_Lcolumn ["_law_uses","_law_k"] (spCol K)) :
  FnOk P w K mg base CX0 (k+1) t.f_Lbest_right t.d_Lbest_right ["_law_uses","_law_amounts","_law_gains","_law_plan","_law_prices"] (spBr K):=by
 refine T.F_Lbest_right.ok sc_Lbest_right (fun vs H Q E h=>?_) (fun cdv A outer s H vs Q E hr h=>?_)
 ·obtain⟨v1,v2,v3,v4,v5,U,am,gn,x,y,M,rfl,_⟩:=h
  rfl
 obtain⟨v1,v2,v3,v4,v5,U,am,gn,x,y,M,rfl,TK,D,h4,h5,lx,ly,sx,sy,hM,q⟩:=h
 obtain⟨c,rfl,hc⟩:=ints_get D.g
 have tm:=TK.m
 have tn:=TK.n
 have hm:=TK.t.hm
 refine⟨_,(pss_cons (ps_if (PW.pt (pw_or (pt_not (pt_val (pe_call G_Lwithin hr rfl T.m_Lwithin T.F_Lwithin.kp T.b_Lwithin .nil pass0 (pa_cons (pv 0) (pa_cons (pv 1) (pa_cons (pv 3) pa_nil)))))) (pw_or1 (pt_not (pt_val (pe_call G_Lnone_below hr rfl T.m_Lnone_below T.F_Lnone_below.kp T.b_Lnone_below .nil pass0 (pa_cons (pv 4) pa_nil)))))))
   (pss_one (ps_ret pe_bl))
   pss_nil)
  (pss_cons (ps_for PassesOwn.never rfl (pi_range1 rfl T.n_range (pa_cons (pe_callB call_len_seq rfl T.n_len PySem.boot_len (pa_cons (pv 2) pa_nil)) pa_nil)) (pg_name (i:=5) sc_Lbest_right.nd rfl (Or.inl rfl))
   (pss_cons (ps_asg (pe_call G_Ltotal hr rfl T.m_Ltotal T.F_Ltotal.kp T.b_Ltotal .nil pass0 (pa_cons (pe_call G_Lcolumn hr rfl T.m_Lcolumn T.F_Lcolumn.kp T.b_Lcolumn .nil pass0 (pa_cons (pv 0) (pa_cons (pv 5) pa_nil))) (pa_cons (pv 4) pa_nil))) (pg_tup (n:=2) rfl (pgs_cons (pg_name (i:=8) sc_Lbest_right.nd rfl (Or.inl rfl)) (pgs_cons (pg_name (i:=9) sc_Lbest_right.nd rfl (Or.inl rfl)) pgs_nil))))
  (pss_one (ps_if (pt_cmpR op_lt (pv 8) (pe_op op_mulB (pe_ix ix_list (pv 2) (pv 5) (fun _ _=>rfl)) (pv 9)) (nomark _))
   (pss_one (ps_ret pe_bl))
   pss_nil))))
  (pss_cons (ps_set (i:=6) sc_Lbest_right.nd rfl (Or.inl rfl) (pe_call G_Ltotal hr rfl T.m_Ltotal T.F_Ltotal.kp T.b_Ltotal .nil pass0 (pa_cons (pv 2) (pa_cons (pv 3) pa_nil))))
  (pss_cons (ps_set (i:=7) sc_Lbest_right.nd rfl (Or.inl rfl) (pe_call G_Ltotal hr rfl T.m_Ltotal T.F_Ltotal.kp T.b_Ltotal .nil pass0 (pa_cons (pv 1) (pa_cons (pv 4) pa_nil))))
  (pss_one (ps_ret (pe_cmpR op_eq (pe_op op_mulB (pe_ix ix_tup (pv 6) pe_int (fun _ _=>rfl)) (pe_ix ix_tup (pv 7) pe_int (fun _ _=>rfl))) (pe_op op_mulB (pe_ix ix_tup (pv 7) pe_int (fun _ _=>rfl)) (pe_ix ix_tup (pv 6) pe_int (fun _ _=>rfl))) (nomark _)))))))),?_⟩
 refine⟨_,rfl,_,rfl,_,rfl,_,_,_,U,am,gn,x,M,rfl,TK,D.u,D.a,h4,lx,sx,hM,fun b M1 H1 g1 hb=>⟨_,rfl,?_⟩⟩
 cases b with
 | false=>
  refine iteT (iteT ?_)
  exact q false _ _ g1 ⟨fun z=>(by cases z),fun z=>(hb.mpr z.plan)⟩
 | true=>
 have PL:=hb.mp rfl
 refine iteF ?_
 refine⟨_,rfl,_,y,M1,rfl,h5.mono g1.mm,g1.mh,fun b2 hb2=>⟨_,rfl,?_⟩⟩
 cases b2 with
 | false=>
  refine iteT ?_
  exact q false _ _ g1 ⟨fun z=>(by cases z),fun z=>(hb2.mpr z.pos)⟩
 | true=>
 have PY:=hb2.mp rfl
 refine iteF ?_
 refine⟨_,rfl,c,_,rfl,.inl (SqL.of (g1.mh _ _ (g1.mm _ _ hc))),_,rfl,by simp <;> omega,by simp <;> omega,for_range (n:=(gn.map V.int).length) (fun i σ H'=>(∃ e1 e2 e3:Option V,σ=[some v1,some v2,some (.ref c),some v4,some v5,e1,none,none,e2,e3])∧(∃ Mi,Gr M H Mi H')∧∀ (j:Nat) g,j<i→gn[j]? = some g→(g:Rat)≤SH.dot (SH.qs (SH.col U j)) y) ⟨⟨none,none,none,rfl⟩,⟨M1,g1⟩,fun j g hj=>absurd hj (Nat.not_lt_zero _)⟩ ?_ ?_⟩
 ·rintro i σ H' hi ⟨⟨e1,e2,e3,rfl⟩,⟨Mi,g⟩,hcov⟩
  rw[Int.zero_add]
  have hil:i<gn.length:=by simpa using hi
  have hG:=List.getElem?_eq_getElem hil
  generalize gn[i]=gi at hG
  refine⟨_,rfl,_,rfl,_,U,i,gn.length,Mi,rfl,D.u.mono g.mm,TK.t.hw,hil,by omega,g.mh,fun cv M2 H2 g2 t2=>?_⟩
  have sc:SmI (SH.col U i):=col_sm TK.s.u
  have lc:(SH.col U i).length=am.length:=by rw[col_len,hm]
  refine⟨_,rfl,_,_,SH.col U i,y,M2,rfl,t2,(h5.mono g.mm).mono g2.mm,by omega,by omega,sc,sy,g2.mh,fun tv M3 H3 g3 t3=>?_⟩
  obtain⟨p,rfl,hpp⟩:=pT_inv t3
  have gg:=(g.trans g2).trans g3
  obtain⟨s1,s2⟩:=tot20 sc sy (by omega)
  refine⟨p,_,rfl,g3.mh.tup hpp,rfl,_,_,rfl,_,_,rfl,rfl,?_⟩
  refine⟨_,rfl,_,rfl,_,rfl,c,_,_,_,rfl,rfl,SqL.of (gg.hh _ _ (hM _ _ hc)),atI_nat (show (gn.map V.int)[i]? = some (.int gi) by rw[List.getElem?_map,hG]; rfl),_,rfl,_,_,rfl,rfl,mok (smi20 TK.s.g (List.mem_of_getElem? hG)) s2,_,_,rfl,rfl,_,rfl,?_⟩
  have hge:=SH.tot_ge (ns:=SH.col U i) (x:=y) (by omega) gi
  refine ite2 (fun c1=>?_) (fun c1=>?_)
  ·have c1:=of_decide_eq_true c1
   refine q false _ _ gg ⟨fun z=>(by cases z),fun z=>?_⟩
   have:=hge.mpr (z.cov i gi hG)
   omega
  ·have c1:¬ (SH.tot (SH.col U i) y).1<gi*(SH.tot (SH.col U i) y).2:=fun h=>c1 (decide_eq_true h)
   refine⟨⟨_,_,_,rfl⟩,⟨M3,gg⟩,fun j g' hj hg'=>?_⟩
   rcases Nat.lt_or_ge j i with z | z
   ·exact hcov j g' z hg'
   ·have:j=i:=by omega
    subst this
    rw[hG] at hg'
    cases hg'
    exact hge.mp (by omega)
 ·rintro σ H' ⟨⟨e1,e2,e3,rfl⟩,⟨Mi,g⟩,hcov⟩
  refine⟨_,rfl,_,rfl,_,_,gn,x,Mi,rfl,D.g.mono g.mm,h4.mono g.mm,lx,by omega,TK.s.g,sx,g.mh,fun tv M2 H2 g2 t2=>?_⟩
  refine⟨_,rfl,_,rfl,_,_,am,y,M2,rfl,(D.a.mono g.mm).mono g2.mm,(h5.mono g.mm).mono g2.mm,ly,by omega,TK.s.a,sy,g2.mh,fun uv M3 H3 g3 t3=>?_⟩
  obtain⟨p1,rfl,hp1⟩:=pT_inv t2
  obtain⟨p2,rfl,hp2⟩:=pT_inv t3
  have k1:=g3.mh.tup (g3.mm.tup hp1)
  have k2:=g3.mh.tup hp2
  obtain⟨s1,s2⟩:=tot20 TK.s.g sx (by omega)
  obtain⟨s3,s4⟩:=tot20 TK.s.a sy (by omega)
  have e:=SH.tot_cross (ns:=gn) (x:=x) (ms:=am) (y:=y) lx ly
  refine⟨_,rfl,p1,_,_,_,rfl,rfl,k1,atI_nat (j:=0) rfl,_,rfl,p2,_,_,_,rfl,rfl,k2,atI_nat (j:=1) rfl,_,_,rfl,rfl,mok s1 s4,_,rfl,p2,_,_,_,rfl,rfl,k2,atI_nat (j:=0) rfl,_,rfl,p1,_,_,_,rfl,rfl,k1,atI_nat (j:=1) rfl,_,_,rfl,rfl,mok s3 s2,rfl,?_⟩
  show Q (.bl (decide (V.int ((SH.tot gn x).1*(SH.tot am y).2)=V.int ((SH.tot am y).1*(SH.tot gn x).2)))) H3
  refine q _ _ _ ((g.trans g2).trans g3) ⟨fun z=>?_,fun z=>?_⟩
  ·have z1:(SH.tot gn x).1*(SH.tot am y).2=(SH.tot am y).1*(SH.tot gn x).2:=by simpa using z
   exact⟨PL,ly,PY,fun j g hg=>hcov j g (by have:=(List.getElem?_eq_some_iff.mp hg).1; simpa using this) hg,(e.mp z1).symm⟩
  ·exact decide_eq_true (congrArg V.int (e.mpr z.eq.symm))
theorem ok_Lnone_right (T:Txt K mg t) (G_Ltotal:FnOk P w K mg base CX0 k t.f_Ltotal t.d_Ltotal ["_law_numbers","_law_fractions"] (spTot K)) (G_Lnone_below:FnOk P w K mg base CX0 k t.f_Lnone_below t.d_Lnone_below ["_law_row"] (spNb K))
  (G_Lcolumn:FnOk P w K mg base CX0 k t.f_Lcolumn t.d_Lcolumn ["_law_uses","_law_k"] (spCol K)) :
  FnOk P w K mg base CX0 (k+1) t.f_Lnone_right t.d_Lnone_right ["_law_uses","_law_amounts","_law_gains","_law_weights"] (spNr K):=by
 refine T.F_Lnone_right.ok sc_Lnone_right (fun vs H Q E h=>?_) (fun cdv A outer s H vs Q E hr h=>?_)
 ·obtain⟨v1,v2,v3,v4,U,am,gn,y,M,rfl,_⟩:=h
  rfl
 obtain⟨v1,v2,v3,v4,U,am,gn,y,M,rfl,TK,D,h5,ly,sy,hM,q⟩:=h
 obtain⟨c,rfl,hc⟩:=ints_get D.g
 have tm:=TK.m
 have tn:=TK.n
 have hm:=TK.t.hm
 refine⟨_,(pss_cons (ps_for PassesOwn.never rfl (pi_range1 rfl T.n_range (pa_cons (pe_callB call_len_seq rfl T.n_len PySem.boot_len (pa_cons (pv 2) pa_nil)) pa_nil)) (pg_name (i:=4) sc_Lnone_right.nd rfl (Or.inl rfl))
   (pss_one (ps_if (pt_cmpR op_lt (pe_ix ix_tup (pe_call G_Ltotal hr rfl T.m_Ltotal T.F_Ltotal.kp T.b_Ltotal .nil pass0 (pa_cons (pe_call G_Lcolumn hr rfl T.m_Lcolumn T.F_Lcolumn.kp T.b_Lcolumn .nil pass0 (pa_cons (pv 0) (pa_cons (pv 4) pa_nil))) (pa_cons (pv 3) pa_nil))) pe_int (fun _ _=>rfl)) pe_int (nomark _))
   (pss_one (ps_ret pe_bl))
   pss_nil)))
  (pss_one (ps_ret (pe_and (pe_call G_Lnone_below hr rfl T.m_Lnone_below T.F_Lnone_below.kp T.b_Lnone_below .nil pass0 (pa_cons (pv 3) pa_nil)) (pe_one (pe_cmpR op_lt (pe_ix ix_tup (pe_call G_Ltotal hr rfl T.m_Ltotal T.F_Ltotal.kp T.b_Ltotal .nil pass0 (pa_cons (pv 1) (pa_cons (pv 3) pa_nil))) pe_int (fun _ _=>rfl)) pe_int (nomark _))))))),?_⟩
 refine⟨_,rfl,c,_,rfl,.inl (SqL.of (hM _ _ hc)),_,rfl,by simp <;> omega,by simp <;> omega,for_range (n:=(gn.map V.int).length) (fun i σ H'=>(∃ e1:Option V,σ=[some v1,some v2,some (.ref c),some v4,e1])∧(∃ Mi,Gr M H Mi H')∧∀ (j:Nat),j<i→0≤SH.dot (SH.qs (SH.col U j)) y) ⟨⟨none,rfl⟩,⟨M,Gr.refl hM⟩,fun j hj=>absurd hj (Nat.not_lt_zero _)⟩ ?_ ?_⟩
 ·rintro i σ H' hi ⟨⟨e1,rfl⟩,⟨Mi,g⟩,hcov⟩
  rw[Int.zero_add]
  have hil:i<gn.length:=by simpa using hi
  refine⟨_,rfl,_,rfl,_,U,i,gn.length,Mi,rfl,D.u.mono g.mm,TK.t.hw,hil,by omega,g.mh,fun cv M2 H2 g2 t2=>?_⟩
  have sc:SmI (SH.col U i):=col_sm TK.s.u
  have lc:(SH.col U i).length=am.length:=by rw[col_len,hm]
  refine⟨_,rfl,_,_,SH.col U i,y,M2,rfl,t2,(h5.mono g.mm).mono g2.mm,by omega,by omega,sc,sy,g2.mh,fun tv M3 H3 g3 t3=>?_⟩
  obtain⟨p,rfl,hpp⟩:=pT_inv t3
  refine⟨p,_,_,_,rfl,rfl,g3.mh.tup hpp,atI_nat (j:=0) rfl,_,_,rfl,rfl,_,rfl,?_⟩
  have hng:=SH.tot_neg (ns:=SH.col U i) (x:=y) (by omega)
  have gg:=(g.trans g2).trans g3
  refine ite2 (fun c1=>?_) (fun c1=>?_)
  ·have c1:=hng.mp (of_decide_eq_true c1)
   refine q false _ _ gg ⟨fun z=>(by cases z),fun z=>?_⟩
   have:=z.cov i hil
   exact absurd this (by grind)
  ·have c1:¬ (SH.tot (SH.col U i) y).1<0:=fun h=>c1 (decide_eq_true h)
   refine⟨⟨_,rfl⟩,⟨M3,gg⟩,fun j hj=>?_⟩
   rcases Nat.lt_or_ge j i with z | z
   ·exact hcov j z
   ·have:j=i:=by omega
    subst this
    rw[hng] at c1
    grind
 ·rintro σ H' ⟨⟨e1,rfl⟩,⟨Mi,g⟩,hcov⟩
  refine⟨_,rfl,_,y,Mi,rfl,h5.mono g.mm,g.mh,fun b hb=>⟨_,rfl,?_⟩⟩
  cases b with
  | false=>exact iteF (q false _ _ g ⟨fun z=>(by cases z),fun z=>hb.mpr z.pos⟩)
  | true=>
  refine iteT ?_
  refine⟨_,rfl,_,rfl,_,_,am,y,Mi,rfl,D.a.mono g.mm,h5.mono g.mm,ly,by omega,TK.s.a,sy,g.mh,fun tv M3 H3 g3 t3=>?_⟩
  obtain⟨p,rfl,hpp⟩:=pT_inv t3
  refine⟨p,_,_,_,rfl,rfl,g3.mh.tup hpp,atI_nat (j:=0) rfl,_,_,rfl,rfl,?_⟩
  have hng:=SH.tot_neg (ns:=am) (x:=y) ly
  refine q _ _ _ (g.trans g3) ⟨fun z=>?_,fun z=>decide_eq_true (hng.mpr z.neg)⟩
  exact⟨ly,hb.mp rfl,fun j hj=>hcov j (by simpa using hj),hng.mp (of_decide_eq_true z)⟩
theorem ok_Lendless_right (T:Txt K mg t) (G_Ltotal:FnOk P w K mg base CX0 k t.f_Ltotal t.d_Ltotal ["_law_numbers","_law_fractions"] (spTot K)) (G_Lnone_below:FnOk P w K mg base CX0 k t.f_Lnone_below t.d_Lnone_below ["_law_row"] (spNb K))
  (G_Lwithin:FnOk P w K mg base CX0 k t.f_Lwithin t.d_Lwithin ["_law_uses","_law_amounts","_law_plan"] (spWith K)) :
  FnOk P w K mg base CX0 (k+1) t.f_Lendless_right t.d_Lendless_right ["_law_uses","_law_amounts","_law_gains","_law_plan","_law_way"] (spEr K):=by
 refine T.F_Lendless_right.ok sc_Lendless_right (fun vs H Q E h=>?_) (fun cdv A outer s H vs Q E hr h=>?_)
 ·obtain⟨v1,v2,v3,v4,v5,U,am,gn,x,y,M,rfl,_⟩:=h
  rfl
 obtain⟨v1,v2,v3,v4,v5,U,am,gn,x,y,M,rfl,TK,D,h4,h5,lx,ly,sx,sy,hM,q⟩:=h
 obtain⟨a,xs,rfl,ha,ats⟩:=id D.u.lst_inv
 have tm:=TK.m
 have tn:=TK.n
 have hxl:xs.length=U.length:=by have:=ats.1; simp at this; omega
 refine⟨_,(pss_cons (ps_if (PW.pt (pw_or (pt_not (pt_val (pe_call G_Lwithin hr rfl T.m_Lwithin T.F_Lwithin.kp T.b_Lwithin .nil pass0 (pa_cons (pv 0) (pa_cons (pv 1) (pa_cons (pv 3) pa_nil)))))) (pw_or1 (pt_not (pt_val (pe_call G_Lnone_below hr rfl T.m_Lnone_below T.F_Lnone_below.kp T.b_Lnone_below .nil pass0 (pa_cons (pv 4) pa_nil)))))))
   (pss_one (ps_ret pe_bl))
   pss_nil)
  (pss_cons (ps_for PassesOwn.never rfl (pi_list (pv 0)) (pg_name (i:=5) sc_Lendless_right.nd rfl (Or.inl rfl))
   (pss_one (ps_if (pt_cmpR op_gt (pe_ix ix_tup (pe_call G_Ltotal hr rfl T.m_Ltotal T.F_Ltotal.kp T.b_Ltotal .nil pass0 (pa_cons (pv 5) (pa_cons (pv 4) pa_nil))) pe_int (fun _ _=>rfl)) pe_int (nomark _))
   (pss_one (ps_ret pe_bl))
   pss_nil)))
  (pss_one (ps_ret (pe_cmpR op_gt (pe_ix ix_tup (pe_call G_Ltotal hr rfl T.m_Ltotal T.F_Ltotal.kp T.b_Ltotal .nil pass0 (pa_cons (pv 2) (pa_cons (pv 4) pa_nil))) pe_int (fun _ _=>rfl)) pe_int (nomark _)))))),?_⟩
 refine⟨_,rfl,_,rfl,_,rfl,_,_,_,U,am,gn,x,M,rfl,TK,D.u,D.a,h4,lx,sx,hM,fun b M1 H1 g1 hb=>⟨_,rfl,?_⟩⟩
 cases b with
 | false=>
  refine iteT (iteT ?_)
  exact q false _ _ g1 ⟨fun z=>(by cases z),fun z=>(hb.mpr z.plan)⟩
 | true=>
 have PL:=hb.mp rfl
 refine iteF ?_
 refine⟨_,rfl,_,y,M1,rfl,h5.mono g1.mm,g1.mh,fun b2 hb2=>⟨_,rfl,?_⟩⟩
 cases b2 with
 | false=>
  refine iteT ?_
  exact q false _ _ g1 ⟨fun z=>(by cases z),fun z=>(hb2.mpr z.pos)⟩
 | true=>
 have PY:=hb2.mp rfl
 refine iteF ?_
 refine⟨_,rfl,a,rfl,⟨_,SqL.of (g1.mh _ _ (g1.mm _ _ ha))⟩,for_list (K:=K) (xs:=xs) (fun i σ H'=>(∃ e1:Option V,σ=[some (.ref a),some v2,some v3,some v4,some v5,e1])∧(∃ Mi,Gr M H Mi H')∧∀ (j:Nat) row,j<i→U[j]? = some row→SH.dot (SH.qs row) y≤0) ⟨⟨none,rfl⟩,⟨M1,g1⟩,fun j row hj=>absurd hj (Nat.not_lt_zero _)⟩ (fun i σ H' _ h=>by obtain⟨_,⟨Mi,g⟩,_⟩:=h; exact SqL.of (g.mh _ _ (g.mm _ _ ha))) ?_ ?_⟩
 ·rintro i z σ H' hz ⟨⟨e1,rfl⟩,⟨Mi,g⟩,hway⟩
  obtain⟨row,hrow,atr⟩:=intss_get' ats hz
  have hw:=TK.t.hw row (List.mem_of_getElem? hrow)
  have sr:SmI row:=TK.s.u row (List.mem_of_getElem? hrow)
  refine⟨_,rfl,_,rfl,_,_,row,y,Mi,rfl,atr.mono g.mm,h5.mono g.mm,by omega,by omega,sr,sy,g.mh,fun tv M3 H3 g3 t3=>?_⟩
  obtain⟨p,rfl,hpp⟩:=pT_inv t3
  refine⟨p,_,_,_,rfl,rfl,g3.mh.tup hpp,atI_nat (j:=0) rfl,_,_,rfl,rfl,_,rfl,?_⟩
  have hgt:=SH.tot_gt (ns:=row) (x:=y) (by omega)
  refine ite2 (fun c1=>?_) (fun c1=>?_)
  ·have c1:=hgt.mp (of_decide_eq_true c1)
   refine q false _ _ (g.trans g3) ⟨fun z=>(by cases z),fun z=>?_⟩
   have:=z.way row (List.mem_of_getElem? hrow)
   exact absurd this (by grind)
  ·have c1:¬ 0<(SH.tot row y).1:=fun h=>c1 (decide_eq_true h)
   refine⟨⟨_,rfl⟩,⟨M3,g.trans g3⟩,fun j row' hj hr'=>?_⟩
   rcases Nat.lt_or_ge j i with z | z
   ·exact hway j row' z hr'
   ·have:j=i:=by omega
    subst this
    rw[hrow] at hr'
    cases hr'
    rw[hgt] at c1
    grind
 ·rintro σ H' ⟨⟨e1,rfl⟩,⟨Mi,g⟩,hway⟩
  refine⟨_,rfl,_,rfl,_,_,gn,y,Mi,rfl,D.g.mono g.mm,h5.mono g.mm,ly,by omega,TK.s.g,sy,g.mh,fun tv M3 H3 g3 t3=>?_⟩
  obtain⟨p,rfl,hpp⟩:=pT_inv t3
  refine⟨p,_,_,_,rfl,rfl,g3.mh.tup hpp,atI_nat (j:=0) rfl,_,_,rfl,rfl,?_⟩
  have hgt:=SH.tot_gt (ns:=gn) (x:=y) ly
  refine q _ _ _ (g.trans g3) ⟨fun z=>?_,fun z=>decide_eq_true (hgt.mpr z.gain)⟩
  refine⟨PL,ly,PY,fun row hrow=>?_,hgt.mp (of_decide_eq_true z)⟩
  obtain⟨j,hj⟩:=List.mem_iff_getElem?.mp hrow
  exact hway j row (by have:=(List.getElem?_eq_some_iff.mp hj).1; omega) hj
theorem ans_inv3 {M:Hp} {v:V} {n:Str} {x y:List Rat} (h:At K M (.tup [.str n,lnT x,lnT y]) v):∃ a vx vy,v = .ref a∧SqT K M a [.str n,vx,vy]∧At K M (lnT x) vx∧At K M (lnT y) vy:=by
 obtain⟨a,xs,rfl,hs,ats⟩:=h.tup_inv
 have hl:xs.length=3:=by have:=ats.1; simpa using this.symm
 match xs,hl with
 | [u1,u2,u3],_=>
  have h0:=ats.2 0 _ u1 rfl rfl
  have h1:=ats.2 1 _ u2 rfl rfl
  have h2:=ats.2 2 _ u3 rfl rfl
  cases h0.str_inv
  exact⟨a,u2,u3,rfl,hs,h1,h2⟩
theorem ans_inv2 {M:Hp} {v:V} {n:Str} {x:List Rat} (h:At K M (.tup [.str n,lnT x]) v):∃ a vx,v = .ref a∧SqT K M a [.str n,vx]∧At K M (lnT x) vx:=by
 obtain⟨a,xs,rfl,hs,ats⟩:=h.tup_inv
 have hl:xs.length=2:=by have:=ats.1; simpa using this.symm
 match xs,hl with
 | [u1,u2],_=>
  have h0:=ats.2 0 _ u1 rfl rfl
  have h1:=ats.2 1 _ u2 rfl rfl
  cases h0.str_inv
  exact⟨a,u2,rfl,hs,h1⟩
theorem nb_ne:decide (V.str "best" = V.str "none")=false:=by decide +kernel
theorem ne_ne:decide (V.str "endless" = V.str "none")=false:=by decide +kernel
theorem eb_ne:decide (V.str "endless" = V.str "best")=false:=by decide +kernel
theorem nob_ne:decide (V.str "none" = V.str "best")=false:=by decide +kernel
theorem ok_Lshown_right (T:Txt K mg t) (G_Lbest_right:FnOk P w K mg base CX0 k t.f_Lbest_right t.d_Lbest_right ["_law_uses","_law_amounts","_law_gains","_law_plan","_law_prices"] (spBr K))
  (G_Lnone_right:FnOk P w K mg base CX0 k t.f_Lnone_right t.d_Lnone_right ["_law_uses","_law_amounts","_law_gains","_law_weights"] (spNr K))
  (G_Lendless_right:FnOk P w K mg base CX0 k t.f_Lendless_right t.d_Lendless_right ["_law_uses","_law_amounts","_law_gains","_law_plan","_law_way"] (spEr K)) :
  FnOk P w K mg base CX0 (k+1) t.f_Lshown_right t.d_Lshown_right ["_law_uses","_law_amounts","_law_gains","_law_found"] (spSh K):=by
 refine T.F_Lshown_right.ok sc_Lshown_right (fun vs H Q E h=>?_) (fun cdv A outer s H vs Q E hr h=>?_)
 ·obtain⟨v1,v2,v3,v4,U,am,gn,an,M,rfl,_⟩:=h
  rfl
 obtain⟨v1,v2,v3,v4,U,am,gn,an,M,rfl,TK,D,h4,fi,hM,q⟩:=h
 refine⟨_,(pss_cons (ps_if (pt_cmpR op_eq (pe_ix ix_tup (pv 3) pe_int (fun _ _=>rfl)) pe_str (nomark _))
   (pss_one (ps_ret (pe_call G_Lnone_right hr rfl T.m_Lnone_right T.F_Lnone_right.kp T.b_Lnone_right .nil pass0 (pa_cons (pv 0) (pa_cons (pv 1) (pa_cons (pv 2) (pa_cons (pe_ix ix_tup (pv 3) pe_int (fun _ _=>rfl)) pa_nil)))))))
   pss_nil)
  (pss_cons (ps_if (pt_cmpR op_eq (pe_ix ix_tup (pv 3) pe_int (fun _ _=>rfl)) pe_str (nomark _))
   (pss_one (ps_ret (pe_call G_Lbest_right hr rfl T.m_Lbest_right T.F_Lbest_right.kp T.b_Lbest_right .nil pass0 (pa_cons (pv 0) (pa_cons (pv 1) (pa_cons (pv 2) (pa_cons (pe_ix ix_tup (pv 3) pe_int (fun _ _=>rfl)) (pa_cons (pe_ix ix_tup (pv 3) pe_int (fun _ _=>rfl)) pa_nil))))))))
   pss_nil)
  (pss_one (ps_ret (pe_call G_Lendless_right hr rfl T.m_Lendless_right T.F_Lendless_right.kp T.b_Lendless_right .nil pass0 (pa_cons (pv 0) (pa_cons (pv 1) (pa_cons (pv 2) (pa_cons (pe_ix ix_tup (pv 3) pe_int (fun _ _=>rfl)) (pa_cons (pe_ix ix_tup (pv 3) pe_int (fun _ _=>rfl)) pa_nil)))))))))),?_⟩
 cases an with
 | no y=>
  obtain⟨a,vy,rfl,ha,hy⟩:=ans_inv2 h4
  have haH:=hM.tup ha
  refine⟨_,rfl,a,_,_,_,rfl,rfl,haH,atI_nat (j:=0) rfl,rfl,_,rfl,?_⟩
  rw[decide_eq_true rfl]
  refine iteT ?_
  exact⟨_,rfl,_,rfl,_,rfl,_,rfl,a,_,_,_,rfl,rfl,haH,atI_nat (j:=1) rfl,_,_,_,_,U,am,gn,y,M,rfl,TK,D,hy,fi.1,fi.2,hM,q⟩
 | best x y=>
  obtain⟨a,vx,vy,rfl,ha,hx,hy⟩:=ans_inv3 h4
  have haH:=hM.tup ha
  refine⟨_,rfl,a,_,_,_,rfl,rfl,haH,atI_nat (j:=0) rfl,rfl,_,rfl,?_⟩
  rw[nb_ne]
  refine iteF ?_
  refine⟨_,rfl,a,_,_,_,rfl,rfl,haH,atI_nat (j:=0) rfl,rfl,_,rfl,?_⟩
  rw[decide_eq_true rfl]
  refine iteT ?_
  exact⟨_,rfl,_,rfl,_,rfl,_,rfl,a,_,_,_,rfl,rfl,haH,atI_nat (j:=1) rfl,_,rfl,a,_,_,_,rfl,rfl,haH,atI_nat (j:=2) rfl,_,_,_,_,_,U,am,gn,x,y,M,rfl,TK,D,hx,hy,fi.1,fi.2.1,fi.2.2.1,fi.2.2.2,hM,q⟩
 | endl x y=>
  obtain⟨a,vx,vy,rfl,ha,hx,hy⟩:=ans_inv3 h4
  have haH:=hM.tup ha
  refine⟨_,rfl,a,_,_,_,rfl,rfl,haH,atI_nat (j:=0) rfl,rfl,_,rfl,?_⟩
  rw[ne_ne]
  refine iteF ?_
  refine⟨_,rfl,a,_,_,_,rfl,rfl,haH,atI_nat (j:=0) rfl,rfl,_,rfl,?_⟩
  rw[eb_ne]
  refine iteF ?_
  exact⟨_,rfl,_,rfl,_,rfl,_,rfl,a,_,_,_,rfl,rfl,haH,atI_nat (j:=1) rfl,_,rfl,a,_,_,_,rfl,rfl,haH,atI_nat (j:=2) rfl,_,_,_,_,_,U,am,gn,x,y,M,rfl,TK,D,hx,hy,fi.1,fi.2.1,fi.2.2.1,fi.2.2.2,hM,q⟩
theorem ok_Lis_answer (T:Txt K mg t) (G_Lare_fractions:FnOk P w K mg base CX0 k t.f_Lare_fractions t.d_Lare_fractions ["_law_found","_law_count"] (spAreFr K)) :
  FnOk P w K mg base CX0 (k+1) t.f_Lis_answer t.d_Lis_answer ["_law_found","_law_wares","_law_stocks"] (spIa K):=by
 refine T.F_Lis_answer.ok sc_Lis_answer (fun vs H Q E h=>?_) (fun cdv A outer s H vs Q E hr h=>?_)
 ·obtain⟨v,U,am,gn,an,M,rfl,_⟩:=h
  rfl
 obtain⟨v,U,am,gn,an,M,rfl,TK,h4,R,hM,q⟩:=h
 have tm:=TK.m
 have tn:=TK.n
 refine⟨_,(pss_cons (ps_if (PW.pt (pw_or (pt_not (pt_val (pe_callB call_isV rfl T.n_isinstance PyProof.Rows.boot_isinstance (pa_cons (pv 0) (pa_cons (pe_bltn (v:=.ty "tuple") rfl T.n_tuple bt_tuple rfl) pa_nil))))) (pw_or (pt_cmpR op_lt (pe_callB call_len_seq rfl T.n_len PySem.boot_len (pa_cons (pv 0) pa_nil)) pe_int (nomark _)) (pw_or1 (pt_not (pt_val (pe_callB call_isV rfl T.n_isinstance PyProof.Rows.boot_isinstance (pa_cons (pe_ix ix_tup (pv 0) pe_int (fun _ _=>rfl)) (pa_cons (pe_bltn (v:=.ty "str") rfl T.n_str bt_str rfl) pa_nil)))))))))
   (pss_one (ps_ret pe_bl))
   pss_nil)
  (pss_cons (ps_if (pt_cmpR op_eq (pe_ix ix_tup (pv 0) pe_int (fun _ _=>rfl)) pe_str (nomark _))
   (pss_one (ps_ret (pe_and (pe_cmpR op_eq (pe_callB call_len_seq rfl T.n_len PySem.boot_len (pa_cons (pv 0) pa_nil)) pe_int (nomark _)) (pe_one (pe_call G_Lare_fractions hr rfl T.m_Lare_fractions T.F_Lare_fractions.kp T.b_Lare_fractions .nil pass0 (pa_cons (pe_ix ix_tup (pv 0) pe_int (fun _ _=>rfl)) (pa_cons (pv 2) pa_nil)))))))
   pss_nil)
  (pss_cons (ps_if (PW.pt (pw_or (pt_cmpR op_ne (pe_callB call_len_seq rfl T.n_len PySem.boot_len (pa_cons (pv 0) pa_nil)) pe_int (nomark _)) (pw_or1 (pt_not (pt_val (pe_call G_Lare_fractions hr rfl T.m_Lare_fractions T.F_Lare_fractions.kp T.b_Lare_fractions .nil pass0 (pa_cons (pe_ix ix_tup (pv 0) pe_int (fun _ _=>rfl)) (pa_cons (pv 1) pa_nil))))))))
   (pss_one (ps_ret pe_bl))
   pss_nil)
  (pss_cons (ps_if (pt_cmpR op_eq (pe_ix ix_tup (pv 0) pe_int (fun _ _=>rfl)) pe_str (nomark _))
   (pss_one (ps_ret (pe_call G_Lare_fractions hr rfl T.m_Lare_fractions T.F_Lare_fractions.kp T.b_Lare_fractions .nil pass0 (pa_cons (pe_ix ix_tup (pv 0) pe_int (fun _ _=>rfl)) (pa_cons (pv 2) pa_nil)))))
   pss_nil)
  (pss_one (ps_ret (pe_and (pe_cmpR op_eq (pe_ix ix_tup (pv 0) pe_int (fun _ _=>rfl)) pe_str (nomark _)) (pe_one (pe_call G_Lare_fractions hr rfl T.m_Lare_fractions T.F_Lare_fractions.kp T.b_Lare_fractions .nil pass0 (pa_cons (pe_ix ix_tup (pv 0) pe_int (fun _ _=>rfl)) (pa_cons (pv 1) pa_nil))))))))))),?_⟩
 have fr:∀ {x:List Rat} {n:Nat} {v:V},At K M (lnT x) v→x.length=n→n≤7→∀ Q':VK,Q' (.bl true) H→spAreFr K [v,.int (n:Nat)] H Q' E:=fun {x n v} hv hl hn Q' hq=>⟨v,x,M,by rw[hl],hv,by omega,hM,hq⟩
 cases an with
 | no y=>
  obtain⟨a,vy,rfl,ha,hy⟩:=ans_inv2 h4
  have haH:=hM.tup ha
  refine⟨_,rfl,_,_,_,_,rfl,.tup haH,kit_same,_,rfl,iteF ?_⟩
  refine⟨_,rfl,a,_,rfl,.inr haH,_,_,rfl,rfl,_,rfl,iteF ?_⟩
  refine⟨_,rfl,a,_,_,_,rfl,rfl,haH,atI_nat (j:=0) rfl,_,_,_,_,rfl,.str _,kit_same,_,rfl,iteF ?_⟩
  refine⟨_,rfl,a,_,_,_,rfl,rfl,haH,atI_nat (j:=0) rfl,rfl,_,rfl,?_⟩
  rw[decide_eq_true rfl]
  refine iteT ?_
  refine⟨_,rfl,a,_,rfl,.inr haH,rfl,_,rfl,iteT ?_⟩
  exact⟨_,rfl,a,_,_,_,rfl,rfl,haH,atI_nat (j:=1) rfl,_,rfl,fr hy R.len tm _ q⟩
 | best x y=>
  obtain⟨a,vx,vy,rfl,ha,hx,hy⟩:=ans_inv3 h4
  have haH:=hM.tup ha
  refine⟨_,rfl,_,_,_,_,rfl,.tup haH,kit_same,_,rfl,iteF ?_⟩
  refine⟨_,rfl,a,_,rfl,.inr haH,_,_,rfl,rfl,_,rfl,iteF ?_⟩
  refine⟨_,rfl,a,_,_,_,rfl,rfl,haH,atI_nat (j:=0) rfl,_,_,_,_,rfl,.str _,kit_same,_,rfl,iteF ?_⟩
  refine⟨_,rfl,a,_,_,_,rfl,rfl,haH,atI_nat (j:=0) rfl,rfl,_,rfl,?_⟩
  rw[nb_ne]
  refine iteF ?_
  have lx:=R.plan.len
  refine⟨_,rfl,a,_,rfl,.inr haH,rfl,_,rfl,iteF ?_⟩
  refine⟨_,rfl,a,_,_,_,rfl,rfl,haH,atI_nat (j:=1) rfl,_,rfl,_,x,M,by rw[lx]; rfl,hx,by omega,hM,_,rfl,iteF ?_⟩
  refine⟨_,rfl,a,_,_,_,rfl,rfl,haH,atI_nat (j:=0) rfl,rfl,_,rfl,?_⟩
  rw[decide_eq_true rfl]
  refine iteT ?_
  exact⟨_,rfl,a,_,_,_,rfl,rfl,haH,atI_nat (j:=2) rfl,_,rfl,fr hy R.len tm _ q⟩
 | endl x y=>
  obtain⟨a,vx,vy,rfl,ha,hx,hy⟩:=ans_inv3 h4
  have haH:=hM.tup ha
  refine⟨_,rfl,_,_,_,_,rfl,.tup haH,kit_same,_,rfl,iteF ?_⟩
  refine⟨_,rfl,a,_,rfl,.inr haH,_,_,rfl,rfl,_,rfl,iteF ?_⟩
  refine⟨_,rfl,a,_,_,_,rfl,rfl,haH,atI_nat (j:=0) rfl,_,_,_,_,rfl,.str _,kit_same,_,rfl,iteF ?_⟩
  refine⟨_,rfl,a,_,_,_,rfl,rfl,haH,atI_nat (j:=0) rfl,rfl,_,rfl,?_⟩
  rw[ne_ne]
  refine iteF ?_
  have lx:=R.plan.len
  refine⟨_,rfl,a,_,rfl,.inr haH,rfl,_,rfl,iteF ?_⟩
  refine⟨_,rfl,a,_,_,_,rfl,rfl,haH,atI_nat (j:=1) rfl,_,rfl,_,x,M,by rw[lx]; rfl,hx,by omega,hM,_,rfl,iteF ?_⟩
  refine⟨_,rfl,a,_,_,_,rfl,rfl,haH,atI_nat (j:=0) rfl,rfl,_,rfl,?_⟩
  rw[eb_ne]
  refine iteF ?_
  refine⟨_,rfl,a,_,_,_,rfl,rfl,haH,atI_nat (j:=0) rfl,rfl,_,rfl,?_⟩
  exact iteT ⟨_,rfl,a,_,_,_,rfl,rfl,haH,atI_nat (j:=2) rfl,_,rfl,fr hy R.len tn _ q⟩
end
end W1
namespace W1
open PySem PySem.Spec L2
def spUb (K:PySem.W.Frag):Sp:=fun vs H Q _=>∃ (v:V) (U:List (List Int)) (j n:Nat) (M:Hp),vs=[.int j,v]∧At K M (intssT U) v∧(∀ row∈U,row.length=n)∧j<n∧U.length≤100∧Same M H∧Res K M H (intsT (SH.col U j)) Q
def spLess (K:PySem.W.Frag):Sp:=fun vs H Q _=>∃ (v w:V) (a b c d:Int) (M:Hp),vs=[v,w]∧At K M (pT a b) v∧At K M (pT c d) w∧a.natAbs<2 ^ 20000∧b.natAbs<2 ^ 20000∧c.natAbs<2 ^ 20000∧d.natAbs<2 ^ 20000∧Same M H∧Q (.bl (decide (a*d<c*b))) H
def spEqu (K:PySem.W.Frag):Sp:=fun vs H Q _=>∃ (v w:V) (a b c d:Int) (M:Hp),vs=[v,w]∧At K M (pT a b) v∧At K M (pT c d) w∧a.natAbs<2 ^ 20000∧b.natAbs<2 ^ 20000∧c.natAbs<2 ^ 20000∧d.natAbs<2 ^ 20000∧Same M H∧∀ z:Bool,(z=true↔a*d=c*b)→Q (.bl z) H
def spNn (K:PySem.W.Frag):Sp:=fun vs H Q _=>∃ (v:V) (x:List Rat) (M:Hp),vs=[v]∧At K M (lnT x) v∧x.length≤100∧Same M H∧∀ (b:Bool) (M' H':Hp),Gr M H M' H'→(b=true↔∀ a∈x,0≤a)→Q (.bl b) H'
structure Cov (U:List (List Int)) (wn:List Int) (y:List Rat):Prop where
 pos:∀ a∈y,0≤a
 cov:∀ (j:Nat) g,wn[j]? = some g→(g:Rat)≤SH.dot (SH.qs (SH.col U j)) y
def spCov (K:PySem.W.Frag):Sp:=fun vs H Q _=>∃ (v1 v2 v3:V) (U:List (List Int)) (am wn:List Int) (y:List Rat) (M:Hp),vs=[v1,v2,v3]∧Tsk U am wn∧At K M (intssT U) v1∧At K M (intsT wn) v2∧At K M (lnT y) v3∧y.length=am.length∧SH.SmLs 1001 y∧Same M H ∧
 ∀ (b:Bool) (M' H':Hp),Gr M H M' H'→(b=true↔Cov U wn y)→Q (.bl b) H'
def zs (l:List Int):List Int:=l.map fun _=>0
theorem zs_len (l:List Int):(zs l).length=l.length:=by simp[zs]
theorem zs_get {l:List Int} {i:Nat} {z:Int} (h:(zs l)[i]? = some z):z=0∧i<l.length:=by
 have hi:=(List.getElem?_eq_some_iff.mp h).1
 rw[zs_len] at hi
 unfold zs at h
 rw[List.getElem?_map,List.getElem?_eq_getElem hi] at h
 exact⟨(Option.some.inj h).symm,hi⟩
theorem zs_at {l:List Int} {i:Nat} (h:i<l.length):(zs l)[i]? = some 0:=by
 unfold zs
 rw[List.getElem?_map,List.getElem?_eq_getElem h]; rfl
theorem zs_sm (l:List Int):∀ z∈zs l,z.natAbs≤2 ^ 100:=fun z hz=>by
 obtain⟨y,_,rfl⟩:=List.mem_map.mp hz
 exact Nat.zero_le _
theorem tsk_zg {U:List (List Int)} {am gn:List Int} (T:Tsk U am gn):Tsk U am (zs gn):=⟨⟨T.t.hm,fun r h=>by rw[zs_len]; exact T.t.hw r h⟩,⟨T.s.u,T.s.a,zs_sm _⟩,T.m,by rw[zs_len]; exact T.n⟩
theorem tsk_za {U:List (List Int)} {am gn:List Int} (T:Tsk U am gn):Tsk U (zs am) gn:=⟨⟨by rw[zs_len]; exact T.t.hm,T.t.hw⟩,⟨T.s.u,zs_sm _,T.s.g⟩,by rw[zs_len]; exact T.m,T.n⟩
theorem one20:(1:Int).natAbs<2 ^ 20000:=Nat.lt_of_lt_of_le (show (1:Int).natAbs<2 ^ 1 by decide) (Nat.pow_le_pow_right (by decide) (by decide))
theorem nought20:(0:Int).natAbs<2 ^ 20000:=Nat.two_pow_pos _
section
variable {P:Program} {w:World} {K:PySem.W.Frag} {mg:Str→Option Value} {base:Heap} {t:Adr} {k:Nat}
theorem zs_ats {M:Hp} {l:List Int} {n:Nat} {ys:List V} (hn:n=l.length) (h:Ats K M ((List.range n).map fun _=>Tr.int 0) ys):Ats K M ((zs l).map Tr.int) ys:=ats_range h (by simp[zs,hn]) fun i t ht=>by
 rw[List.getElem?_map] at ht
 cases e:(zs l)[i]? with
 | none=>rw[e] at ht; cases ht
 | some z=>rw[e] at ht; cases ht; rw[(zs_get e).1]
theorem ok_used_by (T:Txt K mg t):FnOk P w K mg base (CXE P w) (k+1) t.f_used_by t.d_used_by ["ware","uses"] (spUb K):=by
 refine T.F_used_by.okE sc_used_by (fun vs H Q E h=>?_) (fun cdv A outer s H vs Q E hr h=>?_)
 ·obtain⟨v,U,j,n,M,rfl,_⟩:=h
  rfl
 obtain⟨v,U,j,n,M,rfl,h1,hU,hj,hl,hM,q⟩:=h
 obtain⟨b,xs,rfl,hb,ats⟩:=h1.lst_inv
 have hxl:xs.length=U.length:=by have:=ats.1; simp at this; omega
 refine⟨_,(pss_one (ps_ret (pe_compG rfl (compt_of (n:=1) (js:=[0]) (Nb:=["row","ware"]) (by kernel_rfl) rfl (by decide +kernel) (by decide) (by kernel_rfl)) (pi_list (pv 1)) (fun C s0 H0 fp pn'=>(pg_name (i:=0) (nd_of (l:=["row","ware"]) (by decide +kernel)) rfl (Or.inl rfl))) own_name (fun C s0 H0 fp pn'=>pts_none) (fun C s0 H0 fp pn'=>(pe_ix (r:=rIxL K) ix_list (pv 0) (pv 1) (fun _ _=>rfl)))))),?_⟩
 refine⟨_,rfl,b,rfl,⟨_,SqL.of (hM _ _ hb)⟩,fun y hy=>cm_list (K:=K) (M:=M) (F:=fun i=>.int ((U.getD i []).getD j 0)) hM hb (by omega) hy (fun i x Mi Hi Qy hx gi kk=>?_) (fun M2 H2 ys g2 m2 hys at2=>?_)⟩
 ·obtain⟨l,hl',atl⟩:=intss_get' ats hx
  have hw:=hU l (List.mem_of_getElem? hl')
  obtain⟨a,rfl,ha⟩:=ints_get atl
  have hd:=List.getElem?_eq_getElem (show j<l.length by omega)
  refine⟨_,rfl,_,rfl,a,_,_,_,rfl,rfl,SqL.of (gi.mh _ _ (gi.mm _ _ ha)),atI_nat (show (l.map V.int)[j]? = some (.int (l[j]'(by omega))) by rw[List.getElem?_map,hd]; rfl),kk _ _ _ (Gr.refl gi.mh) ?_⟩
  rw[SH.gD hl',SH.gI hd]
  exact .int
 have at3:Ats K M2 ((SH.col U j).map Tr.int) ys:=ats_range at2 (by simp[SH.col,hxl]) fun i t ht=>by
  unfold SH.col at ht
  rw[List.map_map,List.getElem?_map] at ht
  cases e:U[i]? with
  | none=>rw[e] at ht; cases ht
  | some l=>rw[e] at ht; cases ht; rw[SH.gD e]; rfl
 exact q _ _ _ (g2.frz hy m2 hys) ((at3.mono (same_new m2 _)).lst upd_same)
theorem ok_total (T:Txt K mg t):FnOk P w K mg base (CXE P w) (k+1) t.f_total t.d_total ["numbers","fractions"] (spTot K):=by
 refine T.F_total.okE sc_total (fun vs H Q E h=>?_) (fun cdv A outer s H vs Q E hr h=>?_)
 ·obtain⟨v1,v2,ns,x,M,rfl,_⟩:=h
  rfl
 obtain⟨v1,v2,ns,x,M,rfl,h1,h2,hl,h10,hn,hx,hM,q⟩:=h
 obtain⟨a,x1,rfl,ha,a1⟩:=h1.lst_inv
 obtain⟨b,x2,rfl,hb,a2⟩:=h2.lst_inv
 have e1:=Ats.ints_inv a1
 subst e1
 have hlx:x2.length=x.length:=by have:=a2.1; simp at this; omega
 refine⟨_,(pss_cons (ps_set (i:=2) sc_total.nd rfl (Or.inl rfl) pe_int)
  (pss_cons (ps_set (i:=3) sc_total.nd rfl (Or.inl rfl) pe_int)
  (pss_cons (ps_for PassesOwn.leaving rfl (pi_zip rfl T.n_zip (pa_cons (pv 0) (pa_cons (pv 1) pa_nil))) (pg_tup (n:=2) rfl (pgs_cons (pg_name (i:=4) sc_total.nd rfl (Or.inl rfl)) (pgs_cons (pg_name (i:=5) sc_total.nd rfl (Or.inl rfl)) pgs_nil)))
   (pss_cons (ps_set (i:=2) sc_total.nd rfl (Or.inl rfl) (pe_op op_add (pe_op op_mulB (pv 2) (pe_ix ix_tup (pv 5) pe_int (fun _ _=>rfl))) (pe_op op_mulB (pe_op op_mulB (pv 4) (pe_ix ix_tup (pv 5) pe_int (fun _ _=>rfl))) (pv 3))))
  (pss_one (ps_set (i:=3) sc_total.nd rfl (Or.inl rfl) (pe_op op_mulB (pv 3) (pe_ix ix_tup (pv 5) pe_int (fun _ _=>rfl)))))))
  (pss_one (ps_ret (pe_tup (pa_cons (pv 2) (pa_cons (pv 3) pa_nil)))))))),?_⟩
 refine⟨_,rfl,_,rfl,a,b,_,_,rfl,SqL.of (hM _ _ ha),SqL.of (hM _ _ hb),for_zip (K:=K) (xs:=ns.map V.int) (ys:=x2) (fun i σ H'=>Gr M H M H'∧∃ c d:Option V,σ=[some (.ref a),some (.ref b),some (.int (SH.tk ns x i).1),some (.int (SH.tk ns x i).2),c,d]) ⟨Gr.refl hM,none,none,rfl⟩ (by simp <;> omega) (fun i σ H' _ h=>⟨SqL.of (h.1.mh _ _ ha),SqL.of (h.1.mh _ _ hb)⟩) ?_ ?_⟩
 ·rintro i xv yv Tz σ H' hxv hyv hT ⟨g,c,d,rfl⟩
  have hil:i<ns.length:=by have:=(List.getElem?_eq_some_iff.mp hxv).1; simpa using this
  have hni:=List.getElem?_eq_getElem hil
  have hri:=List.getElem?_eq_getElem (show i<x.length by omega)
  rw[List.getElem?_map,hni] at hxv
  cases hxv
  obtain⟨xp,hxp,atp⟩:=ln_get a2 hri
  rw[hyv] at hxp
  cases hxp
  obtain⟨p,rfl,hp⟩:=fr_inv atp
  have g1:Gr M H M (upd H' Tz (.tup [.int ns[i],.ref p])):=g.new hT
  have hpH:=g1.mh.tup hp
  obtain⟨t1,t2⟩:=tk20 hn hx (i:=i) (by omega)
  have sr:=hx _ (List.mem_of_getElem? hri)
  have sn:=smi20 hn (List.mem_of_getElem? hni)
  have sd:(((x[i]'(by omega)).den:Nat):Int).natAbs<2 ^ 20000:=big20 (sm_den sr) (by decide)
  have sp:=big20 sr.1 (by decide)
  have s3:(ns[i]*(x[i]'(by omega)).num).natAbs<2 ^ 20000:=big20 (FM.mul_lt (m:=101) (Nat.lt_of_le_of_lt (hn _ (List.mem_of_getElem? hni)) (by decide +kernel)) sr.1) (by decide)
  refine⟨Tz,_,rfl,SqT.of upd_same,rfl,_,_,rfl,_,_,rfl,rfl,?_⟩
  refine⟨_,rfl,_,rfl,p,_,_,_,rfl,rfl,hpH,fr_bot _,_,_,rfl,rfl,mok t1 sd,_,rfl,_,rfl,p,_,_,_,rfl,rfl,hpH,fr_top _,_,_,rfl,rfl,mok sn sp,_,rfl,_,_,rfl,rfl,mok s3 t2,_,_,rfl,rfl,?_⟩
  refine⟨_,rfl,_,rfl,p,_,_,_,rfl,rfl,hpH,fr_bot _,_,_,rfl,rfl,mok t2 sd,?_⟩
  have e:SH.tk ns x (i+1)=((SH.tk ns x i).1*((x[i]'(by omega)).den:Int)+ns[i]*(x[i]'(by omega)).num*(SH.tk ns x i).2,(SH.tk ns x i).2*((x[i]'(by omega)).den:Int)):=by
   show ((SH.tk ns x i).1*((x.getD i 0).den:Int)+ns.getD i 0*(x.getD i 0).num*(SH.tk ns x i).2,(SH.tk ns x i).2*((x.getD i 0).den:Int))=_
   rw[SH.getD_of hri,SH.gI hni]
  refine⟨g1,some (.int ns[i]),some (.ref p),?_⟩
  rw[e]
  rfl
 ·rintro σ H' ⟨g,c,d,rfl⟩
  rw[List.length_map]
  refine⟨_,rfl,_,rfl,two_ok,fun p hp=>q _ _ _ (g.add hp) (pT_mk (SqT.of upd_same))⟩
theorem ok_less (T:Txt K mg t):FnOk P w K mg base (CXE P w) (k+1) t.f_less t.d_less ["one","two"] (spLess K):=by
 refine T.F_less.okE sc_less (fun vs H Q E h=>?_) (fun cdv A outer s H vs Q E hr h=>?_)
 ·obtain⟨v,w',a,b,c,d,M,rfl,_⟩:=h
  rfl
 obtain⟨v,w',a,b,c,d,M,rfl,h1,h2,sa,sb,sc,sd,hM,q⟩:=h
 obtain⟨p1,rfl,hp1⟩:=pT_inv h1
 obtain⟨p2,rfl,hp2⟩:=pT_inv h2
 have k1:=hM.tup hp1
 have k2:=hM.tup hp2
 refine⟨_,(pss_one (ps_ret (pe_cmpR op_lt (pe_op op_mulB (pe_ix ix_tup (pv 0) pe_int (fun _ _=>rfl)) (pe_ix ix_tup (pv 1) pe_int (fun _ _=>rfl))) (pe_op op_mulB (pe_ix ix_tup (pv 1) pe_int (fun _ _=>rfl)) (pe_ix ix_tup (pv 0) pe_int (fun _ _=>rfl))) (nomark _)))),?_⟩
 exact⟨_,rfl,p1,_,_,_,rfl,rfl,k1,atI_nat (j:=0) rfl,_,rfl,p2,_,_,_,rfl,rfl,k2,atI_nat (j:=1) rfl,_,_,rfl,rfl,mok sa sd,_,rfl,p2,_,_,_,rfl,rfl,k2,atI_nat (j:=0) rfl,_,rfl,p1,_,_,_,rfl,rfl,k1,atI_nat (j:=1) rfl,_,_,rfl,rfl,mok sc sb,_,_,rfl,rfl,q⟩
theorem ok_equal (T:Txt K mg t) (G_less:FnOk P w K mg base (CXE P w) k t.f_less t.d_less ["one","two"] (spLess K)):FnOk P w K mg base (CXE P w) (k+1) t.f_equal t.d_equal ["one","two"] (spEqu K):=by
 refine T.F_equal.okE sc_equal (fun vs H Q E h=>?_) (fun cdv A outer s H vs Q E hr h=>?_)
 ·obtain⟨v,w',a,b,c,d,M,rfl,_⟩:=h
  rfl
 obtain⟨v,w',a,b,c,d,M,rfl,h1,h2,sa,sb,sc,sd,hM,q⟩:=h
 refine⟨_,(pss_one (ps_ret (pe_and (pe_not (pe_call G_less hr rfl T.m_less T.F_less.kp T.b_less .nil pass_no (pa_cons (pv 0) (pa_cons (pv 1) pa_nil)))) (pe_one (pe_not (pe_call G_less hr rfl T.m_less T.F_less.kp T.b_less .nil pass_no (pa_cons (pv 1) (pa_cons (pv 0) pa_nil)))))))),?_⟩
 refine⟨_,rfl,_,rfl,_,_,a,b,c,d,M,rfl,h1,h2,sa,sb,sc,sd,hM,_,rfl,_,rfl,?_⟩
 refine ite2 (fun c1=>?_) (fun c1=>?_)
 ·have c1:¬ a*d<c*b:=by simpa using c1
  refine⟨_,rfl,_,rfl,_,_,c,d,a,b,M,rfl,h2,h1,sc,sd,sa,sb,hM,_,rfl,q _ ⟨fun z=>?_,fun z=>?_⟩⟩
  ·have z:¬ c*b<a*d:=by simpa using z
   omega
  ·have:¬ c*b<a*d:=by omega
   simpa using this
 ·have c1:a*d<c*b:=by simpa using c1
  exact q false ⟨fun z=>(by cases z),fun z=>by omega⟩
theorem ok_none_below_nought (T:Txt K mg t):FnOk P w K mg base (CXE P w) (k+1) t.f_none_below_nought t.d_none_below_nought ["fractions"] (spNn K):=by
 refine T.F_none_below_nought.okE sc_none_below_nought (fun vs H Q E h=>?_) (fun cdv A outer s H vs Q E hr h=>?_)
 ·obtain⟨v,x,M,rfl,_⟩:=h
  rfl
 obtain⟨v,x,M,rfl,h1,hl,hM,q⟩:=h
 obtain⟨b,xs,rfl,hb,ats⟩:=h1.lst_inv
 have hxl:xs.length=x.length:=by have:=ats.1; simp at this; omega
 refine⟨_,(pss_one (ps_ret (pe_callB (call_allB hr.hd) rfl T.n_all boot_allB (pa_cons (pe_compG rfl (compt_of (n:=1) (js:=[]) (Nb:=["fraction"]) (by kernel_rfl) rfl (by decide +kernel) (by decide) (by kernel_rfl)) (pi_list (pv 0)) (fun C s0 H0 fp pn'=>(pg_name (i:=0) (nd_of (l:=["fraction"]) (by decide +kernel)) rfl (Or.inl rfl))) own_name (fun C s0 H0 fp pn'=>pts_none) (fun C s0 H0 fp pn'=>(pe_cmpR op_ge (pe_ix (r:=rIxT K) ix_tup (pv 0) pe_int (fun _ _=>rfl)) pe_int (nomark _)))) pa_nil)))),?_⟩
 refine⟨_,rfl,b,rfl,⟨_,SqL.of (hM _ _ hb)⟩,fun y hy=>cb_list (K:=K) (M:=M) (f:=fun i=>decide (0≤(x.getD i 0).num)) hM hb (by omega) hy (fun i z Mi Hi Qy hz gi kk=>?_) (fun M2 H2 g2 m2 hys=>?_)⟩
 ·obtain⟨r,hr0,atr⟩:=ln_get' ats hz
  obtain⟨a,rfl,ha⟩:=fr_inv atr
  refine⟨_,rfl,a,_,_,_,rfl,rfl,gi.mh.tup (gi.mm.tup ha),fr_top r,_,_,rfl,rfl,?_⟩
  have e:x.getD i 0=r:=SH.getD_of hr0
  have kk':=kk Mi Hi (Gr.refl gi.mh)
  rw[e] at kk'
  exact kk'
 ·refine⟨y,_,rfl,SqL.of hys,q _ _ _ g2 ?_⟩
  rw[all_rng]
  constructor
  ·intro h a ha
   obtain⟨j,hj⟩:=List.mem_iff_getElem?.mp ha
   have:=of_decide_eq_true (h j (by have:=(List.getElem?_eq_some_iff.mp hj).1; omega))
   rw[SH.getD_of hj] at this
   exact Rat.num_nonneg.mp this
  ·intro h i hi
   have hj:=List.getElem?_eq_getElem (show i<x.length by omega)
   refine decide_eq_true ?_
   rw[SH.getD_of hj]
   exact Rat.num_nonneg.mpr (h _ (List.mem_of_getElem? hj))
theorem ok_possible (T:Txt K mg t) (G_less:FnOk P w K mg base (CXE P w) k t.f_less t.d_less ["one","two"] (spLess K)) (G_total:FnOk P w K mg base (CXE P w) k t.f_total t.d_total ["numbers","fractions"] (spTot K)) (G_none_below_nought:FnOk P w K mg base (CXE P w) k t.f_none_below_nought t.d_none_below_nought ["fractions"] (spNn K)) :
  FnOk P w K mg base (CXE P w) (k+1) t.f_possible t.d_possible ["uses","amounts","plan"] (spWith K):=by
 refine T.F_possible.okE sc_possible (fun vs H Q E h=>?_) (fun cdv A outer s H vs Q E hr h=>?_)
 ·obtain⟨v1,v2,v3,U,am,gn,x,M,rfl,_⟩:=h
  rfl
 obtain⟨v1,v2,v3,U,am,gn,x,M,rfl,TK,h1,h2,h3,hl,hx,hM,q⟩:=h
 obtain⟨a,xs,rfl,ha,ats⟩:=h1.lst_inv
 obtain⟨b,rfl,hb⟩:=ints_get h2
 have tm:=TK.m
 have tn:=TK.n
 have hm:=TK.t.hm
 have hxl:xs.length=U.length:=by have:=ats.1; simp at this; omega
 refine⟨_,(pss_cons (ps_compG (iy:=3) sc_possible.nd rfl (Or.inl rfl) rfl (compt_of (n:=2) (js:=[2]) (Nb:=["row","amount","plan"]) (by kernel_rfl) rfl (by decide +kernel) (by decide) (by kernel_rfl)) (pi_zip rfl T.n_zip (pa_cons (pv 0) (pa_cons (pv 1) pa_nil))) (fun C s0 H0 fp pn'=>(pg_tup (n:=2) rfl (pgs_cons (pg_name (i:=0) (nd_of (l:=["row","amount","plan"]) (by decide +kernel)) rfl (Or.inl rfl)) (pgs_cons (pg_name (i:=1) (nd_of (l:=["row","amount","plan"]) (by decide +kernel)) rfl (Or.inl rfl)) pgs_nil)))) own_pair (fun C s0 H0 fp pn'=>pts_none) (fun C s0 H0 fp pn'=>(pe_not (pe_call G_less hr rfl T.m_less T.F_less.kp T.b_less .nil pass_no (pa_cons (pe_tup (pa_cons (pv 1) (pa_cons pe_int pa_nil))) (pa_cons (pe_call G_total hr rfl T.m_total T.F_total.kp T.b_total .nil pass_no (pa_cons (pv 0) (pa_cons (pv 2) pa_nil))) pa_nil))))))
  (pss_one (ps_ret (pe_and (pe_call G_none_below_nought hr rfl T.m_none_below_nought T.F_none_below_nought.kp T.b_none_below_nought .nil pass_no (pa_cons (pv 2) pa_nil)) (pe_one (pe_callB (call_allB hr.hd) rfl T.n_all boot_allB (pa_cons (pv 3) pa_nil))))))),?_⟩
 refine⟨_,rfl,_,rfl,a,b,_,_,rfl,SqL.of (hM _ _ ha),SqL.of (hM _ _ hb),fun y hy=>cb_zip (K:=K) (M:=M) (f:=fun i=>!decide (am.getD i 0*(SH.tot (U.getD i []) x).2<(SH.tot (U.getD i []) x).1*1)) hM ha hb (by simp <;> omega) (by omega) hy (fun i z1 z2 Mi Hi Qy hz1 hz2 gi kk=>?_) (fun M2 H2 g2 m2 hys=>?_)⟩
 ·obtain⟨row,hrow,atr⟩:=intss_get' ats hz1
  have hw:=TK.t.hw row (List.mem_of_getElem? hrow)
  have sr:SmI row:=TK.s.u row (List.mem_of_getElem? hrow)
  have hA:=List.getElem?_eq_getElem (show i<am.length by have:=(List.getElem?_eq_some_iff.mp hrow).1; omega)
  generalize am[i]'(by have:=(List.getElem?_eq_some_iff.mp hrow).1; omega)=z at hA
  rw[List.getElem?_map,hA] at hz2
  cases hz2
  obtain⟨s1,s2⟩:=tot20 sr hx (by omega)
  refine⟨_,rfl,two_ok,fun p hp=>?_⟩
  have gp:Gr Mi Hi _ _:=(Gr.refl gi.mh).add (o:=.tup [.int z,.int 1]) hp
  refine⟨_,rfl,_,rfl,_,_,row,x,_,rfl,(atr.mono gi.mm).mono gp.mm,(h3.mono gi.mm).mono gp.mm,by omega,by omega,sr,hx,gp.mh,fun tv M3 H3 g3 t3=>?_⟩
  refine⟨_,_,z,1,_,_,M3,rfl,(pT_mk (SqT.of upd_same)).mono g3.mm,t3,smi20 TK.s.a (List.mem_of_getElem? hA),one20,s1,s2,g3.mh,_,rfl,?_⟩
  have kk':=kk M3 H3 (gp.trans g3)
  rw[SH.gI hA,SH.gD hrow] at kk'
  exact kk'
 ·have g3:=g2.frz hy m2 hys
  refine⟨_,rfl,_,x,_,rfl,h3.mono g3.mm,by omega,g3.mh,fun b M4 H4 g4 hb4=>⟨_,rfl,?_⟩⟩
  cases b with
  | false=>exact iteF (q false _ _ (g3.trans g4) ⟨fun z=>(by cases z),fun z=>hb4.mpr z.pos⟩)
  | true=>
   refine iteT ⟨_,rfl,y,_,rfl,SqL.of (g4.mh _ _ (g4.mm _ _ upd_same)),q _ _ _ (g3.trans g4) ?_⟩
   rw[all_rng]
   constructor
   ·intro h
    refine⟨hl,hb4.mp rfl,fun i row z hr' hz=>?_⟩
    have:=h i (by have:=(List.getElem?_eq_some_iff.mp hr').1; omega)
    rw[SH.gI hz,SH.gD hr'] at this
    have this:¬ z*(SH.tot row x).2<(SH.tot row x).1*1:=by simpa using this
    exact (SH.tot_le (by rw[TK.t.hw row (List.mem_of_getElem? hr')]; exact hl) z).mp (by omega)
   ·intro h i hi
    have hr':=List.getElem?_eq_getElem (show i<U.length by omega)
    have hz:=List.getElem?_eq_getElem (show i<am.length by omega)
    rw[SH.gI hz,SH.gD hr']
    have:=(SH.tot_le (by rw[TK.t.hw _ (List.mem_of_getElem? hr')]; exact hl) _).mpr (h.fit i _ _ hr' hz)
    have:¬ am[i]*(SH.tot U[i] x).2<(SH.tot U[i] x).1*1:=by omega
    simpa using this
theorem ok_covered (T:Txt K mg t) (G_less:FnOk P w K mg base (CXE P w) k t.f_less t.d_less ["one","two"] (spLess K)) (G_total:FnOk P w K mg base (CXE P w) k t.f_total t.d_total ["numbers","fractions"] (spTot K)) (G_used_by:FnOk P w K mg base (CXE P w) k t.f_used_by t.d_used_by ["ware","uses"] (spUb K)) (G_none_below_nought:FnOk P w K mg base (CXE P w) k t.f_none_below_nought t.d_none_below_nought ["fractions"] (spNn K)) :
  FnOk P w K mg base (CXE P w) (k+1) t.f_covered t.d_covered ["uses","wanted","fractions"] (spCov K):=by
 refine T.F_covered.okE sc_covered (fun vs H Q E h=>?_) (fun cdv A outer s H vs Q E hr h=>?_)
 ·obtain⟨v1,v2,v3,U,am,wn,x,M,rfl,_⟩:=h
  rfl
 obtain⟨v1,v2,v3,U,am,wn,x,M,rfl,TK,h1,h2,h3,hl,hx,hM,q⟩:=h
 obtain⟨b,rfl,hb⟩:=ints_get h2
 have tm:=TK.m
 have tn:=TK.n
 have hm:=TK.t.hm
 refine⟨_,(pss_cons (ps_compG (iy:=3) sc_covered.nd rfl (Or.inl rfl) rfl (compt_of (n:=2) (js:=[2,0]) (Nb:=["ware","least","fractions","uses"]) (by kernel_rfl) rfl (by decide +kernel) (by decide) (by kernel_rfl)) (pi_enum rfl T.n_enumerate (pa_cons (pv 1) pa_nil)) (fun C s0 H0 fp pn'=>(pg_tup (n:=2) rfl (pgs_cons (pg_name (i:=0) (nd_of (l:=["ware","least","fractions","uses"]) (by decide +kernel)) rfl (Or.inl rfl)) (pgs_cons (pg_name (i:=1) (nd_of (l:=["ware","least","fractions","uses"]) (by decide +kernel)) rfl (Or.inl rfl)) pgs_nil)))) own_pair (fun C s0 H0 fp pn'=>pts_none) (fun C s0 H0 fp pn'=>(pe_call G_less hr rfl T.m_less T.F_less.kp T.b_less .nil pass_no (pa_cons (pe_call G_total hr rfl T.m_total T.F_total.kp T.b_total .nil pass_no (pa_cons (pe_call G_used_by hr rfl T.m_used_by T.F_used_by.kp T.b_used_by .nil pass_no (pa_cons (pv 0) (pa_cons (pv 3) pa_nil))) (pa_cons (pv 2) pa_nil))) (pa_cons (pe_tup (pa_cons (pv 1) (pa_cons pe_int pa_nil))) pa_nil)))))
  (pss_one (ps_ret (pe_and (pe_call G_none_below_nought hr rfl T.m_none_below_nought T.F_none_below_nought.kp T.b_none_below_nought .nil pass_no (pa_cons (pv 2) pa_nil)) (pe_one (pe_not (pe_callB (call_anyB hr.hd) rfl T.n_any boot_anyB (pa_cons (pv 3) pa_nil)))))))),?_⟩
 refine⟨_,rfl,b,_,rfl,hM _ _ hb,fun y hy=>cb_enum (K:=K) (M:=M) (f:=fun i=>decide ((SH.tot (SH.col U i) x).1*1<wn.getD i 0*(SH.tot (SH.col U i) x).2)) hM hb (by simp <;> omega) hy (fun i z2 Mi Hi Qy hz2 gi kk=>?_) (fun M2 H2 g2 m2 hys=>?_)⟩
 ·have hi:i<wn.length:=by have:=(List.getElem?_eq_some_iff.mp hz2).1; simpa using this
  have hA:=List.getElem?_eq_getElem hi
  generalize wn[i]=z at hA
  rw[List.getElem?_map,hA] at hz2
  cases hz2
  have sc:SmI (SH.col U i):=col_sm TK.s.u
  have lc:(SH.col U i).length=am.length:=by rw[col_len,hm]
  obtain⟨s1,s2⟩:=tot20 sc hx (by omega)
  refine⟨_,rfl,_,rfl,_,U,i,wn.length,Mi,rfl,h1.mono gi.mm,TK.t.hw,hi,by omega,gi.mh,fun cv M3 H3 g3 t3=>?_⟩
  refine⟨_,rfl,_,_,SH.col U i,x,M3,rfl,t3,(h3.mono gi.mm).mono g3.mm,by omega,by omega,sc,hx,g3.mh,fun tv M4 H4 g4 t4=>?_⟩
  refine⟨_,rfl,two_ok,fun p hp=>?_⟩
  have gp:Gr Mi Hi _ _:=(g3.trans g4).add (o:=.tup [.int z,.int 1]) hp
  refine⟨_,_,_,_,z,1,_,rfl,t4.mono (same_new (g4.mh.free hp) _),pT_mk (SqT.of upd_same),s1,s2,smi20 TK.s.g (List.mem_of_getElem? hA),one20,gp.mh,?_⟩
  have kk':=kk _ _ gp
  rw[SH.gI hA] at kk'
  exact kk'
 ·have g3:=g2.frz hy m2 hys
  refine⟨_,rfl,_,x,_,rfl,h3.mono g3.mm,by omega,g3.mh,fun b M4 H4 g4 hb4=>⟨_,rfl,?_⟩⟩
  cases b with
  | false=>exact iteF (q false _ _ (g3.trans g4) ⟨fun z=>(by cases z),fun z=>hb4.mpr z.pos⟩)
  | true=>
   refine iteT ⟨_,rfl,y,_,rfl,SqL.of (g4.mh _ _ (g4.mm _ _ upd_same)),_,rfl,q _ _ _ (g3.trans g4) ?_⟩
   rw[any_rng]
   have lc:∀ i,(SH.col U i).length=am.length:=fun i=>by rw[col_len,hm]
   constructor
   ·intro h
    refine⟨hb4.mp rfl,fun i z hz=>?_⟩
    have:=h i (by have:=(List.getElem?_eq_some_iff.mp hz).1; simpa using this)
    rw[SH.gI hz] at this
    have this:¬ (SH.tot (SH.col U i) x).1*1<z*(SH.tot (SH.col U i) x).2:=by simpa using this
    exact (SH.tot_ge (by rw[lc]; exact hl) z).mp (by omega)
   ·intro h i hi
    have hz:=List.getElem?_eq_getElem (show i<wn.length by simpa using hi)
    rw[SH.gI hz]
    have:=(SH.tot_ge (by rw[lc]; exact hl) _).mpr (h.cov i _ hz)
    exact decide_eq_false (by omega)
theorem ok_best_stands (T:Txt K mg t) (G_possible:FnOk P w K mg base (CXE P w) k t.f_possible t.d_possible ["uses","amounts","plan"] (spWith K)) (G_covered:FnOk P w K mg base (CXE P w) k t.f_covered t.d_covered ["uses","wanted","fractions"] (spCov K)) (G_equal:FnOk P w K mg base (CXE P w) k t.f_equal t.d_equal ["one","two"] (spEqu K)) (G_total:FnOk P w K mg base (CXE P w) k t.f_total t.d_total ["numbers","fractions"] (spTot K)) :
  FnOk P w K mg base (CXE P w) (k+1) t.f_best_stands t.d_best_stands ["uses","amounts","gains","plan","prices"] (spBr K):=by
 refine T.F_best_stands.okE sc_best_stands (fun vs H Q E h=>?_) (fun cdv A outer s H vs Q E hr h=>?_)
 ·obtain⟨v1,v2,v3,v4,v5,U,am,gn,x,y,M,rfl,_⟩:=h
  rfl
 obtain⟨v1,v2,v3,v4,v5,U,am,gn,x,y,M,rfl,TK,D,h4,h5,lx,ly,sx,sy,hM,q⟩:=h
 have tm:=TK.m
 have tn:=TK.n
 refine⟨_,(pss_cons (ps_if (PW.pt (pw_or (pt_not (pt_val (pe_call G_possible hr rfl T.m_possible T.F_possible.kp T.b_possible .nil pass_no (pa_cons (pv 0) (pa_cons (pv 1) (pa_cons (pv 3) pa_nil)))))) (pw_or1 (pt_not (pt_val (pe_call G_covered hr rfl T.m_covered T.F_covered.kp T.b_covered .nil pass_no (pa_cons (pv 0) (pa_cons (pv 2) (pa_cons (pv 4) pa_nil)))))))))
   (pss_one (ps_ret pe_bl))
   pss_nil)
  (pss_one (ps_ret (pe_call G_equal hr rfl T.m_equal T.F_equal.kp T.b_equal .nil pass_no (pa_cons (pe_call G_total hr rfl T.m_total T.F_total.kp T.b_total .nil pass_no (pa_cons (pv 1) (pa_cons (pv 4) pa_nil))) (pa_cons (pe_call G_total hr rfl T.m_total T.F_total.kp T.b_total .nil pass_no (pa_cons (pv 2) (pa_cons (pv 3) pa_nil))) pa_nil)))))),?_⟩
 refine⟨_,rfl,_,rfl,_,rfl,_,_,_,U,am,gn,x,M,rfl,TK,D.u,D.a,h4,lx,sx,hM,fun b M1 H1 g1 hb=>⟨_,rfl,?_⟩⟩
 cases b with
 | false=>exact iteT (iteT (q false _ _ g1 ⟨fun z=>(by cases z),fun z=>hb.mpr z.plan⟩))
 | true=>
 have PL:=hb.mp rfl
 refine iteF ?_
 refine⟨_,rfl,_,rfl,_,rfl,_,_,_,U,am,gn,y,M1,rfl,TK,D.u.mono g1.mm,D.g.mono g1.mm,h5.mono g1.mm,ly,sy,g1.mh,fun b2 M2 H2 g2 hb2=>⟨_,rfl,?_⟩⟩
 have g12:=g1.trans g2
 cases b2 with
 | false=>exact iteT (q false _ _ g12 ⟨fun z=>(by cases z),fun z=>hb2.mpr ⟨z.pos,z.cov⟩⟩)
 | true=>
 have PC:=hb2.mp rfl
 refine iteF ?_
 have D2:=D.mono g12.mm
 refine⟨_,rfl,_,rfl,_,_,am,y,M2,rfl,D2.a,h5.mono g12.mm,ly,by omega,TK.s.a,sy,g2.mh,fun tv M3 H3 g3 t3=>?_⟩
 refine⟨_,rfl,_,rfl,_,_,gn,x,M3,rfl,D2.g.mono g3.mm,(h4.mono g12.mm).mono g3.mm,lx,by omega,TK.s.g,sx,g3.mh,fun uv M4 H4 g4 t4=>?_⟩
 obtain⟨s1,s2⟩:=tot20 TK.s.a sy (by omega)
 obtain⟨s3,s4⟩:=tot20 TK.s.g sx (by omega)
 refine⟨_,_,_,_,_,_,M4,rfl,t3.mono g4.mm,t4,s1,s2,s3,s4,g4.mh,fun z hz=>q z _ _ ((g12.trans g3).trans g4) ?_⟩
 rw[hz,SH.tot_cross ly lx]
 exact⟨fun e=>⟨PL,ly,PC.pos,PC.cov,e⟩,fun e=>e.eq⟩
theorem ok_none_stands (T:Txt K mg t) (G_covered:FnOk P w K mg base (CXE P w) k t.f_covered t.d_covered ["uses","wanted","fractions"] (spCov K)) (G_less:FnOk P w K mg base (CXE P w) k t.f_less t.d_less ["one","two"] (spLess K)) (G_total:FnOk P w K mg base (CXE P w) k t.f_total t.d_total ["numbers","fractions"] (spTot K)) :
  FnOk P w K mg base (CXE P w) (k+1) t.f_none_stands t.d_none_stands ["uses","amounts","gains","weights"] (spNr K):=by
 refine T.F_none_stands.okE sc_none_stands (fun vs H Q E h=>?_) (fun cdv A outer s H vs Q E hr h=>?_)
 ·obtain⟨v1,v2,v3,v4,U,am,gn,y,M,rfl,_⟩:=h
  rfl
 obtain⟨v1,v2,v3,v4,U,am,gn,y,M,rfl,TK,D,h5,ly,sy,hM,q⟩:=h
 obtain⟨c,rfl,hc⟩:=ints_get D.g
 have tm:=TK.m
 have tn:=TK.n
 refine⟨_,(pss_one (ps_ret (pe_and (pe_call G_covered hr rfl T.m_covered T.F_covered.kp T.b_covered .nil pass_no (pa_cons (pv 0) (pa_cons (pe_compG rfl (compt_of (n:=1) (js:=[]) (Nb:=["gain"]) (by kernel_rfl) rfl (by decide +kernel) (by decide) (by kernel_rfl)) (pi_list (pv 2)) (fun C s0 H0 fp pn'=>(pg_name (i:=0) (nd_of (l:=["gain"]) (by decide +kernel)) rfl (Or.inl rfl))) own_name (fun C s0 H0 fp pn'=>pts_none) (fun C s0 H0 fp pn'=>pe_int)) (pa_cons (pv 3) pa_nil)))) (pe_one (pe_call G_less hr rfl T.m_less T.F_less.kp T.b_less .nil pass_no (pa_cons (pe_call G_total hr rfl T.m_total T.F_total.kp T.b_total .nil pass_no (pa_cons (pv 1) (pa_cons (pv 3) pa_nil))) (pa_cons (pe_glob (v:=.ref t.k_NOUGHT) rfl T.m_NOUGHT rfl) pa_nil))))))),?_⟩
 refine⟨_,rfl,_,rfl,c,rfl,⟨_,SqL.of (hM _ _ hc)⟩,fun p hp=>cm_list (K:=K) (M:=M) (F:=fun _=>.int 0) hM hc (by simp <;> omega) hp (fun i x Mi Hi Qy hx gi kk=>kk _ _ _ (Gr.refl gi.mh) .int) (fun M2 H2 ys g2 m2 hys at2=>?_)⟩
 have g3:=g2.frz hp m2 hys
 have tz:At K (upd M2 p (.lst ys)) (intsT (zs gn)) (.ref p):=((zs_ats (by simp) at2).mono (same_new m2 _)).lst upd_same
 refine⟨_,rfl,_,_,_,U,am,zs gn,y,_,rfl,tsk_zg TK,D.u.mono g3.mm,tz,h5.mono g3.mm,ly,sy,g3.mh,fun b M4 H4 g4 hb=>⟨_,rfl,?_⟩⟩
 have g34:=g3.trans g4
 cases b with
 | false=>
  refine iteF (q false _ _ g34 ⟨fun z=>(by cases z),fun z=>hb.mpr ⟨z.pos,fun j g hg=>?_⟩⟩)
  obtain⟨rfl,hj⟩:=zs_get hg
  exact z.cov j hj
 | true=>
 have PC:=hb.mp rfl
 refine iteT ?_
 refine⟨_,rfl,_,rfl,_,_,am,y,M4,rfl,D.a.mono g34.mm,h5.mono g34.mm,ly,by omega,TK.s.a,sy,g4.mh,fun tv M5 H5 g5 t5=>?_⟩
 obtain⟨s1,s2⟩:=tot20 TK.s.a sy (by omega)
 refine⟨_,_,_,_,0,1,M5,rfl,t5,pT_mk (T.q_NOUGHT M5),s1,s2,nought20,one20,g5.mh,q _ _ _ (g34.trans g5) ?_⟩
 have hng:=SH.tot_neg (ns:=am) (x:=y) ly
 constructor
 ·intro z
  have z:=of_decide_eq_true z
  exact⟨ly,PC.pos,fun j hj=>PC.cov j 0 (zs_at hj),hng.mp (by omega)⟩
 ·intro z
  have:=hng.mpr z.neg
  exact decide_eq_true (by omega)
theorem ok_endless_stands (T:Txt K mg t) (G_possible:FnOk P w K mg base (CXE P w) k t.f_possible t.d_possible ["uses","amounts","plan"] (spWith K)) (G_less:FnOk P w K mg base (CXE P w) k t.f_less t.d_less ["one","two"] (spLess K)) (G_total:FnOk P w K mg base (CXE P w) k t.f_total t.d_total ["numbers","fractions"] (spTot K)) :
  FnOk P w K mg base (CXE P w) (k+1) t.f_endless_stands t.d_endless_stands ["uses","amounts","gains","plan","way"] (spEr K):=by
 refine T.F_endless_stands.okE sc_endless_stands (fun vs H Q E h=>?_) (fun cdv A outer s H vs Q E hr h=>?_)
 ·obtain⟨v1,v2,v3,v4,v5,U,am,gn,x,y,M,rfl,_⟩:=h
  rfl
 obtain⟨v1,v2,v3,v4,v5,U,am,gn,x,y,M,rfl,TK,D,h4,h5,lx,ly,sx,sy,hM,q⟩:=h
 obtain⟨c,rfl,hc⟩:=ints_get D.a
 have tm:=TK.m
 have tn:=TK.n
 have hm:=TK.t.hm
 refine⟨_,(pss_cons (ps_if (PW.pt (pw_or (pt_not (pt_val (pe_call G_possible hr rfl T.m_possible T.F_possible.kp T.b_possible .nil pass_no (pa_cons (pv 0) (pa_cons (pv 1) (pa_cons (pv 3) pa_nil)))))) (pw_or1 (pt_not (pt_val (pe_call G_possible hr rfl T.m_possible T.F_possible.kp T.b_possible .nil pass_no (pa_cons (pv 0) (pa_cons (pe_compG rfl (compt_of (n:=1) (js:=[]) (Nb:=["amount"]) (by kernel_rfl) rfl (by decide +kernel) (by decide) (by kernel_rfl)) (pi_list (pv 1)) (fun C s0 H0 fp pn'=>(pg_name (i:=0) (nd_of (l:=["amount"]) (by decide +kernel)) rfl (Or.inl rfl))) own_name (fun C s0 H0 fp pn'=>pts_none) (fun C s0 H0 fp pn'=>pe_int)) (pa_cons (pv 4) pa_nil)))))))))
   (pss_one (ps_ret pe_bl))
   pss_nil)
  (pss_one (ps_ret (pe_call G_less hr rfl T.m_less T.F_less.kp T.b_less .nil pass_no (pa_cons (pe_glob (v:=.ref t.k_NOUGHT) rfl T.m_NOUGHT rfl) (pa_cons (pe_call G_total hr rfl T.m_total T.F_total.kp T.b_total .nil pass_no (pa_cons (pv 2) (pa_cons (pv 4) pa_nil))) pa_nil)))))),?_⟩
 refine⟨_,rfl,_,rfl,_,rfl,_,_,_,U,am,gn,x,M,rfl,TK,D.u,D.a,h4,lx,sx,hM,fun b M1 H1 g1 hb=>⟨_,rfl,?_⟩⟩
 cases b with
 | false=>exact iteT (iteT (q false _ _ g1 ⟨fun z=>(by cases z),fun z=>hb.mpr z.plan⟩))
 | true=>
 have PL:=hb.mp rfl
 refine iteF ?_
 refine⟨_,rfl,_,rfl,c,rfl,⟨_,SqL.of (g1.mh _ _ (g1.mm _ _ hc))⟩,fun p hp=>cm_list (K:=K) (M:=M1) (F:=fun _=>.int 0) g1.mh (g1.mm _ _ hc) (by simp <;> omega) hp (fun i x Mi Hi Qy hx gi kk=>kk _ _ _ (Gr.refl gi.mh) .int) (fun M2 H2 ys g2 m2 hys at2=>?_)⟩
 have g3:=g1.trans (g2.frz hp m2 hys)
 have tz:At K (upd M2 p (.lst ys)) (intsT (zs am)) (.ref p):=((zs_ats (by simp) at2).mono (same_new m2 _)).lst upd_same
 refine⟨_,rfl,_,_,_,U,zs am,gn,y,_,rfl,tsk_za TK,D.u.mono g3.mm,tz,h5.mono g3.mm,ly,sy,g3.mh,fun b2 M4 H4 g4 hb2=>⟨_,rfl,?_⟩⟩
 have g34:=g3.trans g4
 cases b2 with
 | false=>
  refine iteT (q false _ _ g34 ⟨fun z=>(by cases z),fun z=>hb2.mpr ⟨ly,z.pos,fun i row a hr' ha=>?_⟩⟩)
  obtain⟨rfl,_⟩:=zs_get ha
  exact z.way row (List.mem_of_getElem? hr')
 | true=>
 have PC:=hb2.mp rfl
 refine iteF ?_
 refine⟨_,rfl,_,rfl,_,_,gn,y,M4,rfl,D.g.mono g34.mm,h5.mono g34.mm,ly,by omega,TK.s.g,sy,g4.mh,fun tv M5 H5 g5 t5=>?_⟩
 obtain⟨s1,s2⟩:=tot20 TK.s.g sy (by omega)
 refine⟨_,_,0,1,_,_,M5,rfl,pT_mk (T.q_NOUGHT M5),t5,nought20,one20,s1,s2,g5.mh,q _ _ _ (g34.trans g5) ?_⟩
 have hgt:=SH.tot_gt (ns:=gn) (x:=y) ly
 constructor
 ·intro z
  have z:=of_decide_eq_true z
  refine⟨PL,ly,PC.pos,fun row hrow=>?_,hgt.mp (by omega)⟩
  obtain⟨j,hj⟩:=List.mem_iff_getElem?.mp hrow
  exact PC.fit j row 0 hj (zs_at (by have:=(List.getElem?_eq_some_iff.mp hj).1; omega))
 ·intro z
  have:=hgt.mpr z.gain
  exact decide_eq_true (by omega)
theorem ok_stands (T:Txt K mg t) (G_best_stands:FnOk P w K mg base (CXE P w) k t.f_best_stands t.d_best_stands ["uses","amounts","gains","plan","prices"] (spBr K)) (G_none_stands:FnOk P w K mg base (CXE P w) k t.f_none_stands t.d_none_stands ["uses","amounts","gains","weights"] (spNr K)) (G_endless_stands:FnOk P w K mg base (CXE P w) k t.f_endless_stands t.d_endless_stands ["uses","amounts","gains","plan","way"] (spEr K)) :
  FnOk P w K mg base (CXE P w) (k+1) t.f_stands t.d_stands ["uses","amounts","gains","answer"] (spSh K):=by
 refine T.F_stands.okE sc_stands (fun vs H Q E h=>?_) (fun cdv A outer s H vs Q E hr h=>?_)
 ·obtain⟨v1,v2,v3,v4,U,am,gn,an,M,rfl,_⟩:=h
  rfl
 obtain⟨v1,v2,v3,v4,U,am,gn,an,M,rfl,TK,D,h4,fi,hM,q⟩:=h
 refine⟨_,(pss_cons (ps_if (pt_cmpR op_eq (pe_ix ix_tup (pv 3) pe_int (fun _ _=>rfl)) pe_str (nomark _))
   (pss_one (ps_ret (pe_call G_best_stands hr rfl T.m_best_stands T.F_best_stands.kp T.b_best_stands .nil pass_no (pa_cons (pv 0) (pa_cons (pv 1) (pa_cons (pv 2) (pa_cons (pe_ix ix_tup (pv 3) pe_int (fun _ _=>rfl)) (pa_cons (pe_ix ix_tup (pv 3) pe_int (fun _ _=>rfl)) pa_nil))))))))
   pss_nil)
  (pss_cons (ps_if (pt_cmpR op_eq (pe_ix ix_tup (pv 3) pe_int (fun _ _=>rfl)) pe_str (nomark _))
   (pss_one (ps_ret (pe_call G_none_stands hr rfl T.m_none_stands T.F_none_stands.kp T.b_none_stands .nil pass_no (pa_cons (pv 0) (pa_cons (pv 1) (pa_cons (pv 2) (pa_cons (pe_ix ix_tup (pv 3) pe_int (fun _ _=>rfl)) pa_nil)))))))
   pss_nil)
  (pss_one (ps_ret (pe_call G_endless_stands hr rfl T.m_endless_stands T.F_endless_stands.kp T.b_endless_stands .nil pass_no (pa_cons (pv 0) (pa_cons (pv 1) (pa_cons (pv 2) (pa_cons (pe_ix ix_tup (pv 3) pe_int (fun _ _=>rfl)) (pa_cons (pe_ix ix_tup (pv 3) pe_int (fun _ _=>rfl)) pa_nil)))))))))),?_⟩
 cases an with
 | best x y=>
  obtain⟨a,vx,vy,rfl,ha,hx,hy⟩:=ans_inv3 h4
  have haH:=hM.tup ha
  refine⟨_,rfl,a,_,_,_,rfl,rfl,haH,atI_nat (j:=0) rfl,rfl,_,rfl,?_⟩
  rw[decide_eq_true rfl]
  refine iteT ?_
  exact⟨_,rfl,_,rfl,_,rfl,_,rfl,a,_,_,_,rfl,rfl,haH,atI_nat (j:=1) rfl,_,rfl,a,_,_,_,rfl,rfl,haH,atI_nat (j:=2) rfl,_,_,_,_,_,U,am,gn,x,y,M,rfl,TK,D,hx,hy,fi.1,fi.2.1,fi.2.2.1,fi.2.2.2,hM,q⟩
 | no y=>
  obtain⟨a,vy,rfl,ha,hy⟩:=ans_inv2 h4
  have haH:=hM.tup ha
  refine⟨_,rfl,a,_,_,_,rfl,rfl,haH,atI_nat (j:=0) rfl,rfl,_,rfl,?_⟩
  rw[nob_ne]
  refine iteF ?_
  refine⟨_,rfl,a,_,_,_,rfl,rfl,haH,atI_nat (j:=0) rfl,rfl,_,rfl,?_⟩
  rw[decide_eq_true rfl]
  refine iteT ?_
  exact⟨_,rfl,_,rfl,_,rfl,_,rfl,a,_,_,_,rfl,rfl,haH,atI_nat (j:=1) rfl,_,_,_,_,U,am,gn,y,M,rfl,TK,D,hy,fi.1,fi.2,hM,q⟩
 | endl x y=>
  obtain⟨a,vx,vy,rfl,ha,hx,hy⟩:=ans_inv3 h4
  have haH:=hM.tup ha
  refine⟨_,rfl,a,_,_,_,rfl,rfl,haH,atI_nat (j:=0) rfl,rfl,_,rfl,?_⟩
  rw[eb_ne]
  refine iteF ?_
  refine⟨_,rfl,a,_,_,_,rfl,rfl,haH,atI_nat (j:=0) rfl,rfl,_,rfl,?_⟩
  rw[ne_ne]
  refine iteF ?_
  exact⟨_,rfl,_,rfl,_,rfl,_,rfl,a,_,_,_,rfl,rfl,haH,atI_nat (j:=1) rfl,_,rfl,a,_,_,_,rfl,rfl,haH,atI_nat (j:=2) rfl,_,_,_,_,_,U,am,gn,x,y,M,rfl,TK,D,hx,hy,fi.1,fi.2.1,fi.2.2.1,fi.2.2.2,hM,q⟩
end
end W1
namespace L2
open PySem PySem.Spec PyProof.Rows
theorem frzL {M H M1 H1:Hp} (g:Gr M H M1 H1) (ls:List Addr) (h:∀ l∈ls,H l=none):Gr M H (fun a=>if a∈ls then H1 a else M1 a) H1:=by
 refine⟨fun b o e=>?_,fun b o e=>?_,g.hn,g.ht,fun p o e m=>?_,fun P t=>?_⟩
 ·show (if b∈ls then H1 b else M1 b)=some o
  split
  ·exact g.mh _ _ (g.mm _ _ e)
  ·exact g.mm _ _ e
 ·have e:(if b∈ls then H1 b else M1 b)=some o:=e
  split at e
  ·exact e
  ·exact g.mh _ _ e
 ·show (if p∈ls then H1 p else M1 p)=none
  rw[if_neg (fun z=>by rw[h p z] at e; cases e)]
  exact g.fr p o e m
 ·obtain⟨_,ps0,hp0,_⟩:=id t
  obtain⟨mp,ps,hp,tr,k⟩:=g.tt P t
  refine⟨?_,ps,hp,tr,k⟩
  show (if P∈ls then H1 P else M1 P)=none
  rw[if_neg (fun z=>by rw[h P z] at hp0; cases hp0)]
  exact mp
theorem ats_str {K:PySem.W.Frag} {M:Hp} {n:Str} {ts:List Tr} {xs:List V} (h:Ats K M (.str n :: ts) xs):∃ ys,xs = .str n :: ys∧Ats K M ts ys:=by
 cases xs with
 | nil=>have:=h.1; simp at this
 | cons x ys=>
  have h0:=h.2 0 _ x rfl rfl
  cases h0.str_inv
  exact⟨ys,rfl,by have:=h.1; simpa using this,fun i t v a b=>h.2 (i+1) t v (by simpa using a) (by simpa using b)⟩
theorem emod_nat (z:Int) {n:Nat} (h:0<n):∃ j:Nat,j<n∧z % (n:Int)=(j:Int):=by
 have h0:=Int.emod_nonneg z (show (n:Int)≠0 by omega)
 have h1:=Int.emod_lt_of_pos z (show (0:Int)<n by omega)
 obtain⟨j,hj⟩:=Int.eq_ofNat_of_zero_le h0
 exact⟨j,by omega,hj⟩
end L2
namespace W1
open PySem PySem.Spec L2
def rListOf (K:PySem.W.Frag):List V→Hp→VK→Prop:=fun xs H Q=>∃ p ys,xs=[.ref p]∧(SqL K H p ys∨SqT K H p ys)∧∀ l,H l=none→Q (.ref l) (upd H l (.lst ys))
def nmA:SH.Ans→Str
 | .best _ _=>"best" | .no _=>"none" | .endl _ _=>"endless"
def psA:SH.Ans→List (List Rat)
 | .best x y=>[x,y] | .no y=>[y] | .endl x y=>[x,y]
theorem ansT_ps (a:SH.Ans):ansT a = .tup (.str (nmA a) :: (psA a).map lnT):=by cases a <;> rfl
def Fit4 (am gn:List Int):SH.Ans→Prop
 | .best x y=>x.length=gn.length∧y.length=am.length∧SH.SmLs 1000 x∧SH.SmLs 1000 y
 | .no y=>y.length=am.length∧SH.SmLs 1000 y
 | .endl x y=>x.length=gn.length∧y.length=gn.length∧SH.SmLs 1000 x∧SH.SmLs 1000 y
theorem fit4 {U:List (List Int)} {am gn:List Int} {a:SH.Ans} (R:SH.Right U am gn a) (s:a.Sm):Fit4 am gn a:=by
 cases a with
 | best x y=>exact⟨R.plan.len,R.len,s.1,s.2⟩
 | no y=>exact⟨R.len,s⟩
 | endl x y=>exact⟨R.plan.len,R.len,s.1,s.2⟩
theorem ps_pos (a:SH.Ans):0<(psA a).length∧(psA a).length≤2:=by cases a <;> simp[psA]
theorem ps_fit {am gn:List Int} {a:SH.Ans} (F:Fit4 am gn a) (hm:am.length≤7) (hn:gn.length≤7) {j:Nat} {x:List Rat} (h:(psA a)[j]? = some x):x.length≤7∧SH.SmLs 1000 x:=by
 cases a with
 | best u v=>
  match j,h with
  | 0,h=>cases h; exact⟨by rw[F.1]; exact hn,F.2.2.1⟩
  | 1,h=>cases h; exact⟨by rw[F.2.1]; exact hm,F.2.2.2⟩
 | no v=>
  match j,h with
  | 0,h=>cases h; exact⟨by rw[F.1]; exact hm,F.2⟩
 | endl u v=>
  match j,h with
  | 0,h=>cases h; exact⟨by rw[F.1]; exact hn,F.2.2.1⟩
  | 1,h=>cases h; exact⟨by rw[F.2.1]; exact hn,F.2.2.2⟩
theorem spoil_fit {am gn:List Int} {a:SH.Ans} (F:Fit4 am gn a) {j:Nat} {x y:List Rat} (h:(psA a)[j]? = some x) (hl:y.length=x.length) (hs:SH.SmLs 1001 y):∃ a',ansT a' = .tup (.str (nmA a) :: ((psA a).set j y).map lnT)∧Fit5 am gn a':=by
 cases a with
 | best u v=>
  match j,h with
  | 0,h=>cases h; exact⟨.best y v,rfl,hl.trans F.1,F.2.1,hs,sm1 F.2.2.2⟩
  | 1,h=>cases h; exact⟨.best u y,rfl,F.1,hl.trans F.2.1,sm1 F.2.2.1,hs⟩
 | no v=>
  match j,h with
  | 0,h=>cases h; exact⟨.no y,rfl,hl.trans F.1,hs⟩
 | endl u v=>
  match j,h with
  | 0,h=>cases h; exact⟨.endl y v,rfl,hl.trans F.1,F.2.1,hs,sm1 F.2.2.2⟩
  | 1,h=>cases h; exact⟨.endl u y,rfl,F.1,hl.trans F.2.1,sm1 F.2.2.1,hs⟩
theorem den_gcd (r:Rat):Int.gcd r.num (r.den:Int)=1:=by
 have:=r.reduced
 unfold Nat.Coprime at this
 show Nat.gcd r.num.natAbs (r.den:Int).natAbs=1
 rw[Int.natAbs_natCast]
 exact this
def upR (r:Rat):Rat:=⟨r.num+(r.den:Int),r.den,r.den_nz,by
 show Nat.gcd (r.num+(r.den:Int)).natAbs r.den=1
 have h:Int.gcd (r.num+(r.den:Int)) (r.den:Int)=1:=by rw[Int.gcd_add_self_left]; exact den_gcd r
 rw[← h]
 show _=Nat.gcd (r.num+(r.den:Int)).natAbs (r.den:Int).natAbs
 rw[Int.natAbs_natCast]⟩
def dnR (r:Rat):Rat:=⟨r.num+(0-(r.den:Int)),r.den,r.den_nz,by
 show Nat.gcd (r.num+(0-(r.den:Int))).natAbs r.den=1
 have h:Int.gcd (r.num+(0-(r.den:Int))) (r.den:Int)=1:=by rw[show r.num+(0-(r.den:Int))=r.num-(r.den:Int) by omega,Int.gcd_sub_self_left]; exact den_gcd r
 rw[← h]
 show _=Nat.gcd (r.num+(0-(r.den:Int))).natAbs (r.den:Int).natAbs
 rw[Int.natAbs_natCast]⟩
theorem two1000:(2:Nat) ^ 1001=2 ^ 1000+2 ^ 1000:=by rw[Nat.pow_succ]; omega
theorem upR_sm {r:Rat} (h:FM.Sm 1000 r):FM.Sm 1001 (upR r):=by
 have h1:=h.1
 have h2:=h.2
 refine⟨?_,?_⟩
 ·show (r.num+(r.den:Int)).natAbs<2 ^ 1001
  rw[two1000]
  generalize 2 ^ 1000=N at *
  omega
 ·show r.den<2 ^ 1001
  rw[two1000]
  generalize 2 ^ 1000=N at *
  omega
theorem dnR_sm {r:Rat} (h:FM.Sm 1000 r):FM.Sm 1001 (dnR r):=by
 have h1:=h.1
 have h2:=h.2
 refine⟨?_,?_⟩
 ·show (r.num+(0-(r.den:Int))).natAbs<2 ^ 1001
  rw[two1000]
  generalize 2 ^ 1000=N at *
  omega
 ·show r.den<2 ^ 1001
  rw[two1000]
  generalize 2 ^ 1000=N at *
  omega
theorem int_sm {z:Int} (h:z.natAbs<2 ^ 64):FM.Sm 1001 (z:Rat):=by
 refine⟨?_,?_⟩
 ·rw[Rat.num_intCast]; exact FM.lt_mono h (by decide)
 ·rw[Rat.den_intCast]; exact Nat.one_lt_two_pow (by decide)
theorem set_sm {x:List Rat} (h:SH.SmLs 1000 x) {p:Nat} {r:Rat} (hr:FM.Sm 1001 r):SH.SmLs 1001 (x.set p r):=fun a ha=>by
 rcases List.mem_or_eq_of_mem_set ha with z | z
 ·exact sm1 h a z
 ·rw[z]; exact hr
def Gives (K:PySem.W.Frag) (am gn:List Int) (M H:Hp) (Q:VK):Prop:=∀ (a':SH.Ans) (v':V) (M' H':Hp),Gr M H M' H'→Fit5 am gn a'→At K M' (ansT a') v'→Q v' H'
def spSpoil (K:PySem.W.Frag):Sp:=fun vs H Q _=>∃ (v:V) (sp wy:Int) (am gn:List Int) (a:SH.Ans) (M:Hp),vs=[v,.int sp,.int wy]∧am.length≤7∧gn.length≤7∧At K M (ansT a) v∧Fit4 am gn a∧0≤wy∧wy≤4∧Same M H∧Gives K am gn M H Q
section
variable {P:Program} {w:World} {K:PySem.W.Frag} {mg:Str→Option Value} {base:Heap} {t:Adr} {k:Nat}
theorem spoil_end {M H M3 H3:Hp} {am gn:List Int} {an:SH.Ans} (F:Fit4 am gn an) {ys:List V} (aty:Ats K M ((psA an).map lnT) ys) {ls:List Addr} {y:Addr} (lsn:ls.length=ys.length) (hls:∀ l∈ls,H l=none) {j:Nat} {x x':List Rat} {zs':List V} {l:Addr} (hx:(psA an)[j]? = some x) (hlj:ls[j]? = some l)
  (g:Gr M H M3 H3) (oth:∀ (i:Nat) l,ls[i]? = some l→i≠j→∃ b zs,ys[i]? = some (.ref b)∧M b=some (.lst zs)∧H3 l=some (.lst zs)) (hl:H3 l=some (.lst zs')) (ats:Ats K M3 (x'.map frT) zs') (hlen:x'.length=x.length) (hsm:SH.SmLs 1001 x')
  {p1 p2 p3:Addr} {o1 o2:HO} (h1:H3 p1=none) (h2:upd H3 p1 o1 p2=none) (h3:upd (upd H3 p1 o1) p2 o2 p3=none) :
  ∃ a' M',Gr M H M' (upd (upd (upd H3 p1 o1) p2 o2) p3 (.tup (.str (nmA an) :: ls.map V.ref)))∧Fit5 am gn a'∧At K M' (ansT a') (.ref p3):=by
 obtain⟨a',e,f⟩:=spoil_fit F hx hlen hsm
 have g4:=((frzL g ls hls).new h1 (o:=o1)).new h2 (o:=o2)
 have g5:=g4.add (o:=.tup (.str (nmA an) :: ls.map V.ref)) h3
 refine⟨a',_,g5,f,?_⟩
 rw[e]
 have s:Same (fun a=>if a∈ls then H3 a else M3 a) _:=same_new (g4.mh.free h3) (.tup (.str (nmA an) :: ls.map V.ref))
 refine Ats.tup (xs:=.str (nmA an) :: ls.map V.ref) (Ats.cons .str ?_) (SqT.of upd_same)
 refine Ats.mono s ?_
 have hal:=aty.1
 rw[List.length_map] at hal
 refine⟨by rw[List.length_map,List.length_set,List.length_map]; omega,fun i tr v ht hv=>?_⟩
 rw[List.getElem?_map] at ht hv
 cases el:ls[i]? with
 | none=>rw[el] at hv; cases hv
 | some li=>
  rw[el] at hv
  cases hv
  have hin:li∈ls:=List.mem_of_getElem? el
  cases es:((psA an).set j x')[i]? with
  | none=>rw[es] at ht; cases ht
  | some xi=>
   rw[es] at ht
   cases ht
   rcases SH.get_set es with⟨e1,e2⟩ | ⟨e1,e2⟩
   ·subst e1 e2
    rw[hlj] at el
    cases el
    refine Ats.lst (xs:=zs') (ats.mono ?_) (show (if l∈ls then H3 l else M3 l)=_ by rw[if_pos hin]; exact hl)
    exact fun b o e=>by
     show (if b∈ls then H3 b else M3 b)=some o
     split
     ·exact g.mh _ _ e
     ·exact e
   ·obtain⟨b,zs,hb,hM,hH⟩:=oth i li el e1
    have at1:=aty.2 i (lnT xi) (.ref b) (by rw[List.getElem?_map,e2]; rfl) hb
    obtain⟨_,xs,e3,hb2,a2⟩:=at1.lst_inv
    cases e3
    rw[hM] at hb2
    cases hb2
    exact Ats.lst (a2.mono (frzL g ls hls).mm) (show (if li∈ls then H3 li else M3 li)=_ by rw[if_pos hin]; exact hH)
set_option maxHeartbeats 4000000 in
theorem ok_Lspoilt (T:Txt K mg t):FnOk P w K mg base (CXE P w) (k+1) t.f_Lspoilt t.d_Lspoilt ["_law_found","_law_spot","_law_way"] (spSpoil K):=by
 refine T.F_Lspoilt.okE sc_Lspoilt (fun vs H Q E h=>?_) (fun cdv A outer s H vs Q E hr h=>?_)
 ·obtain⟨v,sp,wy,am,gn,a,M,rfl,_⟩:=h
  rfl
 obtain⟨v,sp,wy,am,gn,an,M,rfl,hm,hn,h1,F4,w0,w4,hM,q⟩:=h
 rw[ansT_ps] at h1
 obtain⟨pa,xs,rfl,hpa,ats⟩:=h1.tup_inv
 obtain⟨ys,rfl,aty⟩:=ats_str ats
 obtain⟨psp,ps2⟩:=ps_pos an
 have hyl:ys.length=(psA an).length:=by have:=aty.1; simp at this; omega
 refine⟨_,(pss_cons (ps_compG (iy:=3) sc_Lspoilt.nd rfl (Or.inl rfl) rfl (compt_of (n:=1) (js:=[]) (Nb:=["_law_row"]) (by kernel_rfl) rfl (by decide +kernel) (by decide) (by kernel_rfl)) (pi_tup (pe_slice sl_tup (pv 0) (po_some pe_int) po_none)) (fun C s0 H0 fp pn'=>(pg_name (i:=0) (nd_of (l:=["_law_row"]) (by decide +kernel)) rfl (Or.inl rfl))) own_name (fun C s0 H0 fp pn'=>pts_none) (fun C s0 H0 fp pn'=>(pe_callTy (r:=rListOf K) call_list_of rfl T.n_list bt_list (pa_cons (pv 0) pa_nil))))
  (pss_cons (ps_set (i:=4) sc_Lspoilt.nd rfl (Or.inl rfl) (pe_ix ix_list (pv 3) (pe_op op_mod (pv 1) (pe_callB call_len_seq rfl T.n_len PySem.boot_len (pa_cons (pv 3) pa_nil))) (fun _ _=>rfl)))
  (pss_cons (ps_if (pt_cmpR op_neL (pv 4) (pe_lst pa_nil) (nomark _))
   (pss_cons (ps_set (i:=5) sc_Lspoilt.nd rfl (Or.inl rfl) (pe_op op_mod (pe_op op_fdivB (pv 1) pe_int) (pe_callB call_len_seq rfl T.n_len PySem.boot_len (pa_cons (pv 4) pa_nil))))
  (pss_cons (ps_asg (pe_ix ix_list (pv 4) (pv 5) (fun _ _=>rfl)) (pg_tup (n:=2) rfl (pgs_cons (pg_name (i:=6) sc_Lspoilt.nd rfl (Or.inl rfl)) (pgs_cons (pg_name (i:=7) sc_Lspoilt.nd rfl (Or.inl rfl)) pgs_nil))))
  (pss_cons (ps_asg (pe_ix ix_list (pe_lst (pa_cons (pe_tup (pa_cons pe_int (pa_cons pe_int pa_nil))) (pa_cons (pe_tup (pa_cons (pe_un un_neg pe_int) (pa_cons pe_int pa_nil))) (pa_cons (pe_tup (pa_cons pe_int (pa_cons pe_int pa_nil))) (pa_cons (pe_tup (pa_cons (pv 6) (pa_cons (pv 7) pa_nil))) pa_nil))))) (pe_op op_mod (pe_callB (call_max2 rfl) rfl T.n_max boot_maxB (pa_cons pe_int (pa_cons (pe_op op_sub (pv 2) pe_int) pa_nil))) pe_int) (fun _ _=>rfl)) (pg_sub (pv 4) (pv 5) set_list))
  (pss_one (ps_if (pt_cmpR op_lt (pv 2) pe_int (nomark _))
   (pss_one (ps_asg (pe_tup (pa_cons (pe_op op_add (pv 6) (pe_ix ix_list (pe_lst (pa_cons (pv 7) (pa_cons (pe_op op_sub pe_int (pv 7)) pa_nil))) (pv 2) (fun _ _=>rfl))) (pa_cons (pv 7) pa_nil))) (pg_sub (pv 4) (pv 5) set_list)))
   pss_nil)))))
   pss_nil)
  (pss_one (ps_ret (pe_callTy call_tuple_of rfl T.n_tuple bt_tuple (pa_cons (pe_op op_cat (pe_lst (pa_cons (pe_ix ix_tup (pv 0) pe_int (fun _ _=>rfl)) pa_nil)) (pv 3)) pa_nil))))))),?_⟩
 have big:∀ {n:Nat},n≤1000→n≤sizeLine:=fun h=>Nat.le_of_lt (small1000 h)
 refine⟨_,rfl,_,rfl,pa,_,rfl,hM.tup hpa,cut_1no,fun sl hsl=>?_⟩
 rw[cut_1]
 have g0:Gr M H (upd M sl (.tup ys)) (upd H sl (.tup ys)):=(Gr.refl hM).add hsl
 have hs0:SqT K (upd M sl (.tup ys)) sl ys:=SqT.of upd_same
 generalize upd M sl (.tup ys)=M0 at g0 hs0
 generalize upd H sl (.tup ys)=H0 at g0 ⊢
 have hx0:∀ (j:Nat) v,ys[j]? = some v→∃ b zs,v = .ref b∧M b=some (.lst zs):=fun j v hv=>by
  obtain⟨tr,ht,atr⟩:=aty.get' hv
  rw[List.getElem?_map] at ht
  cases e:(psA an)[j]? with
  | none=>rw[e] at ht; cases ht
  | some x=>
   rw[e] at ht
   cases ht
   obtain⟨b,zs,rfl,hb,_⟩:=atr.lst_inv
   exact⟨b,zs,rfl,hb⟩
 refine⟨sl,rfl,⟨_,g0.mh.tup hs0⟩,fun y hy=>ct_copy (K:=K) (M:=M0) g0.mh hs0 (by omega) hy (fun j v hv=>by obtain⟨b,zs,e,hb⟩:=hx0 j v hv; exact⟨b,zs,e,g0.mm _ _ hb⟩) (fun b zs Hb Qy hb gb kk=>⟨_,rfl,b,_,rfl,.inl (SqL.of (gb.mh _ _ hb)),kk⟩) (fun ls H2 g2 hll hy2 C=>?_)⟩
 have hy0:H y=none:=g0.hfree hy
 have g02:=g0.trans g2
 have lsfree:∀ l∈ls,H l=none:=fun l hl=>by
  obtain⟨i,hi⟩:=List.mem_iff_getElem?.mp hl
  exact g0.hfree (C.at_ i l hi).1
 have ml:(ls.map V.ref).length=ls.length:=List.length_map _
 obtain⟨j,hj,ej⟩:=emod_nat sp (n:=(ls.map V.ref).length) (by omega)
 have hlj:=List.getElem?_eq_getElem (show j<ls.length by omega)
 generalize ls[j]'(by omega)=l at hlj
 have hvj:atI (ls.map V.ref) (sp % (((ls.map V.ref).length:Nat):Int))=some (.ref l):=by
  rw[ej]
  exact atI_nat (show (ls.map V.ref)[j]? = some (.ref l) by rw[List.getElem?_map,hlj]; rfl)
 refine⟨_,rfl,_,rfl,_,rfl,y,_,rfl,.inl (SqL.of hy2),_,_,rfl,rfl,by omega,y,_,_,_,rfl,rfl,SqL.of hy2,hvj,?_⟩
 obtain⟨hl1,hly,b,zs,hyj,hb,hl2⟩:=C.at_ j l hlj
 have hx:=List.getElem?_eq_getElem (show j<(psA an).length by omega)
 generalize (psA an)[j]'(by omega)=x at hx
 obtain⟨x7,xsm⟩:=ps_fit F4 hm hn hx
 have atx:Ats K M (x.map frT) zs:=by
  have at1:=aty.2 j (lnT x) (.ref b) (by rw[List.getElem?_map,hx]; rfl) hyj
  obtain⟨_,xs,e3,hb2,a2⟩:=at1.lst_inv
  cases e3
  rw[g0.mm _ _ hb2] at hb
  cases hb
  exact a2
 have hzl:zs.length=x.length:=by have:=atx.1; simp at this; omega
 have oth:∀ (i:Nat) l,ls[i]? = some l→i≠j→∃ b zs,ys[i]? = some (.ref b)∧M b=some (.lst zs)∧H2 l=some (.lst zs):=fun i l' hi hne=>by
  obtain⟨_,_,b',zs',c3,c4,c5⟩:=C.at_ i l' hi
  obtain⟨b2,zs2,e,hb2⟩:=hx0 i _ c3
  cases e
  rw[g0.mm _ _ hb2] at c4
  cases c4
  exact⟨b',_,c3,hb2,c5⟩
 have lne:∀ (i:Nat) l',ls[i]? = some l'→i≠j→l'≠l:=fun i l' hi hne e=>hne (C.inj i j l (e▸hi) hlj)
 have hl0:H l=none:=g0.hfree hl1
 have mlz:M0 l=none:=g0.mh.free hl1
 clear C hl1
 refine⟨_,rfl,big (by show 0≤1000; decide),fun p hp=>?_⟩
 have g3:Gr M H M0 (upd H2 p (.lst [])):=g02.new hp
 have k3:∀ {c:Addr} {o:HO},H2 c=some o→upd H2 p (.lst []) c=some o:=fun e=>by rw[upd_ne (ne_of_none e hp)]; exact e
 refine⟨l,p,zs,rfl,rfl,SqL.of (k3 hl2),SqL.of upd_same,hr.units0,_,rfl,?_⟩
 have hy3:=k3 hy2
 have hl3:=k3 hl2
 have oth3:∀ (i:Nat) l,ls[i]? = some l→i≠j→∃ b zs,ys[i]? = some (.ref b)∧M b=some (.lst zs)∧upd H2 p (.lst []) l=some (.lst zs):=fun i l' hi hne=>by
  obtain⟨b,zs,c1,c2,c3⟩:=oth i l' hi hne
  exact⟨b,zs,c1,c2,k3 c3⟩
 generalize upd H2 p (.lst [])=H3 at g3 hy3 hl3 oth3 ⊢
 clear k3 oth hl2 hy2 g2 g02 hp
 cases zs with
 | nil=>
  refine iteF ?_
  refine⟨_,rfl,pa,_,_,_,rfl,rfl,g3.htup (hM.tup hpa),atI_nat (j:=0) rfl,big (by show 1≤1000; decide),fun p1 hp1=>?_⟩
  refine⟨_,rfl,p1,y,_,_,rfl,rfl,upd_same,by rw[upd_ne (ne_of_none hy3 hp1)]; exact hy3,big (by simp; omega),fun p2 hp2=>?_⟩
  refine⟨p2,_,rfl,.inl ⟨SqL.of upd_same,fun p3 hp3=>?_⟩⟩
  have x0:x.length=x.length:=rfl
  obtain⟨a',M',gf,ff,af⟩:=spoil_end F4 aty (y:=y) (by omega) lsfree hx hlj g3 oth3 hl3 (atx.mono g3.mm) rfl (sm1 xsm) hp1 hp2 hp3
  exact q a' _ M' _ gf ff af
 | cons z0 zr=>
  refine iteT ?_
  have hpos:0<(z0 :: zr).length:=by simp
  generalize hzz:(z0 :: zr)=zs at *
  obtain⟨pl,hpl,epl⟩:=emod_nat (sp.fdiv 2) hpos
  have hr0:=List.getElem?_eq_getElem (show pl<x.length by omega)
  generalize x[pl]'(by omega)=r at hr0
  have rsm:=xsm r (List.mem_of_getElem? hr0)
  obtain⟨zv,hzv,atz⟩:=ln_get atx hr0
  obtain⟨pz,rfl,hpz⟩:=fr_inv atz
  have hat:atI zs (sp.fdiv 2 % ((zs.length:Nat):Int))=some (.ref pz):=by rw[epl]; exact atI_nat hzv
  have hix:∀ {us:List V},us.length=zs.length→ixN us.length (sp.fdiv 2 % ((zs.length:Nat):Int))=some pl:=fun e=>by rw[epl]; exact ix_nat (by omega)
  refine⟨_,rfl,_,_,rfl,rfl,⟨by decide,lt9000 (by decide)⟩,_,rfl,l,_,rfl,.inl (SqL.of hl3),_,_,rfl,rfl,by omega,?_⟩
  refine⟨_,rfl,_,rfl,l,_,_,_,rfl,rfl,SqL.of hl3,hat,pz,_,rfl,g3.mh.tup (g3.mm.tup hpz),rfl,_,_,rfl,_,_,rfl,rfl,?_⟩
  refine⟨two_ok,fun t1 ht1=>?_⟩
  have d1:Gr M0 H3 (upd M0 t1 (.tup [.int 0,.int 1])) (upd H3 t1 (.tup [.int 0,.int 1])):=(Gr.refl g3.mh).add ht1
  have a1:At K (upd M0 t1 (.tup [.int 0,.int 1])) (frT ((0:Int):Rat)) (.ref t1):=by rw[frT_int]; exact pT_mk (SqT.of upd_same)
  generalize upd M0 t1 (.tup [.int 0,.int 1])=M4 at a1 d1
  generalize upd H3 t1 (.tup [.int 0,.int 1])=H4 at d1 ⊢
  refine⟨_,rfl,two_ok,fun t2 ht2=>?_⟩
  have d2:Gr M0 H3 (upd M4 t2 (.tup [.int (-1),.int 1])) (upd H4 t2 (.tup [.int (-1),.int 1])):=d1.add ht2
  have a2:At K (upd M4 t2 (.tup [.int (-1),.int 1])) (frT ((-1:Int):Rat)) (.ref t2):=by rw[frT_int]; exact pT_mk (SqT.of upd_same)
  have s2:Same M4 (upd M4 t2 (.tup [.int (-1),.int 1])):=same_new (d1.mh.free ht2) _
  replace a1:=a1.mono s2
  generalize upd M4 t2 (.tup [.int (-1),.int 1])=M5 at a1 a2 d2
  generalize upd H4 t2 (.tup [.int (-1),.int 1])=H5 at d2 ⊢
  refine⟨two_ok,fun t3 ht3=>?_⟩
  have d3:Gr M0 H3 (upd M5 t3 (.tup [.int 1000000000000,.int 1])) (upd H5 t3 (.tup [.int 1000000000000,.int 1])):=d2.add ht3
  have a3:At K (upd M5 t3 (.tup [.int 1000000000000,.int 1])) (frT ((1000000000000:Int):Rat)) (.ref t3):=by rw[frT_int]; exact pT_mk (SqT.of upd_same)
  have s3:Same M5 (upd M5 t3 (.tup [.int 1000000000000,.int 1])):=same_new (d2.mh.free ht3) _
  replace a1:=a1.mono s3
  replace a2:=a2.mono s3
  generalize upd M5 t3 (.tup [.int 1000000000000,.int 1])=M6 at a1 a2 a3 d3
  generalize upd H5 t3 (.tup [.int 1000000000000,.int 1])=H6 at d3 ⊢
  refine⟨_,rfl,_,rfl,two_ok,fun t4 ht4=>?_⟩
  have d4:Gr M0 H3 (upd M6 t4 (.tup [.int r.num,.int (r.den:Int)])) (upd H6 t4 (.tup [.int r.num,.int (r.den:Int)])):=d3.add ht4
  have a4:At K (upd M6 t4 (.tup [.int r.num,.int (r.den:Int)])) (frT r) (.ref t4):=pT_mk (SqT.of upd_same)
  have s4:Same M6 (upd M6 t4 (.tup [.int r.num,.int (r.den:Int)])):=same_new (d3.mh.free ht4) _
  replace a1:=a1.mono s4
  replace a2:=a2.mono s4
  replace a3:=a3.mono s4
  generalize upd M6 t4 (.tup [.int r.num,.int (r.den:Int)])=M7 at a1 a2 a3 a4 d4
  generalize upd H6 t4 (.tup [.int r.num,.int (r.den:Int)])=H7 at d4 ⊢
  refine⟨big (by show 4≤1000; decide),fun lq hlq=>?_⟩
  have d5:Gr M0 H3 M7 (upd H7 lq (.lst [.ref t1,.ref t2,.ref t3,.ref t4])):=d4.new hlq
  have hq5:upd H7 lq (.lst [.ref t1,.ref t2,.ref t3,.ref t4]) lq=some (.lst [.ref t1,.ref t2,.ref t3,.ref t4]):=upd_same
  generalize upd H7 lq (.lst [.ref t1,.ref t2,.ref t3,.ref t4])=H8 at d5 hq5 ⊢
  obtain⟨tt,r',hmenu,art,rsm'⟩:∃ (tt:Addr) (r':Rat),atI [V.ref t1,.ref t2,.ref t3,.ref t4] ((if wy-2 > 0 then wy-2 else 0) % 4)=some (.ref tt)∧At K M7 (frT r') (.ref tt)∧FM.Sm 1001 r':=by
   obtain⟨c,hc,ec⟩:=emod_nat (if wy-2 > 0 then wy-2 else 0) (n:=4) (by decide)
   have ec:(if wy-2 > 0 then wy-2 else 0) % 4=(c:Int):=ec
   rw[ec]
   match c,hc with
   | 0,_=>exact⟨t1,_,rfl,a1,int_sm (by decide)⟩
   | 1,_=>exact⟨t2,_,rfl,a2,int_sm (by decide)⟩
   | 2,_=>exact⟨t3,_,rfl,a3,int_sm (by decide)⟩
   | 3,_=>exact⟨t4,_,rfl,a4,sm_mono rsm (by decide)⟩
  have hl8:=d5.hh _ _ hl3
  have hy8:=d5.hh _ _ hy3
  have m7:M7 l=none:=d5.fr _ _ hl3 mlz
  have g8:=g3.trans d5
  refine⟨_,rfl,_,_,rfl,rfl,_,_,rfl,_,_,rfl,rfl,z4,lq,_,_,_,rfl,rfl,SqL.of hq5,hmenu,?_⟩
  refine⟨_,rfl,_,rfl,l,zs,_,pl,rfl,rfl,hl8,hix rfl,?_⟩
  have g9:Gr M H M7 (upd H8 l (.lst (zs.set pl (.ref tt)))):=g8.put hl0 m7 hl8
  have hl9:upd H8 l (.lst (zs.set pl (.ref tt))) l=some (.lst (zs.set pl (.ref tt))):=upd_same
  have hy9:upd H8 l (.lst (zs.set pl (.ref tt))) y=some (.lst (ls.map V.ref)):=by rw[upd_ne hly.symm]; exact hy8
  have oth9:∀ (i:Nat) l',ls[i]? = some l'→i≠j→∃ b zs1,ys[i]? = some (.ref b)∧M b=some (.lst zs1)∧upd H8 l (.lst (zs.set pl (.ref tt))) l'=some (.lst zs1):=fun i l' hi hne=>by
   obtain⟨b,zs1,c1,c2,c3⟩:=oth3 i l' hi hne
   exact⟨b,zs1,c1,c2,by rw[upd_ne (lne i l' hi hne)]; exact d5.hh _ _ c3⟩
  generalize upd H8 l (.lst (zs.set pl (.ref tt)))=H9 at g9 hl9 hy9 oth9 ⊢
  have at9:Ats K M7 ((x.set pl r').map frT) (zs.set pl (.ref tt)):=by
   rw[List.map_set]
   exact (atx.mono g9.mm).set art pl
  refine⟨_,rfl,_,_,rfl,rfl,_,rfl,?_⟩
  refine ite2 (fun c1=>?_) (fun c1=>?_)
  ·have c1:=of_decide_eq_true c1
   refine⟨_,rfl,_,rfl,_,rfl,_,_,rfl,rfl,big (by show 2≤1000; decide),fun lb hlb=>?_⟩
   have f1:Gr M H M7 (upd H9 lb (.lst [.int (r.den:Int),.int (0-(r.den:Int))])):=g9.new hlb
   have e1:Gr M7 H9 M7 (upd H9 lb (.lst [.int (r.den:Int),.int (0-(r.den:Int))])):=(Gr.refl g9.mh).new hlb
   have hb1:upd H9 lb (.lst [.int (r.den:Int),.int (0-(r.den:Int))]) lb=some (.lst [.int (r.den:Int),.int (0-(r.den:Int))]):=upd_same
   generalize upd H9 lb (.lst [.int (r.den:Int),.int (0-(r.den:Int))])=Ha at f1 e1 hb1 ⊢
   obtain⟨d,r2,hd,er,rs2⟩:∃ (d:Int) (r2:Rat),atI [V.int (r.den:Int),.int (0-(r.den:Int))] wy=some (.int d)∧frT r2=pT (r.num+d) (r.den:Int)∧FM.Sm 1001 r2:=by
    rcases (show wy=0∨wy=1 by omega) with rfl | rfl
    ·exact⟨_,upR r,rfl,rfl,upR_sm rsm⟩
    ·exact⟨_,dnR r,rfl,rfl,dnR_sm rsm⟩
   refine⟨_,rfl,lb,_,_,_,rfl,rfl,SqL.of hb1,hd,_,_,rfl,rfl,_,rfl,two_ok,fun t5 ht5=>?_⟩
   have f2:Gr M H (upd M7 t5 (.tup [.int (r.num+d),.int (r.den:Int)])) (upd Ha t5 (.tup [.int (r.num+d),.int (r.den:Int)])):=f1.add ht5
   have e2:Gr M7 H9 (upd M7 t5 (.tup [.int (r.num+d),.int (r.den:Int)])) (upd Ha t5 (.tup [.int (r.num+d),.int (r.den:Int)])):=e1.add ht5
   have a5:At K (upd M7 t5 (.tup [.int (r.num+d),.int (r.den:Int)])) (frT r2) (.ref t5):=by rw[er]; exact pT_mk (SqT.of upd_same)
   generalize upd M7 t5 (.tup [.int (r.num+d),.int (r.den:Int)])=M8 at f2 e2 a5
   generalize upd Ha t5 (.tup [.int (r.num+d),.int (r.den:Int)])=Hb at f2 e2 ⊢
   have hlb:=e2.hh _ _ hl9
   have hyb:=e2.hh _ _ hy9
   have m8:M8 l=none:=e2.fr _ _ hl9 m7
   refine⟨_,rfl,_,rfl,l,zs.set pl (.ref tt),_,pl,rfl,rfl,hlb,hix (by simp),?_⟩
   have gc:Gr M H M8 (upd Hb l (.lst ((zs.set pl (.ref tt)).set pl (.ref t5)))):=f2.put hl0 m8 hlb
   have hlc:upd Hb l (.lst ((zs.set pl (.ref tt)).set pl (.ref t5))) l=some (.lst ((zs.set pl (.ref tt)).set pl (.ref t5))):=upd_same
   have hyc:upd Hb l (.lst ((zs.set pl (.ref tt)).set pl (.ref t5))) y=some (.lst (ls.map V.ref)):=by rw[upd_ne hly.symm]; exact hyb
   have othc:∀ (i:Nat) l',ls[i]? = some l'→i≠j→∃ b zs1,ys[i]? = some (.ref b)∧M b=some (.lst zs1)∧upd Hb l (.lst ((zs.set pl (.ref tt)).set pl (.ref t5))) l'=some (.lst zs1):=fun i l' hi hne=>by
    obtain⟨b,zs1,c1,c2,c3⟩:=oth9 i l' hi hne
    exact⟨b,zs1,c1,c2,by rw[upd_ne (lne i l' hi hne)]; exact e2.hh _ _ c3⟩
   generalize upd Hb l (.lst ((zs.set pl (.ref tt)).set pl (.ref t5)))=Hc at gc hlc hyc othc ⊢
   have atc:Ats K M8 (((x.set pl r').set pl r2).map frT) ((zs.set pl (.ref tt)).set pl (.ref t5)):=by
    rw[List.map_set]
    exact (at9.mono e2.mm).set a5 pl
   have atc2:Ats K M8 ((x.set pl r2).map frT) ((zs.set pl (.ref tt)).set pl (.ref t5)):=by rw[List.set_set] at atc; exact atc
   refine⟨_,rfl,pa,_,_,_,rfl,rfl,gc.htup (hM.tup hpa),atI_nat (j:=0) rfl,big (by show 1≤1000; decide),fun p1 hp1=>?_⟩
   refine⟨_,rfl,p1,y,_,_,rfl,rfl,upd_same,by rw[upd_ne (ne_of_none hyc hp1)]; exact hyc,big (by simp; omega),fun p2 hp2=>?_⟩
   refine⟨p2,_,rfl,.inl ⟨SqL.of upd_same,fun p3 hp3=>?_⟩⟩
   obtain⟨a',M',gf,ff,af⟩:=spoil_end F4 aty (y:=y) (by omega) lsfree hx hlj gc othc hlc atc2 (by simp) (set_sm xsm rs2) hp1 hp2 hp3
   exact q a' _ M' _ gf ff af
  ·refine⟨_,rfl,pa,_,_,_,rfl,rfl,g9.htup (hM.tup hpa),atI_nat (j:=0) rfl,big (by show 1≤1000; decide),fun p1 hp1=>?_⟩
   refine⟨_,rfl,p1,y,_,_,rfl,rfl,upd_same,by rw[upd_ne (ne_of_none hy9 hp1)]; exact hy9,big (by simp; omega),fun p2 hp2=>?_⟩
   refine⟨p2,_,rfl,.inl ⟨SqL.of upd_same,fun p3 hp3=>?_⟩⟩
   obtain⟨a',M',gf,ff,af⟩:=spoil_end F4 aty (y:=y) (by omega) lsfree hx hlj g9 oth9 hl9 at9 (by simp) (set_sm xsm rsm') hp1 hp2 hp3
   exact q a' _ M' _ gf ff af
end
end W1
namespace W1
open PySem PySem.Spec L2
theorem ex_cons {X:Cx} {st:Stmt} {rest:List Stmt} {t:TS} {Φ:TS→Prop} (h1:PS X st t) (h2:∃ u,PSs X rest u∧Φ (tSeq t u)):∃ u,PSs X (st :: rest) u∧Φ u:=by
 obtain⟨u,h,q⟩:=h2
 exact⟨_,pss_cons h1 h,q⟩
theorem ex_one {X:Cx} {st:Stmt} {t:TS} {Φ:TS→Prop} (h1:PS X st t) (h2:Φ t):∃ u,PSs X [st] u∧Φ u:=⟨t,pss_one h1,h2⟩
theorem ex_tail {X:Cx} {sts:List Stmt} {C:TS→Prop} {Φ:TS→Prop} (h:∃ u,PSs X sts u∧C u) (k:∀ u,C u→Φ u):∃ u,PSs X sts u∧Φ u:=by
 obtain⟨u,p,c⟩:=h
 exact⟨u,p,k u c⟩
theorem big1000 {n:Nat} (h:n≤1000):n≤sizeLine:=Nat.le_of_lt (small1000 h)
theorem z2:(0:Int)<2:=by decide
abbrev zr (n:Nat):List Rat:=List.replicate n ((0:Int):Rat)
theorem zr_sm (n:Nat):SH.SmLs 1001 (zr n):=fun a ha=>by rw[List.eq_of_mem_replicate ha]; exact int_sm (by decide)
theorem flat1 {α:Type} (n:Nat) (x:α):(List.replicate n [x]).flatten=List.replicate n x:=by
 induction n with
 | zero=>rfl
 | succ n ih=>rw[List.replicate_succ,List.flatten_cons,ih]; rfl
section
variable {P:Program} {w:World} {K:PySem.W.Frag} {mg:Str→Option Value} {base:Heap} {t:Adr} {k:Nat}
theorem rep_ats {M:Hp} {r:Rat} {v:V} (h:At K M (frT r) v) (n:Nat):Ats K M ((List.replicate n r).map frT) (List.replicate n v):=by
 rw[List.map_replicate]
 refine⟨by simp,fun i a b ha hb=>?_⟩
 rw[List.eq_of_mem_replicate (List.mem_of_getElem? ha),List.eq_of_mem_replicate (List.mem_of_getElem? hb)]
 exact h
theorem repI_ats {M:Hp} (z:Int) (n:Nat):Ats K M ((List.replicate n z).map Tr.int) (List.replicate n (V.int z)):=by
 have:=Ats.ints (K:=K) (M:=M) (List.replicate n z)
 rw[show (List.replicate n z).map V.int=List.replicate n (V.int z) by rw[List.map_replicate]] at this
 exact this
end
def spOther (K:PySem.W.Frag):Sp:=fun vs H Q _=>∃ (a:Addr) (ns am gn:List Int) (M:Hp),vs=[.ref a,.int (gn.length:Nat),.int (am.length:Nat)]∧SqL K H a (ns.map V.int)∧ns.length≤63∧am.length≤7∧gn.length≤7∧Same M H∧Gives K am gn M H Q
section
variable {P:Program} {w:World} {K:PySem.W.Frag} {mg:Str→Option Value} {base:Heap} {t:Adr} {k:Nat}
set_option maxHeartbeats 4000000 in
theorem other_T (T:Txt K mg t) (G_Lat:FnOk P w K mg base (CXE P w) k t.f_Lat t.d_Lat ["_law_script","_law_k"] (spAt K))
  {cdv:Value} {A0:Around} {outer:List Env} {s:Shared} {H:Hp} {E:XK} (hr:Room k (A0.deeper (PyProof.Rows.envOfC "_law_other_form" (defScope s_Lother_form) s.heap.objs.size t.f_Lother_form cdv))) {a:Addr} {ns am gn:List Int} (hS:SqL K H a (ns.map V.int)) (h63:ns.length≤63) (hm:am.length≤7) (hn:gn.length≤7) {M:Hp}:∃ u,PSs (cxOf (CXE P w) P w K mg base ["_law_script","_law_wares","_law_stocks","_law_cells","_law_way"] "_law_other_form" (defScope s_Lother_form) t.f_Lother_form cdv A0 outer s H E) ((defBody s_Lother_form).drop 2) u ∧
   ∀ (D:Ends),Gives K am gn M H D.rt→∀ (C:List Rat) (vC:V) (M1 H1:Hp),C.length=7→SH.SmLs 1001 C→Gr M H M1 H1→At K M1 (lnT C) vC→u D [some (.ref a),some (.int (gn.length:Nat)),some (.int (am.length:Nat)),some vC,none] H1:=by
 refine ex_cons (ps_set (i:=4) sc_Lother_form.nd rfl (Or.inl rfl) (pe_op op_mod (pe_call G_Lat hr rfl T.m_Lat T.F_Lat.kp T.b_Lat .nil pass_no (pa_cons (pv 0) (pa_cons pe_int pa_nil))) pe_int)) ?_
 refine ex_cons (ps_if (pt_cmpR op_eq (pv 4) pe_int (nomark _))
   (pss_one (ps_ret (pe_tup (pa_cons pe_str (pa_cons (pe_slice sl_list (pv 3) po_none (po_some (pv 2))) pa_nil)))))
   pss_nil) ?_
 refine ex_cons (ps_if (pt_cmpR op_eq (pv 4) pe_int (nomark _))
   (pss_one (ps_ret (pe_tup (pa_cons pe_str (pa_cons (pe_op op_rep (pe_lst (pa_cons (pe_tup (pa_cons pe_int (pa_cons pe_int pa_nil))) pa_nil)) (pv 1)) (pa_cons (pe_slice sl_list (pv 3) po_none (po_some (pv 2))) pa_nil))))))
   pss_nil) ?_
 refine ex_one (ps_ret (pe_tup (pa_cons pe_str (pa_cons (pe_op op_rep (pe_lst (pa_cons (pe_tup (pa_cons pe_int (pa_cons pe_int pa_nil))) pa_nil)) (pv 1)) (pa_cons (pe_slice sl_list (pv 3) po_none (po_some (pv 1))) pa_nil))))) ?_
 intro D q C vC M1 H1 lC sC g1 tC
 obtain⟨c,zs,rfl,hc,ac⟩:=tC.lst_inv
 have lz:zs.length=7:=by have:=ac.1; simp at this; omega
 refine⟨_,rfl,a,ns,_,M1,rfl,g1.hseq hS,h63,g1.mh,fun H2 g2=>⟨_,_,rfl,rfl,z3,?_⟩⟩
 have g12:=g1.trans g2
 have hcH:=g2.mh _ _ hc
 have cut:∀ {n:Nat},n≤7→cutV zs none (some ((n:Nat):Int))=zs.take n:=fun h=>cut_to (by omega)
 have tk:∀ {n:Nat} {M':Hp},Same M1 M'→Ats K M' ((C.take n).map frT) (zs.take n):=fun {n M'} e=>by rw[List.map_take]; exact (ac.mono e).take n
 have lt:∀ {n:Nat},n≤7→(C.take n).length=n:=fun {n} h=>by rw[List.length_take]; omega
 have st:∀ {n:Nat},SH.SmLs 1001 (C.take n):=fun {n} z hz=>sC z (List.mem_of_mem_take hz)
 refine⟨_,rfl,rfl,_,rfl,ite2 (fun c1=>?_) (fun c1=>?_)⟩
 ·refine⟨_,rfl,_,rfl,_,rfl,c,_,rfl,SqL.of hcH,fun p hp=>?_⟩
  rw[cut hm]
  have g3:=g12.add (o:=.lst (zs.take am.length)) hp
  refine⟨two_ok,fun p2 hp2=>q (.no (C.take am.length)) _ _ _ (g3.add hp2) ⟨lt hm,st⟩ ?_⟩
  exact answer2 upd_same ((tk (same_new (g12.mh.free hp) _)).lst upd_same |>.mono (same_new (g3.mh.free hp2) _))
 refine⟨_,rfl,rfl,_,rfl,ite2 (fun c2=>?_) (fun c2=>?_)⟩
 ·refine⟨two_ok,fun p1 hp1=>?_⟩
  have g3:=g12.add (o:=.tup [.int 0,.int 1]) hp1
  have n3:At K (upd M1 p1 (.tup [.int 0,.int 1])) (frT ((0:Int):Rat)) (.ref p1):=by rw[frT_int]; exact pT_mk (SqT.of upd_same)
  have s3:Same M1 (upd M1 p1 (.tup [.int 0,.int 1])):=same_new (g12.mh.free hp1) _
  generalize upd M1 p1 (.tup [.int 0,.int 1])=M3 at g3 n3 s3
  generalize upd H2 p1 (.tup [.int 0,.int 1])=H3 at g3 ⊢
  refine⟨big1000 (by show 1≤1000; decide),fun p2 hp2=>?_⟩
  have g4:Gr M H M3 (upd H3 p2 (.lst [.ref p1])):=g3.new hp2
  refine⟨_,rfl,p2,_,_,rfl,rfl,upd_same,by omega,by omega,big1000 (by simp; omega),fun p3 hp3=>?_⟩
  rw[flat1,Int.toNat_natCast]
  generalize upd H3 p2 (.lst [.ref p1])=H4 at g4 hp3 ⊢
  have g5:=g4.add (o:=.lst (List.replicate gn.length (.ref p1))) hp3
  have n5:At K (upd M3 p3 (.lst (List.replicate gn.length (.ref p1)))) (lnT (zr gn.length)) (.ref p3):=((rep_ats n3 _).mono (same_new (g4.mh.free hp3) _)).lst upd_same
  have s5:=s3.trans (same_new (o:=.lst (List.replicate gn.length (.ref p1))) (g4.mh.free hp3))
  generalize upd M3 p3 (.lst (List.replicate gn.length (.ref p1)))=M5 at g5 n5 s5
  generalize upd H4 p3 (.lst (List.replicate gn.length (.ref p1)))=H5 at g5 ⊢
  refine⟨_,rfl,_,rfl,_,rfl,c,_,rfl,SqL.of (g5.mh _ _ (s5 _ _ hc)),fun p hp=>?_⟩
  rw[cut hm]
  have g6:=g5.add (o:=.lst (zs.take am.length)) hp
  have s6:=same_new (g5.mh.free hp) (.lst (zs.take am.length))
  refine⟨three_ok,fun p4 hp4=>q (.best (zr gn.length) (C.take am.length)) _ _ _ (g6.add hp4) ⟨by simp,lt hm,zr_sm _,st⟩ ?_⟩
  have s7:=same_new (g6.mh.free hp4) (.tup [.str "best",.ref p3,.ref p])
  exact answer3 upd_same (n5.mono (s6.trans s7)) (((tk (s5.trans s6)).lst upd_same).mono s7)
 ·refine⟨two_ok,fun p1 hp1=>?_⟩
  have g3:=g12.add (o:=.tup [.int 0,.int 1]) hp1
  have n3:At K (upd M1 p1 (.tup [.int 0,.int 1])) (frT ((0:Int):Rat)) (.ref p1):=by rw[frT_int]; exact pT_mk (SqT.of upd_same)
  have s3:Same M1 (upd M1 p1 (.tup [.int 0,.int 1])):=same_new (g12.mh.free hp1) _
  generalize upd M1 p1 (.tup [.int 0,.int 1])=M3 at g3 n3 s3
  generalize upd H2 p1 (.tup [.int 0,.int 1])=H3 at g3 ⊢
  refine⟨big1000 (by show 1≤1000; decide),fun p2 hp2=>?_⟩
  have g4:Gr M H M3 (upd H3 p2 (.lst [.ref p1])):=g3.new hp2
  refine⟨_,rfl,p2,_,_,rfl,rfl,upd_same,by omega,by omega,big1000 (by simp; omega),fun p3 hp3=>?_⟩
  rw[flat1,Int.toNat_natCast]
  generalize upd H3 p2 (.lst [.ref p1])=H4 at g4 hp3 ⊢
  have g5:=g4.add (o:=.lst (List.replicate gn.length (.ref p1))) hp3
  have n5:At K (upd M3 p3 (.lst (List.replicate gn.length (.ref p1)))) (lnT (zr gn.length)) (.ref p3):=((rep_ats n3 _).mono (same_new (g4.mh.free hp3) _)).lst upd_same
  have s5:=s3.trans (same_new (o:=.lst (List.replicate gn.length (.ref p1))) (g4.mh.free hp3))
  generalize upd M3 p3 (.lst (List.replicate gn.length (.ref p1)))=M5 at g5 n5 s5
  generalize upd H4 p3 (.lst (List.replicate gn.length (.ref p1)))=H5 at g5 ⊢
  refine⟨_,rfl,_,rfl,_,rfl,c,_,rfl,SqL.of (g5.mh _ _ (s5 _ _ hc)),fun p hp=>?_⟩
  rw[cut hn]
  have g6:=g5.add (o:=.lst (zs.take gn.length)) hp
  have s6:=same_new (g5.mh.free hp) (.lst (zs.take gn.length))
  refine⟨three_ok,fun p4 hp4=>q (.endl (zr gn.length) (C.take gn.length)) _ _ _ (g6.add hp4) ⟨by simp,lt hn,zr_sm _,st⟩ ?_⟩
  have s7:=same_new (g6.mh.free hp4) (.tup [.str "endless",.ref p3,.ref p])
  exact answer3 upd_same (n5.mono (s6.trans s7)) (((tk (s5.trans s6)).lst upd_same).mono s7)
theorem ok_Lother_form (T:Txt K mg t) (G_Lat:FnOk P w K mg base (CXE P w) k t.f_Lat t.d_Lat ["_law_script","_law_k"] (spAt K)):FnOk P w K mg base (CXE P w) (k+1) t.f_Lother_form t.d_Lother_form ["_law_script","_law_wares","_law_stocks"] (spOther K):=by
 refine T.F_Lother_form.okE sc_Lother_form (fun vs H Q E h=>?_) (fun cdv A outer s H vs Q E hr h=>?_)
 ·obtain⟨a,ns,am,gn,M,rfl,_⟩:=h
  rfl
 obtain⟨a,ns,am,gn,M,rfl,hS,h63,hm,hn,hM,q⟩:=h
 refine ex_cons (ps_compG (iy:=3) sc_Lother_form.nd rfl (Or.inl rfl) rfl (compt_of (n:=1) (js:=[0]) (Nb:=["_law_k","_law_script"]) (by kernel_rfl) rfl (by decide +kernel) (by decide) (by kernel_rfl)) (pi_range1 rfl T.n_range (pa_cons pe_int pa_nil)) (fun C s0 H0 fp pn'=>(pg_name (i:=0) (nd_of (l:=["_law_k","_law_script"]) (by decide +kernel)) rfl (Or.inl rfl))) own_name (fun C s0 H0 fp pn'=>pts_none) (fun C s0 H0 fp pn'=>(pe_tup (pa_cons (pe_op op_mod (pe_call G_Lat hr rfl T.m_Lat T.F_Lat.kp T.b_Lat .nil pass_no (pa_cons (pv 1) (pa_cons (pe_op op_add pe_int (pv 0)) pa_nil))) pe_int) (pa_cons pe_int pa_nil))))) ?_
 refine ex_cons (ps_if (pt_cmpR op_eq (pe_op op_mod (pe_call G_Lat hr rfl T.m_Lat T.F_Lat.kp T.b_Lat .nil pass_no (pa_cons (pv 0) (pa_cons pe_int pa_nil))) pe_int) pe_int (nomark _))
   (pss_one (ps_set (i:=3) sc_Lother_form.nd rfl (Or.inl rfl) (pe_op op_rep (pe_lst (pa_cons (pe_tup (pa_cons pe_int (pa_cons pe_int pa_nil))) pa_nil)) pe_int)))
   pss_nil) ?_
 refine ex_tail (other_T T G_Lat hr hS h63 hm hn (M:=M)) (fun rest hrest=>?_)
 refine⟨_,rfl,by decide,by decide,fun y hy=>cm_range (K:=K) (M:=M) (n:=7) (F:=fun i=>frT ((atV ns (30+(i:Int)) % 4:Int):Rat)) hM (by decide) hy (fun i Mi Hi Qy hi gi kk=>?_) (fun M2 H2 ys g2 m2 hys at2=>?_)⟩
 ·rw[Int.zero_add]
  refine⟨_,rfl,_,rfl,_,_,rfl,rfl,a,ns,_,Mi,rfl,gi.hseq hS,h63,gi.mh,fun He ge=>?_⟩
  refine⟨_,_,rfl,rfl,z4,two_ok,fun p hp=>kk _ _ _ (ge.add hp) ?_⟩
  rw[frT_int]
  exact pT_mk (SqT.of upd_same)
 have g3:=g2.frz hy m2 hys
 have tc:At K (upd M2 y (.lst ys)) (lnT ((List.range 7).map fun (i:Nat)=>((atV ns (30+(i:Int)) % 4:Int):Rat))) (.ref y):=by
  refine Ats.lst (xs:=ys) ?_ upd_same
  rw[List.map_map]
  exact at2.mono (same_new m2 _)
 generalize upd M2 y (.lst ys)=M3 at g3 tc
 refine⟨_,rfl,a,ns,_,M3,rfl,g3.hseq hS,h63,g3.mh,fun H4 g4=>⟨_,_,rfl,rfl,z3,rfl,_,rfl,ite2 (fun c1=>?_) (fun c1=>?_)⟩⟩
 ·refine⟨two_ok,fun p1 hp1=>?_⟩
  have g5:=(g3.trans g4).add (o:=.tup [.int 0,.int 1]) hp1
  have n5:At K (upd M3 p1 (.tup [.int 0,.int 1])) (frT ((0:Int):Rat)) (.ref p1):=by rw[frT_int]; exact pT_mk (SqT.of upd_same)
  generalize upd M3 p1 (.tup [.int 0,.int 1])=M5 at g5 n5
  generalize upd H4 p1 (.tup [.int 0,.int 1])=H5 at g5 ⊢
  refine⟨big1000 (by show 1≤1000; decide),fun p2 hp2=>?_⟩
  have g6:Gr M H M5 (upd H5 p2 (.lst [.ref p1])):=g5.new hp2
  refine⟨p2,_,_,rfl,rfl,upd_same,by decide,by decide,big1000 (by simp),fun p3 hp3=>?_⟩
  rw[flat1]
  exact hrest _ q (zr 7) _ _ _ (by simp) (zr_sm _) (g6.add hp3) (((rep_ats n5 _).mono (same_new (g6.mh.free hp3) _)).lst upd_same)
 ·refine hrest _ q _ _ _ _ (by simp) (fun z hz=>?_) (g3.trans g4) tc
  obtain⟨i,_,rfl⟩:=List.mem_map.mp hz
  have e0:=Int.emod_nonneg (atV ns (30+(i:Int))) (show (4:Int)≠0 by decide)
  have e1:=Int.emod_lt_of_pos (atV ns (30+(i:Int))) z4
  exact int_sm (by omega)
end
end W1
namespace W1
open PySem PySem.Spec L2
def ng0 (l:List Int):List Int:=l.map fun z=>0-z
theorem four_ok:4≤sizeLine:=by decide
theorem one_ok:1≤sizeLine:=by decide
theorem repI_sm (z:Int) (h:z.natAbs≤2 ^ 100) (n:Nat):∀ y∈List.replicate n z,y.natAbs≤2 ^ 100:=fun y hy=>by rw[List.eq_of_mem_replicate hy]; exact h
theorem b100 {z:Int} (h:z.natAbs≤2):z.natAbs≤2 ^ 100:=Nat.le_trans h (show 2≤2 ^ 100 by decide)
theorem edge1 {row:List Int} {Ur:List (List Int)} {am gn:List Int} (T:Tsk (row :: Ur) am gn):Tsk (row :: Ur) (List.replicate am.length 0) (ng0 row):=by
 have hw:=T.t.hw row List.mem_cons_self
 refine⟨⟨by rw[List.length_replicate]; exact T.t.hm,fun r h=>?_⟩,⟨T.s.u,repI_sm 0 (b100 (by decide)) _,fun z hz=>?_⟩,by rw[List.length_replicate]; exact T.m,?_⟩
 ·rw[T.t.hw r h,ng0,List.length_map,hw]
 ·obtain⟨y,hy,rfl⟩:=List.mem_map.mp hz
  have:=T.s.u row List.mem_cons_self y hy
  have e:(0-y).natAbs=y.natAbs:=by omega
  rw[e]
  exact this
 ·rw[ng0,List.length_map,hw]; exact T.n
theorem edge2 {z:Int} {row:List Int} {Ur:List (List Int)} {am gn:List Int} (T:Tsk ((z :: row) :: Ur) am gn):Tsk ((-2 :: row) :: Ur) (List.replicate am.length (-1)) gn:=by
 have hw:=T.t.hw _ List.mem_cons_self
 refine⟨⟨by rw[List.length_replicate]; exact T.t.hm,fun r h=>?_⟩,⟨fun r h y hy=>?_,repI_sm (-1) (b100 (by decide)) _,T.s.g⟩,by rw[List.length_replicate]; exact T.m,T.n⟩
 ·rcases List.mem_cons.mp h with rfl | h
  ·exact hw
  ·exact T.t.hw r (List.mem_cons_of_mem _ h)
 ·rcases List.mem_cons.mp h with rfl | h
  ·rcases List.mem_cons.mp hy with rfl | hy
   ·exact b100 (by decide)
   ·exact T.s.u _ List.mem_cons_self y (List.mem_cons_of_mem _ hy)
  ·exact T.s.u r (List.mem_cons_of_mem _ h) y hy
theorem cons_sm {z:Int} (h:z.natAbs≤2) (n:Nat):SH.SmLs 1001 ((z:Rat) :: zr n):=fun a ha=>by
 rcases List.mem_cons.mp ha with rfl | ha
 ·exact int_sm (Nat.lt_of_le_of_lt h (by decide))
 ·exact zr_sm n a ha
def spEdge (K:PySem.W.Frag):Sp:=fun vs H Q _=>∃ (v1 v3:V) (c:Int) (U:List (List Int)) (am gn:List Int) (M:Hp),vs=[v1,v3,.int c]∧Tsk U am gn∧At K M (intssT U) v1∧At K M (intsT gn) v3∧1≤am.length∧1≤gn.length∧Same M H ∧
 ∀ (U':List (List Int)) (am' gn':List Int) (a':SH.Ans) (v:V) (M' H':Hp),Gr M H M' H'→Tsk U' am' gn'→Fit5 am' gn' a'→At K M' (.tup [intssT U',intsT am',intsT gn',ansT a']) v→Q v H'
section
variable {P:Program} {w:World} {K:PySem.W.Frag} {mg:Str→Option Value} {base:Heap} {t:Adr} {k:Nat}
set_option maxHeartbeats 4000000 in
theorem ok_Lat_the_edge (T:Txt K mg t):FnOk P w K mg base (CXE P w) (k+1) t.f_Lat_the_edge t.d_Lat_the_edge ["_law_uses","_law_gains","_law_cell"] (spEdge K):=by
 refine T.F_Lat_the_edge.okE sc_Lat_the_edge (fun vs H Q E h=>?_) (fun cdv A outer s H vs Q E hr h=>?_)
 ·obtain⟨v1,v3,c,U,am,gn,M,rfl,_⟩:=h
  rfl
 obtain⟨v1,v3,c,U,am,gn,M,rfl,TK,h1,h3,m1,n1,hM,q⟩:=h
 have tm:=TK.m
 have tn:=TK.n
 have hm:=TK.t.hm
 obtain⟨a,xs,rfl,ha,ats⟩:=id h1.lst_inv
 obtain⟨c3,rfl,hc3⟩:=ints_get h3
 have hxl:xs.length=am.length:=by have:=ats.1; simp at this; omega
 obtain⟨row,Ur,rfl⟩:∃ r l,U=r :: l:=by cases U with | nil=>simp at hm; omega | cons r l=>exact⟨r,l,rfl⟩
 obtain⟨v0,vr,rfl⟩:∃ r l,xs=r :: l:=by cases xs with | nil=>simp at hxl; omega | cons r l=>exact⟨r,l,rfl⟩
 have at0:=ats.2 0 (intsT row) v0 rfl rfl
 obtain⟨b0,rfl,hb0⟩:=ints_get at0
 have hw:=TK.t.hw row List.mem_cons_self
 refine⟨_,(pss_cons (ps_set (i:=3) sc_Lat_the_edge.nd rfl (Or.inl rfl) (pe_callB call_len_seq rfl T.n_len PySem.boot_len (pa_cons (pv 0) pa_nil)))
  (pss_cons (ps_set (i:=4) sc_Lat_the_edge.nd rfl (Or.inl rfl) (pe_op op_rep (pe_lst (pa_cons (pe_tup (pa_cons pe_int (pa_cons pe_int pa_nil))) pa_nil)) (pe_op op_sub (pv 3) pe_int)))
  (pss_cons (ps_if (pt_cmpR op_eq (pe_op op_mod (pv 2) pe_int) pe_int (nomark _))
   (pss_cons (ps_compG (iy:=6) sc_Lat_the_edge.nd rfl (Or.inl rfl) rfl (compt_of (n:=1) (js:=[]) (Nb:=["_law_number"]) (by kernel_rfl) rfl (by decide +kernel) (by decide) (by kernel_rfl)) (pi_list (pe_ix ix_list (pv 0) pe_int (fun _ _=>rfl))) (fun C s0 H0 fp pn'=>(pg_name (i:=0) (nd_of (l:=["_law_number"]) (by decide +kernel)) rfl (Or.inl rfl))) own_name (fun C s0 H0 fp pn'=>pts_none) (fun C s0 H0 fp pn'=>(pe_op op_sub pe_int (pv 0))))
  (pss_cons (ps_set (i:=7) sc_Lat_the_edge.nd rfl (Or.inl rfl) (pe_op op_rep (pe_lst (pa_cons (pe_tup (pa_cons pe_int (pa_cons pe_int pa_nil))) pa_nil)) (pe_callB call_len_seq rfl T.n_len PySem.boot_len (pa_cons (pv 1) pa_nil))))
  (pss_one (ps_ret (pe_tup (pa_cons (pv 0) (pa_cons (pe_op op_rep (pe_lst (pa_cons pe_int pa_nil)) (pv 3)) (pa_cons (pv 6) (pa_cons (pe_tup (pa_cons pe_str (pa_cons (pv 7) (pa_cons (pe_op op_cat (pe_lst (pa_cons (pe_tup (pa_cons (pe_un un_neg pe_int) (pa_cons pe_int pa_nil))) pa_nil)) (pv 4)) pa_nil)))) pa_nil)))))))))
   pss_nil)
  (pss_cons (ps_set (i:=5) sc_Lat_the_edge.nd rfl (Or.inl rfl) (pe_op op_cat (pe_lst (pa_cons (pe_op op_cat (pe_lst (pa_cons (pe_un un_neg pe_int) pa_nil)) (pe_slice sl_list (pe_ix ix_list (pv 0) pe_int (fun _ _=>rfl)) (po_some pe_int) po_none)) pa_nil)) (pe_slice sl_list (pv 0) (po_some pe_int) po_none)))
  (pss_one (ps_ret (pe_tup (pa_cons (pv 5) (pa_cons (pe_op op_rep (pe_lst (pa_cons (pe_un un_neg pe_int) pa_nil)) (pv 3)) (pa_cons (pv 1) (pa_cons (pe_tup (pa_cons pe_str (pa_cons (pe_op op_cat (pe_lst (pa_cons (pe_tup (pa_cons pe_int (pa_cons pe_int pa_nil))) pa_nil)) (pv 4)) pa_nil))) pa_nil))))))))))),?_⟩
 refine⟨_,rfl,a,_,rfl,.inl (SqL.of (hM _ _ ha)),?_⟩
 have ek:((((V.ref b0 :: vr).length:Nat):Int)-1).toNat=am.length-1:=by omega
 have ek2:((((V.ref b0 :: vr).length:Nat):Int)).toNat=am.length:=by omega
 refine⟨two_ok,fun p1 hp1=>?_⟩
 have g1:Gr M H (upd M p1 (.tup [.int 0,.int 1])) (upd H p1 (.tup [.int 0,.int 1])):=(Gr.refl hM).add hp1
 have n1':At K (upd M p1 (.tup [.int 0,.int 1])) (frT ((0:Int):Rat)) (.ref p1):=by rw[frT_int]; exact pT_mk (SqT.of upd_same)
 generalize upd M p1 (.tup [.int 0,.int 1])=M1 at g1 n1'
 generalize upd H p1 (.tup [.int 0,.int 1])=H1 at g1 ⊢
 refine⟨one_ok,fun p2 hp2=>?_⟩
 have g2:Gr M H M1 (upd H1 p2 (.lst [.ref p1])):=g1.new hp2
 refine⟨_,rfl,_,_,rfl,rfl,p2,_,_,rfl,rfl,upd_same,by omega,by omega,big1000 (by rw[ek]; simp; omega),fun p3 hp3=>?_⟩
 rw[flat1,ek]
 generalize upd H1 p2 (.lst [.ref p1])=H2 at g2 hp3 ⊢
 have g3:=g2.add (o:=.lst (List.replicate (am.length-1) (.ref p1))) hp3
 have hp3M:upd M1 p3 (.lst (List.replicate (am.length-1) (.ref p1))) p3=some (.lst (List.replicate (am.length-1) (.ref p1))):=upd_same
 have n3:At K (upd M1 p3 (.lst (List.replicate (am.length-1) (.ref p1)))) (frT ((0:Int):Rat)) (.ref p1):=n1'.mono (same_new (g2.mh.free hp3) _)
 generalize upd M1 p3 (.lst (List.replicate (am.length-1) (.ref p1)))=M3 at g3 hp3M n3
 generalize upd H2 p3 (.lst (List.replicate (am.length-1) (.ref p1)))=H3 at g3 ⊢
 refine⟨_,rfl,_,_,rfl,rfl,z2,rfl,_,rfl,ite2 (fun c1=>?_) (fun c1=>?_)⟩
 ·-- just at the edge of best
  refine⟨_,rfl,a,_,_,_,rfl,rfl,SqL.of (g3.mh _ _ (g3.mm _ _ ha)),atI_nat (j:=0) rfl,b0,rfl,⟨_,SqL.of (g3.mh _ _ (g3.mm _ _ hb0))⟩,fun y hy=>cm_list (K:=K) (M:=M3) (F:=fun i=>.int (0-row.getD i 0)) g3.mh (g3.mm _ _ hb0) (by simp; omega) hy (fun i x Mi Hi Qy hx gi kk=>?_) (fun M4 H4 ys g4 m4 hys at4=>?_)⟩
  ·rw[List.getElem?_map] at hx
   cases e:row[i]? with
   | none=>rw[e] at hx; cases hx
   | some n=>
    rw[e] at hx
    cases hx
    refine⟨_,rfl,_,_,rfl,rfl,kk _ _ _ (Gr.refl gi.mh) ?_⟩
    rw[SH.gI e]
    exact .int
  have at5:Ats K M4 ((ng0 row).map Tr.int) ys:=ats_range at4 (by simp[ng0]) fun i t ht=>by
   unfold ng0 at ht
   rw[List.map_map,List.getElem?_map] at ht
   cases e:row[i]? with
   | none=>rw[e] at ht; cases ht
   | some n=>rw[e] at ht; cases ht; rw[SH.gI e]; rfl
  have g5:Gr M H (upd M4 y (.lst ys)) H4:=(g3.trans g4).frz (g3.hfree hy) m4 hys
  have s5:Same M3 (upd M4 y (.lst ys)):=g4.mm.trans (same_new m4 _)
  have tc:At K (upd M4 y (.lst ys)) (intsT (ng0 row)) (.ref y):=(at5.mono (same_new m4 _)).lst upd_same
  generalize upd M4 y (.lst ys)=M5 at g5 s5 tc
  refine⟨two_ok,fun q1 hq1=>?_⟩
  have g6:=g5.add (o:=.tup [.int 0,.int 1]) hq1
  have n6:At K (upd M5 q1 (.tup [.int 0,.int 1])) (frT ((0:Int):Rat)) (.ref q1):=by rw[frT_int]; exact pT_mk (SqT.of upd_same)
  have s6:Same M5 (upd M5 q1 (.tup [.int 0,.int 1])):=same_new (g5.mh.free hq1) _
  generalize upd M5 q1 (.tup [.int 0,.int 1])=M6 at g6 n6 s6
  generalize upd H4 q1 (.tup [.int 0,.int 1])=H6 at g6 ⊢
  refine⟨one_ok,fun q2 hq2=>?_⟩
  have g7:Gr M H M6 (upd H6 q2 (.lst [.ref q1])):=g6.new hq2
  refine⟨_,rfl,c3,_,rfl,.inl (SqL.of (g7.mh _ _ (g7.mm _ _ hc3))),q2,_,_,rfl,rfl,upd_same,by simp <;> omega,by simp <;> omega,big1000 (by simp <;> omega),fun q3 hq3=>?_⟩
  rw[flat1,List.length_map,Int.toNat_natCast]
  generalize upd H6 q2 (.lst [.ref q1])=H7 at g7 hq3 ⊢
  have g8:=g7.add (o:=.lst (List.replicate gn.length (.ref q1))) hq3
  have n8:At K (upd M6 q3 (.lst (List.replicate gn.length (.ref q1)))) (lnT (zr gn.length)) (.ref q3):=((rep_ats n6 _).mono (same_new (g7.mh.free hq3) _)).lst upd_same
  have s8:Same M5 (upd M6 q3 (.lst (List.replicate gn.length (.ref q1)))):=s6.trans (same_new (g7.mh.free hq3) _)
  generalize upd M6 q3 (.lst (List.replicate gn.length (.ref q1)))=M8 at g8 n8 s8
  generalize upd H7 q3 (.lst (List.replicate gn.length (.ref q1)))=H8 at g8 ⊢
  refine⟨_,rfl,one_ok,fun s1 hs1=>?_⟩
  have g9:Gr M H M8 (upd H8 s1 (.lst [.int 0])):=g8.new hs1
  refine⟨_,rfl,s1,_,_,rfl,rfl,upd_same,by omega,by omega,big1000 (by rw[ek2]; simp; omega),fun s2 hs2=>?_⟩
  rw[flat1,ek2]
  generalize upd H8 s1 (.lst [.int 0])=H9 at g9 hs2 ⊢
  have ga:=g9.add (o:=.lst (List.replicate am.length (.int 0))) hs2
  have na:At K (upd M8 s2 (.lst (List.replicate am.length (.int 0)))) (intsT (List.replicate am.length 0)) (.ref s2):=(repI_ats 0 _).lst upd_same
  have sa:Same M8 (upd M8 s2 (.lst (List.replicate am.length (.int 0)))):=same_new (g9.mh.free hs2) _
  generalize upd M8 s2 (.lst (List.replicate am.length (.int 0)))=Ma at ga na sa
  generalize upd H9 s2 (.lst (List.replicate am.length (.int 0)))=Ha at ga ⊢
  refine⟨_,rfl,_,rfl,_,rfl,two_ok,fun u1 hu1=>?_⟩
  have gb:=ga.add (o:=.tup [.int (-1),.int 1]) hu1
  have nb:At K (upd Ma u1 (.tup [.int (-1),.int 1])) (frT ((-1:Int):Rat)) (.ref u1):=by rw[frT_int]; exact pT_mk (SqT.of upd_same)
  have sb:Same Ma (upd Ma u1 (.tup [.int (-1),.int 1])):=same_new (ga.mh.free hu1) _
  generalize upd Ma u1 (.tup [.int (-1),.int 1])=Mb at gb nb sb
  generalize upd Ha u1 (.tup [.int (-1),.int 1])=Hb at gb ⊢
  refine⟨one_ok,fun u2 hu2=>?_⟩
  have gc:Gr M H Mb (upd Hb u2 (.lst [.ref u1])):=gb.new hu2
  have s3b:Same M3 Mb:=s5.trans (s8.trans (sa.trans sb))
  refine⟨_,rfl,u2,p3,_,_,rfl,rfl,upd_same,gc.mh _ _ (s3b _ _ hp3M),big1000 (by simp; omega),fun u3 hu3=>?_⟩
  generalize upd Hb u2 (.lst [.ref u1])=Hc at gc hu3 ⊢
  have gd:=gc.add (o:=.lst ([.ref u1]++List.replicate (am.length-1) (.ref p1))) hu3
  have nd:At K (upd Mb u3 (.lst ([.ref u1]++List.replicate (am.length-1) (.ref p1)))) (lnT (((-1:Int):Rat) :: zr (am.length-1))) (.ref u3):=(Ats.cons (nb.mono (same_new (gc.mh.free hu3) _)) ((rep_ats (n3.mono s3b) _).mono (same_new (gc.mh.free hu3) _))).lst upd_same
  have sd:Same Mb (upd Mb u3 (.lst ([.ref u1]++List.replicate (am.length-1) (.ref p1)))):=same_new (gc.mh.free hu3) _
  generalize upd Mb u3 (.lst ([.ref u1]++List.replicate (am.length-1) (.ref p1)))=Md at gd nd sd
  generalize upd Hc u3 (.lst ([.ref u1]++List.replicate (am.length-1) (.ref p1)))=Hd at gd ⊢
  refine⟨three_ok,fun u4 hu4=>?_⟩
  have ge:=gd.add (o:=.tup [.str "best",.ref q3,.ref u3]) hu4
  have s8d:Same M8 Md:=sa.trans (sb.trans sd)
  have ne:At K (upd Md u4 (.tup [.str "best",.ref q3,.ref u3])) (ansT (.best (zr gn.length) (((-1:Int):Rat) :: zr (am.length-1)))) (.ref u4):=answer3 upd_same ((n8.mono s8d).mono (same_new (gd.mh.free hu4) _)) (nd.mono (same_new (gd.mh.free hu4) _))
  have se:Same Md (upd Md u4 (.tup [.str "best",.ref q3,.ref u3])):=same_new (gd.mh.free hu4) _
  generalize upd Md u4 (.tup [.str "best",.ref q3,.ref u3])=Me at ge ne se
  generalize upd Hd u4 (.tup [.str "best",.ref q3,.ref u3])=He at ge ⊢
  refine⟨four_ok,fun u5 hu5=>q (row :: Ur) (List.replicate am.length 0) (ng0 row) (.best (zr gn.length) (((-1:Int):Rat) :: zr (am.length-1))) _ _ _ (ge.add hu5) (edge1 TK) ⟨by simp[ng0,hw],by simp; omega,zr_sm _,cons_sm (by decide) _⟩ ?_⟩
  have sf:=same_new (ge.mh.free hu5) (.tup [.ref a,.ref s2,.ref y,.ref u4])
  exact (Ats.cons ((h1.mono ge.mm).mono sf) (Ats.cons ((na.mono (sb.trans (sd.trans se))).mono sf) (Ats.cons ((tc.mono (s8.trans (s8d.trans se))).mono sf) (Ats.cons (ne.mono sf) Ats.nil)))).tup (SqT.of upd_same)
 ·-- just at the edge of none
  obtain⟨z,row,rfl⟩:∃ z l,row=z :: l:=by cases row with | nil=>simp at hw; omega | cons z l=>exact⟨z,l,rfl⟩
  refine⟨_,rfl,one_ok,fun u1 hu1=>?_⟩
  have g4:Gr M H M3 (upd H3 u1 (.lst [.int (-2)])):=g3.new hu1
  have hu1H:upd H3 u1 (.lst [.int (-2)]) u1=some (.lst [.int (-2)]):=upd_same
  generalize upd H3 u1 (.lst [.int (-2)])=H4 at g4 hu1H ⊢
  refine⟨_,rfl,a,_,_,_,rfl,rfl,SqL.of (g4.mh _ _ (g4.mm _ _ ha)),atI_nat (j:=0) rfl,_,rfl,b0,_,rfl,SqL.of (g4.mh _ _ (g4.mm _ _ hb0)),fun u2 hu2=>?_⟩
  rw[List.map_cons,cut_1]
  have g5:Gr M H M3 (upd H4 u2 (.lst (row.map V.int))):=g4.new hu2
  refine⟨u1,u2,_,_,rfl,rfl,by rw[upd_ne (ne_of_none hu1H hu2)]; exact hu1H,upd_same,big1000 (by simp at hw ⊢; omega),fun u3 hu3=>?_⟩
  generalize upd H4 u2 (.lst (row.map V.int))=H5 at g5 hu3 ⊢
  have g6:=g5.add (o:=.lst ([.int (-2)]++row.map V.int)) hu3
  have n6:At K (upd M3 u3 (.lst ([.int (-2)]++row.map V.int))) (intsT (-2 :: row)) (.ref u3):=(Ats.ints (-2 :: row)).lst upd_same
  have s6:Same M3 (upd M3 u3 (.lst ([.int (-2)]++row.map V.int))):=same_new (g5.mh.free hu3) _
  generalize upd M3 u3 (.lst ([.int (-2)]++row.map V.int))=M6 at g6 n6 s6
  generalize upd H5 u3 (.lst ([.int (-2)]++row.map V.int))=H6 at g6 ⊢
  refine⟨one_ok,fun u4 hu4=>?_⟩
  have g7:Gr M H M6 (upd H6 u4 (.lst [.ref u3])):=g6.new hu4
  have hu4H:upd H6 u4 (.lst [.ref u3]) u4=some (.lst [.ref u3]):=upd_same
  generalize upd H6 u4 (.lst [.ref u3])=H7 at g7 hu4H ⊢
  refine⟨_,rfl,_,rfl,a,_,rfl,SqL.of (g7.mh _ _ (g7.mm _ _ ha)),fun u5 hu5=>?_⟩
  rw[cut_1]
  have g8:Gr M H M6 (upd H7 u5 (.lst vr)):=g7.new hu5
  refine⟨u4,u5,_,_,rfl,rfl,by rw[upd_ne (ne_of_none hu4H hu5)]; exact hu4H,upd_same,big1000 (by simp at hxl ⊢; omega),fun u6 hu6=>?_⟩
  generalize upd H7 u5 (.lst vr)=H8 at g8 hu6 ⊢
  have g9:=g8.add (o:=.lst ([.ref u3]++vr)) hu6
  have s9:Same M6 (upd M6 u6 (.lst ([.ref u3]++vr))):=same_new (g8.mh.free hu6) _
  have atr:Ats K M (Ur.map intsT) vr:=⟨by have:=ats.1; simpa using this,fun i t v ht hv=>ats.2 (i+1) t v (by simpa using ht) (by simpa using hv)⟩
  have n9:At K (upd M6 u6 (.lst ([.ref u3]++vr))) (intssT ((-2 :: row) :: Ur)) (.ref u6):=(Ats.cons (n6.mono s9) ((atr.mono g8.mm).mono s9)).lst upd_same
  generalize upd M6 u6 (.lst ([.ref u3]++vr))=M9 at g9 n9 s9
  generalize upd H8 u6 (.lst ([.ref u3]++vr))=H9 at g9 ⊢
  refine⟨_,rfl,_,rfl,one_ok,fun s1 hs1=>?_⟩
  have ga:Gr M H M9 (upd H9 s1 (.lst [.int (-1)])):=g9.new hs1
  refine⟨_,rfl,s1,_,_,rfl,rfl,upd_same,by omega,by omega,big1000 (by rw[ek2]; simp; omega),fun s2 hs2=>?_⟩
  rw[flat1,ek2]
  generalize upd H9 s1 (.lst [.int (-1)])=Ha at ga hs2 ⊢
  have gb:=ga.add (o:=.lst (List.replicate am.length (.int (-1)))) hs2
  have nb:At K (upd M9 s2 (.lst (List.replicate am.length (.int (-1))))) (intsT (List.replicate am.length (-1))) (.ref s2):=(repI_ats (-1) _).lst upd_same
  have sb:Same M9 (upd M9 s2 (.lst (List.replicate am.length (.int (-1))))):=same_new (ga.mh.free hs2) _
  generalize upd M9 s2 (.lst (List.replicate am.length (.int (-1))))=Mb at gb nb sb
  generalize upd Ha s2 (.lst (List.replicate am.length (.int (-1))))=Hb at gb ⊢
  refine⟨_,rfl,two_ok,fun w1 hw1=>?_⟩
  have gc:=gb.add (o:=.tup [.int 1,.int 1]) hw1
  have nc:At K (upd Mb w1 (.tup [.int 1,.int 1])) (frT ((1:Int):Rat)) (.ref w1):=by rw[frT_int]; exact pT_mk (SqT.of upd_same)
  have sc:Same Mb (upd Mb w1 (.tup [.int 1,.int 1])):=same_new (gb.mh.free hw1) _
  generalize upd Mb w1 (.tup [.int 1,.int 1])=Mc at gc nc sc
  generalize upd Hb w1 (.tup [.int 1,.int 1])=Hc at gc ⊢
  refine⟨one_ok,fun w2 hw2=>?_⟩
  have gd:Gr M H Mc (upd Hc w2 (.lst [.ref w1])):=gc.new hw2
  have s3c:Same M3 Mc:=s6.trans (s9.trans (sb.trans sc))
  refine⟨_,rfl,w2,p3,_,_,rfl,rfl,upd_same,gd.mh _ _ (s3c _ _ hp3M),big1000 (by simp; omega),fun w3 hw3=>?_⟩
  generalize upd Hc w2 (.lst [.ref w1])=Hd at gd hw3 ⊢
  have ge:=gd.add (o:=.lst ([.ref w1]++List.replicate (am.length-1) (.ref p1))) hw3
  have se:Same Mc (upd Mc w3 (.lst ([.ref w1]++List.replicate (am.length-1) (.ref p1)))):=same_new (gd.mh.free hw3) _
  have ne:At K (upd Mc w3 (.lst ([.ref w1]++List.replicate (am.length-1) (.ref p1)))) (lnT (((1:Int):Rat) :: zr (am.length-1))) (.ref w3):=(Ats.cons (nc.mono se) ((rep_ats (n3.mono s3c) _).mono se)).lst upd_same
  generalize upd Mc w3 (.lst ([.ref w1]++List.replicate (am.length-1) (.ref p1)))=Me at ge ne se
  generalize upd Hd w3 (.lst ([.ref w1]++List.replicate (am.length-1) (.ref p1)))=He at ge ⊢
  refine⟨two_ok,fun w4 hw4=>?_⟩
  have gf:=ge.add (o:=.tup [.str "none",.ref w3]) hw4
  have sf:Same Me (upd Me w4 (.tup [.str "none",.ref w3])):=same_new (ge.mh.free hw4) _
  have nf:At K (upd Me w4 (.tup [.str "none",.ref w3])) (ansT (.no (((1:Int):Rat) :: zr (am.length-1)))) (.ref w4):=answer2 upd_same (ne.mono sf)
  generalize upd Me w4 (.tup [.str "none",.ref w3])=Mf at gf nf sf
  generalize upd He w4 (.tup [.str "none",.ref w3])=Hf at gf ⊢
  refine⟨four_ok,fun w5 hw5=>q ((-2 :: row) :: Ur) (List.replicate am.length (-1)) gn (.no (((1:Int):Rat) :: zr (am.length-1))) _ _ _ (gf.add hw5) (edge2 TK) ⟨by simp; omega,cons_sm (by decide) _⟩ ?_⟩
  have sg:=same_new (gf.mh.free hw5) (.tup [.ref u6,.ref s2,.ref c3,.ref w4])
  have scf:Same Mb Mf:=sc.trans (se.trans sf)
  exact (Ats.cons ((n9.mono (sb.trans scf)).mono sg) (Ats.cons ((nb.mono scf).mono sg) (Ats.cons ((h3.mono gf.mm).mono sg) (Ats.cons (nf.mono sg) Ats.nil)))).tup (SqT.of upd_same)
end
end W1
namespace W1
open PySem PySem.Spec L2
def revU (U:List (List Int)):List (List Int):=U.map List.reverse
theorem rev_tsk {U:List (List Int)} {am gn:List Int} (T:Tsk U am gn):Tsk (revU U) am gn.reverse:=by
 refine⟨⟨by rw[revU,List.length_map]; exact T.t.hm,fun r h=>?_⟩,⟨fun r h z hz=>?_,T.s.a,fun z hz=>T.s.g z (List.mem_reverse.mp hz)⟩,T.m,by rw[List.length_reverse]; exact T.n⟩
 ·obtain⟨s,hs,rfl⟩:=List.mem_map.mp h
  rw[List.length_reverse,List.length_reverse]
  exact T.t.hw s hs
 ·obtain⟨s,hs,rfl⟩:=List.mem_map.mp h
  exact T.s.u s hs z (List.mem_reverse.mp hz)
theorem rev_sm {l:List Rat} (h:SH.SmLs 1001 l):SH.SmLs 1001 l.reverse:=fun a ha=>h a (List.mem_reverse.mp ha)
def spTurn (K:PySem.W.Frag) (Pt:Addr):Sp:=fun vs H Q _=>∃ (v1 v2 v3:V) (U:List (List Int)) (am gn:List Int) (M:Hp),vs=[v1,v2,v3]∧Tsk U am gn∧Tk K M U am gn v1 v2 v3∧Same M H∧TabOk Pt M H∧Gives K am gn M H Q
section
variable {P:Program} {w:World} {K:PySem.W.Frag} {mg:Str→Option Value} {base:Heap} {t:Adr} {k:Nat} {Pt:Addr}
theorem rev_ats {M:Hp} {ts:List Tr} {xs:List V} (h:Ats K M ts xs):Ats K M ts.reverse xs.reverse:=by
 refine⟨by simp[h.1],fun i a b ha hb=>?_⟩
 have hi:=(List.getElem?_eq_some_iff.mp ha).1
 rw[List.length_reverse] at hi
 rw[List.getElem?_reverse hi] at ha
 rw[List.getElem?_reverse (by rw[← h.1]; exact hi),← h.1] at hb
 exact h.2 _ a b ha hb
set_option maxHeartbeats 4000000 in
theorem ok_Lof_turned (T:Txt K mg t) (G_solved:FnOk P w K mg base (CXE P w) k t.f_solved t.d_solved ["uses","amounts","gains"] (spSv K Pt))
  (G_Lis_answer:FnOk P w K mg base (CXE P w) k t.f_Lis_answer t.d_Lis_answer ["_law_found","_law_wares","_law_stocks"] (spIa K)) :
  FnOk P w K mg base (CXE P w) (k+1) t.f_Lof_turned t.d_Lof_turned ["_law_uses","_law_amounts","_law_gains"] (spTurn K Pt):=by
 refine T.F_Lof_turned.okE sc_Lof_turned (fun vs H Q E h=>?_) (fun cdv A outer s H vs Q E hr h=>?_)
 ·obtain⟨v1,v2,v3,U,am,gn,M,rfl,_⟩:=h
  rfl
 obtain⟨v1,v2,v3,U,am,gn,M,rfl,TK,D,hM,hT,q⟩:=h
 have tm:=TK.m
 have tn:=TK.n
 have hm:=TK.t.hm
 obtain⟨b1,x1,rfl,hb1,ats1⟩:=id D.u.lst_inv
 obtain⟨b2,rfl,hb2⟩:=ints_get D.a
 obtain⟨b3,rfl,hb3⟩:=ints_get D.g
 have lx1:x1.length=am.length:=by have:=ats1.1; simp at this; omega
 refine⟨_,(pss_cons (ps_compG (iy:=3) sc_Lof_turned.nd rfl (Or.inl rfl) rfl (compt_of (n:=1) (js:=[]) (Nb:=["_law_row"]) (by kernel_rfl) rfl (by decide +kernel) (by decide) (by kernel_rfl)) (pi_list (pv 0)) (fun C s0 H0 fp pn'=>(pg_name (i:=0) (nd_of (l:=["_law_row"]) (by decide +kernel)) rfl (Or.inl rfl))) own_name (fun C s0 H0 fp pn'=>pts_none) (fun C s0 H0 fp pn'=>(pe_rev (K:=K) rfl hr.hd rfl T.n_list rfl T.n_reversed (pa_cons (pv 0) pa_nil))))
  (pss_cons (ps_set (i:=4) sc_Lof_turned.nd rfl (Or.inl rfl) (pe_call G_solved hr rfl T.m_solved T.F_solved.kp T.b_solved .nil pass_no (pa_cons (pv 3) (pa_cons (pe_callTy call_list_of rfl T.n_list bt_list (pa_cons (pv 1) pa_nil)) (pa_cons (pe_rev (K:=K) rfl hr.hd rfl T.n_list rfl T.n_reversed (pa_cons (pv 2) pa_nil)) pa_nil)))))
  (pss_cons (ps_if (pt_not (pt_val (pe_call G_Lis_answer hr rfl T.m_Lis_answer T.F_Lis_answer.kp T.b_Lis_answer .nil pass_no (pa_cons (pv 4) (pa_cons (pe_callB call_len_seq rfl T.n_len PySem.boot_len (pa_cons (pv 2) pa_nil)) (pa_cons (pe_callB call_len_seq rfl T.n_len PySem.boot_len (pa_cons (pv 0) pa_nil)) pa_nil))))))
   (pss_one (ps_ret pe_non))
   pss_nil)
  (pss_cons (ps_if (pt_cmpR op_eq (pe_ix ix_tup (pv 4) pe_int (fun _ _=>rfl)) pe_str (nomark _))
   (pss_one (ps_ret (pv 4)))
   pss_nil)
  (pss_cons (ps_if (pt_cmpR op_eq (pe_ix ix_tup (pv 4) pe_int (fun _ _=>rfl)) pe_str (nomark _))
   (pss_one (ps_ret (pe_tup (pa_cons pe_str (pa_cons (pe_rev (K:=K) rfl hr.hd rfl T.n_list rfl T.n_reversed (pa_cons (pe_ix ix_tup (pv 4) pe_int (fun _ _=>rfl)) pa_nil)) (pa_cons (pe_callTy call_list_of rfl T.n_list bt_list (pa_cons (pe_ix ix_tup (pv 4) pe_int (fun _ _=>rfl)) pa_nil)) pa_nil))))))
   pss_nil)
  (pss_one (ps_ret (pe_tup (pa_cons pe_str (pa_cons (pe_rev (K:=K) rfl hr.hd rfl T.n_list rfl T.n_reversed (pa_cons (pe_ix ix_tup (pv 4) pe_int (fun _ _=>rfl)) pa_nil)) (pa_cons (pe_rev (K:=K) rfl hr.hd rfl T.n_list rfl T.n_reversed (pa_cons (pe_ix ix_tup (pv 4) pe_int (fun _ _=>rfl)) pa_nil)) pa_nil))))))))))),?_⟩
 refine⟨_,rfl,b1,rfl,⟨_,SqL.of (hM _ _ hb1)⟩,fun y hy=>cm_list (K:=K) (M:=M) (F:=fun i=>intsT (U.getD i []).reverse) hM hb1 (by omega) hy (fun i x Mi Hi Qy hx gi kk=>?_) (fun M2 H2 ys g2 m2 hys at2=>?_)⟩
 ·obtain⟨l,hl,atl⟩:=intss_get' ats1 hx
  obtain⟨c,rfl,hc⟩:=ints_get atl
  refine⟨_,rfl,c,_,rfl,SqL.of (gi.mh _ _ (gi.mm _ _ hc)),fun z hz=>kk _ _ _ ((Gr.refl gi.mh).add hz) ?_⟩
  rw[SH.gD hl,← List.map_reverse]
  exact (Ats.ints _).lst upd_same
 have at3:Ats K M2 ((revU U).map intsT) ys:=ats_range at2 (by simp[revU] <;> omega) fun i t ht=>by
  unfold revU at ht
  rw[List.map_map,List.getElem?_map] at ht
  cases e:U[i]? with
  | none=>rw[e] at ht; cases ht
  | some l=>rw[e] at ht; cases ht; rw[SH.gD e]; rfl
 have g3:Gr M H (upd M2 y (.lst ys)) H2:=g2.frz hy m2 hys
 have hU3:At K (upd M2 y (.lst ys)) (intssT (revU U)) (.ref y):=(at3.mono (same_new m2 _)).lst upd_same
 generalize upd M2 y (.lst ys)=M3 at g3 hU3
 refine⟨_,rfl,_,rfl,b2,_,rfl,.inl (SqL.of (g3.mh _ _ (g3.mm _ _ hb2))),fun c2 hc2=>?_⟩
 have g4:=g3.add (o:=.lst (am.map V.int)) hc2
 have s4:Same M3 (upd M3 c2 (.lst (am.map V.int))):=same_new (g3.mh.free hc2) _
 have hA4:At K (upd M3 c2 (.lst (am.map V.int))) (intsT am) (.ref c2):=(Ats.ints _).lst upd_same
 generalize upd M3 c2 (.lst (am.map V.int))=M4 at g4 s4 hA4
 generalize upd H2 c2 (.lst (am.map V.int))=H4 at g4 ⊢
 refine⟨_,rfl,b3,_,rfl,SqL.of (g4.mh _ _ (g4.mm _ _ hb3)),fun c3 hc3=>?_⟩
 rw[← List.map_reverse]
 have g5:=g4.add (o:=.lst (gn.reverse.map V.int)) hc3
 have s5:Same M4 (upd M4 c3 (.lst (gn.reverse.map V.int))):=same_new (g4.mh.free hc3) _
 have hG5:At K (upd M4 c3 (.lst (gn.reverse.map V.int))) (intsT gn.reverse) (.ref c3):=(Ats.ints _).lst upd_same
 generalize upd M4 c3 (.lst (gn.reverse.map V.int))=M5 at g5 s5 hG5
 generalize upd H4 c3 (.lst (gn.reverse.map V.int))=H5 at g5 ⊢
 have TR:=rev_tsk TK
 refine⟨_,_,_,revU U,am,gn.reverse,M5,rfl,TR,(hU3.mono s4).mono s5,hA4.mono s5,hG5,g5.mh,g5.tt _ hT,fun an v M6 H6 g6 R sm tv=>?_⟩
 have g06:=g5.trans g6
 refine⟨_,rfl,_,rfl,b3,_,rfl,.inl (SqL.of (g06.mh _ _ (g06.mm _ _ hb3))),_,rfl,b1,_,rfl,.inl (SqL.of (g06.mh _ _ (g06.mm _ _ hb1))),_,revU U,am,gn.reverse,an,M6,by rw[List.length_map,lx1,List.length_reverse]; rfl,TR,tv,R,g06.mh,_,rfl,iteF ?_⟩
 have fi:=fit5 R sm
 cases an with
 | no y=>
  have tv':=tv
  obtain⟨a,vy,rfl,ha,hy⟩:=ans_inv2 tv
  have haH:=g6.mh.tup ha
  refine⟨_,rfl,a,_,_,_,rfl,rfl,haH,atI_nat (j:=0) rfl,rfl,_,rfl,?_⟩
  rw[decide_eq_true rfl]
  exact iteT ⟨_,rfl,q (.no y) _ _ _ g06 fi tv'⟩
 | best x y=>
  obtain⟨a,vx,vy,rfl,ha,hx,hy⟩:=ans_inv3 tv
  have haH:=g6.mh.tup ha
  refine⟨_,rfl,a,_,_,_,rfl,rfl,haH,atI_nat (j:=0) rfl,rfl,_,rfl,?_⟩
  rw[nb_ne]
  refine iteF ?_
  refine⟨_,rfl,a,_,_,_,rfl,rfl,haH,atI_nat (j:=0) rfl,rfl,_,rfl,?_⟩
  rw[decide_eq_true rfl]
  refine iteT ?_
  obtain⟨lx,zx,rfl,hlx,ax⟩:=hx.lst_inv
  obtain⟨ly,zy,rfl,hly,ay⟩:=id hy.lst_inv
  refine⟨_,rfl,a,_,_,_,rfl,rfl,haH,atI_nat (j:=1) rfl,lx,_,rfl,SqL.of (g06.mh _ _ hlx),fun p1 hp1=>?_⟩
  have g7:=g06.add (o:=.lst zx.reverse) hp1
  have s7:Same M6 (upd M6 p1 (.lst zx.reverse)):=same_new (g06.mh.free hp1) _
  have n7:At K (upd M6 p1 (.lst zx.reverse)) (lnT x.reverse) (.ref p1):=Ats.lst (xs:=zx.reverse) (by rw[List.map_reverse]; exact (rev_ats ax).mono s7) upd_same
  generalize upd M6 p1 (.lst zx.reverse)=M7 at g7 s7 n7
  generalize upd H6 p1 (.lst zx.reverse)=H7 at g7 ⊢
  refine⟨_,rfl,a,_,_,_,rfl,rfl,g7.mh.tup (s7.tup ha),atI_nat (j:=2) rfl,ly,_,rfl,.inl (SqL.of (g7.mh _ _ (s7 _ _ hly))),fun p2 hp2=>?_⟩
  have g8:=g7.add (o:=.lst zy) hp2
  have s8:Same M7 (upd M7 p2 (.lst zy)):=same_new (g7.mh.free hp2) _
  have n8:At K (upd M7 p2 (.lst zy)) (lnT y) (.ref p2):=Ats.lst (ay.mono (s7.trans s8)) upd_same
  generalize upd M7 p2 (.lst zy)=M8 at g8 s8 n8
  generalize upd H7 p2 (.lst zy)=H8 at g8 ⊢
  refine⟨three_ok,fun p3 hp3=>q (.best x.reverse y) _ _ _ (g8.add hp3) ⟨by rw[List.length_reverse,fi.1,List.length_reverse],fi.2.1,rev_sm fi.2.2.1,fi.2.2.2⟩ ?_⟩
  have s9:=same_new (g8.mh.free hp3) (.tup [.str "best",.ref p1,.ref p2])
  exact answer3 upd_same ((n7.mono s8).mono s9) (n8.mono s9)
 | endl x y=>
  obtain⟨a,vx,vy,rfl,ha,hx,hy⟩:=ans_inv3 tv
  have haH:=g6.mh.tup ha
  refine⟨_,rfl,a,_,_,_,rfl,rfl,haH,atI_nat (j:=0) rfl,rfl,_,rfl,?_⟩
  rw[ne_ne]
  refine iteF ?_
  refine⟨_,rfl,a,_,_,_,rfl,rfl,haH,atI_nat (j:=0) rfl,rfl,_,rfl,?_⟩
  rw[eb_ne]
  refine iteF ?_
  obtain⟨lx,zx,rfl,hlx,ax⟩:=hx.lst_inv
  obtain⟨ly,zy,rfl,hly,ay⟩:=hy.lst_inv
  refine⟨_,rfl,a,_,_,_,rfl,rfl,haH,atI_nat (j:=1) rfl,lx,_,rfl,SqL.of (g06.mh _ _ hlx),fun p1 hp1=>?_⟩
  have g7:=g06.add (o:=.lst zx.reverse) hp1
  have s7:Same M6 (upd M6 p1 (.lst zx.reverse)):=same_new (g06.mh.free hp1) _
  have n7:At K (upd M6 p1 (.lst zx.reverse)) (lnT x.reverse) (.ref p1):=Ats.lst (xs:=zx.reverse) (by rw[List.map_reverse]; exact (rev_ats ax).mono s7) upd_same
  generalize upd M6 p1 (.lst zx.reverse)=M7 at g7 s7 n7
  generalize upd H6 p1 (.lst zx.reverse)=H7 at g7 ⊢
  refine⟨_,rfl,a,_,_,_,rfl,rfl,g7.mh.tup (s7.tup ha),atI_nat (j:=2) rfl,ly,_,rfl,SqL.of (g7.mh _ _ (s7 _ _ hly)),fun p2 hp2=>?_⟩
  have g8:=g7.add (o:=.lst zy.reverse) hp2
  have s8:Same M7 (upd M7 p2 (.lst zy.reverse)):=same_new (g7.mh.free hp2) _
  have n8:At K (upd M7 p2 (.lst zy.reverse)) (lnT y.reverse) (.ref p2):=Ats.lst (xs:=zy.reverse) (by rw[List.map_reverse]; exact (rev_ats ay).mono (s7.trans s8)) upd_same
  generalize upd M7 p2 (.lst zy.reverse)=M8 at g8 s8 n8
  generalize upd H7 p2 (.lst zy.reverse)=H8 at g8 ⊢
  refine⟨three_ok,fun p3 hp3=>q (.endl x.reverse y.reverse) _ _ _ (g8.add hp3) ⟨by rw[List.length_reverse,fi.1,List.length_reverse],by rw[List.length_reverse,fi.2.1,List.length_reverse],rev_sm fi.2.2.1,rev_sm fi.2.2.2⟩ ?_⟩
  have s9:=same_new (g8.mh.free hp3) (.tup [.str "endless",.ref p1,.ref p2])
  exact answer3 upd_same ((n7.mono s8).mono s9) (n8.mono s9)
end
end W1
namespace W1
open PySem PySem.Spec L2
def spLaw (K:PySem.W.Frag) (Pt:Addr):Sp:=fun vs H Q _=>∃ (a:Addr) (ns:List Int),vs=[.ref a]∧SqL K H a (ns.map V.int)∧ns.length≤63∧TabOk Pt noM H∧∀ H',Q (.bl true) H'
theorem noM_same (H:Hp):Same noM H:=fun b o e=>by cases e
theorem cnts_ints:∀ l:List Int,cnts (l.map Tr.int)=l.length
 | []=>rfl
 | _ :: l=>by
  show 1+cnts (l.map Tr.int)=l.length+1
  rw[cnts_ints l]; omega
theorem cnt_ints (l:List Int):cnt (intsT l)=1+l.length:=by
 show 1+cnts (l.map Tr.int)=_
 rw[cnts_ints]
theorem cnts_intss {n:Nat}:∀ U:List (List Int),(∀ row∈U,row.length=n)→cnts (U.map intsT)=U.length*(1+n)
 | [],_=>by simp[cnts]
 | row :: U,h=>by
  show cnt (intsT row)+cnts (U.map intsT)=(U.length+1)*(1+n)
  rw[cnts_intss U fun r hr=>h r (List.mem_cons_of_mem _ hr),cnt_ints,h row List.mem_cons_self,Nat.succ_mul]; omega
theorem cnt_task {U:List (List Int)} {am gn:List Int} (T:Tsk U am gn):cnt (.lst [intssT U,intsT am,intsT gn])≤1000:=by
 have h1:cnt (intssT U)=1+U.length*(1+gn.length):=by
  show 1+cnts (U.map intsT)=_
  rw[cnts_intss U T.t.hw]
 have h2:=cnt_ints am
 have h3:=cnt_ints gn
 have e:cnt (.lst [intssT U,intsT am,intsT gn])=1+(cnt (intssT U)+(cnt (intsT am)+(cnt (intsT gn)+0))):=rfl
 rw[e,h1,h2,h3]
 have a:=T.m
 have b:=T.n
 have c:=T.t.hm
 have:U.length*(1+gn.length)≤7*8:=Nat.mul_le_mul (by omega) (by omega)
 omega
theorem cnts_frs:∀ l:List Rat,cnts (l.map frT)=3*l.length
 | []=>rfl
 | _ :: l=>by
  show 3+cnts (l.map frT)=3*(l.length+1)
  rw[cnts_frs l]; omega
theorem cnt_ln (l:List Rat):cnt (lnT l)=1+3*l.length:=by
 show 1+cnts (l.map frT)=_
 rw[cnts_frs]
theorem cnt_ans {am gn:List Int} {a:SH.Ans} (F:Fit5 am gn a) (hm:am.length≤7) (hn:gn.length≤7):cnt (ansT a)≤1000:=by
 cases a with
 | best x y=>
  show 1+(1+(cnt (lnT x)+(cnt (lnT y)+0)))≤1000
  rw[cnt_ln,cnt_ln,F.1,F.2.1]; omega
 | no y=>
  show 1+(1+(cnt (lnT y)+0))≤1000
  rw[cnt_ln,F.1]; omega
 | endl x y=>
  show 1+(1+(cnt (lnT x)+(cnt (lnT y)+0)))≤1000
  rw[cnt_ln,cnt_ln,F.1,F.2.1]; omega
section
variable {P:Program} {w:World} {K:PySem.W.Frag} {mg:Str→Option Value} {base:Heap} {t:Adr} {k:Nat} {Pt:Addr}
theorem tup3_inv {M:Hp} {t1 t2 t3:Tr} {v:V} (h:At K M (.tup [t1,t2,t3]) v):∃ p v1 v2 v3,v = .ref p∧SqT K M p [v1,v2,v3]∧At K M t1 v1∧At K M t2 v2∧At K M t3 v3:=by
 obtain⟨a,xs,rfl,hs,ats⟩:=h.tup_inv
 have hl:xs.length=3:=by have:=ats.1; simpa using this.symm
 match xs,hl with
 | [u1,u2,u3],_=>exact⟨a,u1,u2,u3,rfl,hs,ats.2 0 _ u1 rfl rfl,ats.2 1 _ u2 rfl rfl,ats.2 2 _ u3 rfl rfl⟩
theorem ans_ref {M:Hp} {a:SH.Ans} {v:V} (h:At K M (ansT a) v):∃ p,v = .ref p:=by
 rw[ansT_ps] at h
 obtain⟨p,_,e,_⟩:=h.tup_inv
 exact⟨p,e⟩
set_option maxHeartbeats 4000000 in
theorem law_T (T:Txt K mg t) (G_stands:FnOk P w K mg base (CXE P w) k t.f_stands t.d_stands ["uses","amounts","gains","answer"] (spSh K)) (G_Lsame:FnOk P w K mg base (CXE P w) k t.f_Lsame t.d_Lsame ["_law_found","_law_due"] (spSame K)) (G_Lshown_right:FnOk P w K mg base (CXE P w) k t.f_Lshown_right t.d_Lshown_right ["_law_uses","_law_amounts","_law_gains","_law_found"] (spSh K))
  {cdv:Value} {A0:Around} {outer:List Env} {s:Shared} {H:Hp} {E:XK} (hr:Room k (A0.deeper (PyProof.Rows.envOfC "law" (defScope s_law) s.heap.objs.size t.f_law cdv))) {a:Addr} {ns:List Int} (hS:SqL K H a (ns.map V.int)) (h63:ns.length≤63) {M:Hp}:∃ u,PSs (cxOf (CXE P w) P w K mg base ["_law_script","_law_least","_law_answer","_law_way","_law_handed","_law_told","_law_found","_law_due","_law_uses","_law_amounts","_law_gains","_law_edge"] "law" (defScope s_law) t.f_law cdv A0 outer s H E) ((defBody s_law).drop 10) u ∧
   ∀ (D:Ends),(∀ H'',D.rt (.bl true) H'')→∀ (U:List (List Int)) (am gn:List Int) (an:SH.Ans) (v1 v2 v3 v4:V) (M1 H1:Hp) (e1 e3 e11:Option V),Tsk U am gn→Tk K M1 U am gn v1 v2 v3→At K M1 (ansT an) v4→Fit5 am gn an→Gr M H M1 H1→u D [some (.ref a),e1,some v4,e3,none,none,none,none,some v1,some v2,some v3,e11] H1:=by
 refine ex_cons (ps_set (i:=4) sc_law.nd rfl (Or.inl rfl) (pe_lst (pa_cons (pe_compG rfl (compt_of (n:=1) (js:=[]) (Nb:=["_law_row"]) (by kernel_rfl) rfl (by decide +kernel) (by decide) (by kernel_rfl)) (pi_list (pv 8)) (fun C s0 H0 fp pn'=>(pg_name (i:=0) (nd_of (l:=["_law_row"]) (by decide +kernel)) rfl (Or.inl rfl))) own_name (fun C s0 H0 fp pn'=>pts_none) (fun C s0 H0 fp pn'=>(pe_callTy (r:=rListOf K) call_list_of rfl T.n_list bt_list (pa_cons (pv 0) pa_nil)))) (pa_cons (pe_callTy call_list_of rfl T.n_list bt_list (pa_cons (pv 9) pa_nil)) (pa_cons (pe_callTy call_list_of rfl T.n_list bt_list (pa_cons (pv 10) pa_nil)) pa_nil))))) ?_
 refine ex_cons (ps_set (i:=5) sc_law.nd rfl (Or.inl rfl) (pe_callTy call_tuple_of rfl T.n_tuple bt_tuple (pa_cons (pe_op op_cat (pe_lst (pa_cons (pe_ix ix_tup (pv 2) pe_int (fun _ _=>rfl)) pa_nil)) (pe_compG rfl (compt_of (n:=1) (js:=[]) (Nb:=["_law_row"]) (by kernel_rfl) rfl (by decide +kernel) (by decide) (by kernel_rfl)) (pi_tup (pe_slice sl_tup (pv 2) (po_some pe_int) po_none)) (fun C s0 H0 fp pn'=>(pg_name (i:=0) (nd_of (l:=["_law_row"]) (by decide +kernel)) rfl (Or.inl rfl))) own_name (fun C s0 H0 fp pn'=>pts_none) (fun C s0 H0 fp pn'=>(pe_callTy (r:=rListOf K) call_list_of rfl T.n_list bt_list (pa_cons (pv 0) pa_nil))))) pa_nil))) ?_
 refine ex_cons (ps_set (i:=6) sc_law.nd rfl (Or.inl rfl) (pe_call G_stands hr rfl T.m_stands T.F_stands.kp T.b_stands .nil pass_no (pa_cons (pe_ix ix_list (pv 4) pe_int (fun _ _=>rfl)) (pa_cons (pe_ix ix_list (pv 4) pe_int (fun _ _=>rfl)) (pa_cons (pe_ix ix_list (pv 4) pe_int (fun _ _=>rfl)) (pa_cons (pv 5) pa_nil)))))) ?_
 refine ex_cons (ps_if (PW.pt (pw_or (pt_not (pt_val (pe_call G_Lsame hr rfl T.m_Lsame T.F_Lsame.kp T.b_Lsame .nil pass_no (pa_cons (pv 4) (pa_cons (pe_lst (pa_cons (pv 8) (pa_cons (pv 9) (pa_cons (pv 10) pa_nil)))) pa_nil))))) (pw_or1 (pt_not (pt_val (pe_call G_Lsame hr rfl T.m_Lsame T.F_Lsame.kp T.b_Lsame .nil pass_no (pa_cons (pv 5) (pa_cons (pv 2) pa_nil))))))))
   (pss_one (ps_ret pe_bl))
   pss_nil) ?_
 refine ex_cons (ps_set (i:=7) sc_law.nd rfl (Or.inl rfl) (pe_call G_Lshown_right hr rfl T.m_Lshown_right T.F_Lshown_right.kp T.b_Lshown_right .nil pass_no (pa_cons (pv 8) (pa_cons (pv 9) (pa_cons (pv 10) (pa_cons (pv 2) pa_nil)))))) ?_
 refine ex_one (ps_ret (pe_and (pe_callB call_isV rfl T.n_isinstance PyProof.Rows.boot_isinstance (pa_cons (pv 6) (pa_cons (pe_bltn (v:=.ty "bool") rfl T.n_bool bt_bool rfl) pa_nil))) (pe_one (pe_cmpR op_eq (pv 6) (pv 7) (nomark _))))) ?_
 intro D hD U am gn an v1 v2 v3 v4 M1 H1 e1 e3 e11 TK D0 t4 fi g1
 have tm:=TK.m
 have tn:=TK.n
 have hm:=TK.t.hm
 obtain⟨b1,x1,rfl,hb1,ats1⟩:=id D0.u.lst_inv
 obtain⟨b2,rfl,hb2⟩:=ints_get D0.a
 obtain⟨b3,rfl,hb3⟩:=ints_get D0.g
 have lx1:x1.length=am.length:=by have:=ats1.1; simp at this; omega
 refine⟨_,rfl,b1,rfl,⟨_,SqL.of (g1.mh _ _ hb1)⟩,fun y hy=>cm_list (K:=K) (M:=M1) (F:=fun i=>intsT (U.getD i [])) g1.mh hb1 (by omega) hy (fun i x Mi Hi Qy hx gi kk=>?_) (fun M2 H2 ys g2 m2 hys at2=>?_)⟩
 ·obtain⟨l,hl,atl⟩:=intss_get' ats1 hx
  obtain⟨c,rfl,hc⟩:=ints_get atl
  refine⟨_,rfl,c,_,rfl,.inl (SqL.of (gi.mh _ _ (gi.mm _ _ hc))),fun z hz=>kk _ _ _ ((Gr.refl gi.mh).add hz) ?_⟩
  rw[SH.gD hl]
  exact (Ats.ints _).lst upd_same
 have at3:Ats K M2 (U.map intsT) ys:=ats_range at2 (by simp <;> omega) fun i t ht=>by
  rw[List.getElem?_map] at ht
  cases e:U[i]? with
  | none=>rw[e] at ht; cases ht
  | some l=>rw[e] at ht; cases ht; rw[SH.gD e]
 have g3:Gr M H (upd M2 y (.lst ys)) H2:=(g1.trans g2).frz (g1.hfree hy) m2 hys
 have s13:Same M1 (upd M2 y (.lst ys)):=g2.mm.trans (same_new m2 _)
 have hU3:At K (upd M2 y (.lst ys)) (intssT U) (.ref y):=(at3.mono (same_new m2 _)).lst upd_same
 generalize upd M2 y (.lst ys)=M3 at g3 s13 hU3
 refine⟨_,rfl,b2,_,rfl,.inl (SqL.of (g3.mh _ _ (s13 _ _ hb2))),fun c2 hc2=>?_⟩
 have g4:=g3.add (o:=.lst (am.map V.int)) hc2
 have s34:Same M3 (upd M3 c2 (.lst (am.map V.int))):=same_new (g3.mh.free hc2) _
 have hA4:At K (upd M3 c2 (.lst (am.map V.int))) (intsT am) (.ref c2):=(Ats.ints _).lst upd_same
 generalize upd M3 c2 (.lst (am.map V.int))=M4 at g4 s34 hA4
 generalize upd H2 c2 (.lst (am.map V.int))=H4 at g4 ⊢
 refine⟨_,rfl,b3,_,rfl,.inl (SqL.of (g4.mh _ _ (s34 _ _ (s13 _ _ hb3)))),fun c3 hc3=>?_⟩
 have g5:=g4.add (o:=.lst (gn.map V.int)) hc3
 have s45:Same M4 (upd M4 c3 (.lst (gn.map V.int))):=same_new (g4.mh.free hc3) _
 have hG5:At K (upd M4 c3 (.lst (gn.map V.int))) (intsT gn) (.ref c3):=(Ats.ints _).lst upd_same
 generalize upd M4 c3 (.lst (gn.map V.int))=M5 at g5 s45 hG5
 generalize upd H4 c3 (.lst (gn.map V.int))=H5 at g5 ⊢
 refine⟨three_ok,fun p8 hp8=>?_⟩
 have g6:=g5.add (o:=.lst [.ref y,.ref c2,.ref c3]) hp8
 have s56:Same M5 (upd M5 p8 (.lst [.ref y,.ref c2,.ref c3])):=same_new (g5.mh.free hp8) _
 have h8:upd M5 p8 (.lst [.ref y,.ref c2,.ref c3]) p8=some (.lst [.ref y,.ref c2,.ref c3]):=upd_same
 generalize upd M5 p8 (.lst [.ref y,.ref c2,.ref c3])=M6 at g6 s56 h8
 generalize upd H5 p8 (.lst [.ref y,.ref c2,.ref c3])=H6 at g6 ⊢
 have D6:Tk K M6 U am gn (.ref y) (.ref c2) (.ref c3):=⟨hU3.mono (s34.trans (s45.trans s56)),hA4.mono (s45.trans s56),hG5.mono s56⟩
 have s16:Same M1 M6:=s13.trans (s34.trans (s45.trans s56))
 have kT:At K M6 (.lst [intssT U,intsT am,intsT gn]) (.ref p8):=(Ats.cons D6.u (Ats.cons D6.a (Ats.cons D6.g Ats.nil))).lst h8
 have t6:=t4.mono s16
 obtain⟨pa,xs,rfl,hpa,ats⟩:=(ansT_ps an▸t6:At K M6 (.tup (.str (nmA an) :: (psA an).map lnT)) v4).tup_inv
 obtain⟨zs,rfl,aty⟩:=ats_str ats
 have hzl:zs.length=(psA an).length:=by have:=aty.1; simp at this; omega
 have ps2:=(ps_pos an).2
 refine⟨_,rfl,pa,_,_,_,rfl,rfl,g6.mh.tup hpa,atI_nat (j:=0) rfl,one_ok,fun q1 hq1=>?_⟩
 have g7:=g6.add (o:=.lst [.str (nmA an)]) hq1
 have s67:Same M6 (upd M6 q1 (.lst [.str (nmA an)])):=same_new (g6.mh.free hq1) _
 have hq7:upd M6 q1 (.lst [.str (nmA an)]) q1=some (.lst [.str (nmA an)]):=upd_same
 generalize upd M6 q1 (.lst [.str (nmA an)])=M7 at g7 s67 hq7
 generalize upd H6 q1 (.lst [.str (nmA an)])=H7 at g7 ⊢
 refine⟨_,rfl,_,rfl,pa,_,rfl,g7.mh.tup (s67.tup hpa),cut_1no,fun sl hsl=>?_⟩
 rw[cut_1]
 have g8:=g7.add (o:=.tup zs) hsl
 have s78:Same M7 (upd M7 sl (.tup zs)):=same_new (g7.mh.free hsl) _
 have hs8:SqT K (upd M7 sl (.tup zs)) sl zs:=SqT.of upd_same
 generalize upd M7 sl (.tup zs)=M8 at g8 s78 hs8
 generalize upd H7 sl (.tup zs)=H8 at g8 ⊢
 have s68:Same M6 M8:=s67.trans s78
 refine⟨sl,rfl,⟨_,g8.mh.tup hs8⟩,fun yy hyy=>cm_tup (K:=K) (M:=M8) (F:=fun i=>lnT ((psA an).getD i [])) g8.mh hs8 (by omega) hyy (fun i x Mi Hi Qy hx gi kk=>?_) (fun M9 H9 ws g9 m9 hws at9=>?_)⟩
 ·obtain⟨tr,ht,atr⟩:=aty.get' hx
  rw[List.getElem?_map] at ht
  cases e:(psA an)[i]? with
  | none=>rw[e] at ht; cases ht
  | some l=>
   rw[e] at ht
   cases ht
   obtain⟨c,us,rfl,hc,ac⟩:=atr.lst_inv
   refine⟨_,rfl,c,_,rfl,.inl (SqL.of (gi.mh _ _ (gi.mm _ _ (s68 _ _ hc)))),fun z hz=>kk _ _ _ ((Gr.refl gi.mh).add hz) ?_⟩
   rw[show (psA an).getD i []=l by simp[List.getD,e]]
   exact Ats.lst (xs:=us) ((ac.mono (s68.trans gi.mm)).mono (same_new (gi.mh.free hz) _)) upd_same
 have at10:Ats K M9 ((psA an).map lnT) ws:=ats_range at9 (by simp <;> omega) fun i t ht=>by
  rw[List.getElem?_map] at ht
  cases e:(psA an)[i]? with
  | none=>rw[e] at ht; cases ht
  | some l=>rw[e] at ht; cases ht; rw[show (psA an).getD i []=l by simp[List.getD,e]]
 have ga:Gr M H (upd M9 yy (.lst ws)) H9:=(g8.trans g9).frz (g8.hfree hyy) m9 hws
 have s8a:Same M8 (upd M9 yy (.lst ws)):=g9.mm.trans (same_new m9 _)
 have hwa:upd M9 yy (.lst ws) yy=some (.lst ws):=upd_same
 have ata:=at10.mono (same_new m9 (.lst ws))
 generalize upd M9 yy (.lst ws)=Ma at ga s8a hwa ata
 have hwl:ws.length≤2:=by have:=at10.1; simp at this; omega
 refine⟨q1,yy,_,_,rfl,rfl,ga.mh _ _ (s8a _ _ (s78 _ _ hq7)),ga.mh _ _ hwa,big1000 (by simp; omega),fun q2 hq2=>?_⟩
 have gb:Gr M H Ma (upd H9 q2 (.lst ([.str (nmA an)]++ws))):=ga.new hq2
 refine⟨q2,_,rfl,.inl ⟨SqL.of upd_same,fun q3 hq3=>?_⟩⟩
 generalize upd H9 q2 (.lst ([.str (nmA an)]++ws))=Hb at gb hq3 ⊢
 have gc:=gb.add (o:=.tup ([.str (nmA an)]++ws)) hq3
 have sac:Same Ma (upd Ma q3 (.tup ([.str (nmA an)]++ws))):=same_new (gb.mh.free hq3) _
 have tld:At K (upd Ma q3 (.tup ([.str (nmA an)]++ws))) (ansT an) (.ref q3):=by
  rw[ansT_ps]
  exact Ats.tup (xs:=.str (nmA an) :: ws) (Ats.cons .str (ata.mono sac)) (SqT.of upd_same)
 generalize upd Ma q3 (.tup ([.str (nmA an)]++ws))=Mc at gc sac tld
 generalize upd Hb q3 (.tup ([.str (nmA an)]++ws))=Hc at gc ⊢
 have s6c:Same M6 Mc:=s68.trans (s8a.trans sac)
 have Dc:=D6.mono s6c
 have q8:SqL K Hc p8 [.ref y,.ref c2,.ref c3]:=SqL.of (gc.mh _ _ (s6c _ _ h8))
 refine⟨_,rfl,p8,_,_,_,rfl,rfl,q8,atI_nat (j:=0) rfl,_,rfl,p8,_,_,_,rfl,rfl,q8,atI_nat (j:=1) rfl,_,rfl,p8,_,_,_,rfl,rfl,q8,atI_nat (j:=2) rfl,_,rfl,_,_,_,_,U,am,gn,an,Mc,rfl,TK,Dc,tld,fi,gc.mh,fun b Md Hd gd hb=>?_⟩
 have ge:=gc.trans gd
 have s1d:Same M1 Md:=s16.trans (s6c.trans gd.mm)
 refine⟨_,rfl,_,rfl,_,rfl,_,rfl,three_ok,fun p9 hp9=>?_⟩
 have gf:=ge.add (o:=.lst [.ref b1,.ref b2,.ref b3]) hp9
 have sdf:Same Md (upd Md p9 (.lst [.ref b1,.ref b2,.ref b3])):=same_new (ge.mh.free hp9) _
 have h9:upd Md p9 (.lst [.ref b1,.ref b2,.ref b3]) p9=some (.lst [.ref b1,.ref b2,.ref b3]):=upd_same
 generalize upd Md p9 (.lst [.ref b1,.ref b2,.ref b3])=Mf at gf sdf h9
 generalize upd Hd p9 (.lst [.ref b1,.ref b2,.ref b3])=Hf at gf ⊢
 have Df:=D0.mono (s1d.trans sdf)
 have k9:At K Mf (.lst [intssT U,intsT am,intsT gn]) (.ref p9):=(Ats.cons Df.u (Ats.cons Df.a (Ats.cons Df.g Ats.nil))).lst h9
 have s6f:Same M6 Mf:=s6c.trans (gd.mm.trans sdf)
 refine⟨_,_,_,Mf,rfl,kT.mono s6f,k9,cnt_task TK,gf.mh,fun Hg gg=>⟨_,rfl,iteF ?_⟩⟩
 have gh:=gf.trans gg
 have tf:=t6.mono s6f
 refine⟨_,rfl,_,rfl,_,_,_,Mf,rfl,(tld.mono gd.mm).mono sdf,tf,cnt_ans fi tm tn,gh.mh,fun Hi gi=>⟨_,rfl,iteF ?_⟩⟩
 have gj:=gh.trans gi
 refine⟨_,rfl,_,rfl,_,rfl,_,rfl,_,_,_,_,U,am,gn,an,Mf,rfl,TK,Df,tf,fi,gj.mh,fun b' Mk Hk gk hb'=>?_⟩
 have eb:b=b':=by
  rw[Bool.eq_iff_iff,hb,hb']
 subst eb
 refine⟨_,rfl,_,_,_,_,rfl,.bl _,kit_same,_,rfl,iteT ?_⟩
 refine⟨_,rfl,_,rfl,rfl,?_⟩
 rw[decide_eq_true rfl]
 exact hD _
set_option maxHeartbeats 4000000 in
theorem law_N (T:Txt K mg t) (G_stands:FnOk P w K mg base (CXE P w) k t.f_stands t.d_stands ["uses","amounts","gains","answer"] (spSh K)) (G_Lsame:FnOk P w K mg base (CXE P w) k t.f_Lsame t.d_Lsame ["_law_found","_law_due"] (spSame K)) (G_Lshown_right:FnOk P w K mg base (CXE P w) k t.f_Lshown_right t.d_Lshown_right ["_law_uses","_law_amounts","_law_gains","_law_found"] (spSh K)) (G_Lat:FnOk P w K mg base (CXE P w) k t.f_Lat t.d_Lat ["_law_script","_law_k"] (spAt K)) (G_Lof_turned:FnOk P w K mg base (CXE P w) k t.f_Lof_turned t.d_Lof_turned ["_law_uses","_law_amounts","_law_gains"] (spTurn K Pt)) (G_Lspoilt:FnOk P w K mg base (CXE P w) k t.f_Lspoilt t.d_Lspoilt ["_law_found","_law_spot","_law_way"] (spSpoil K)) (G_Lother_form:FnOk P w K mg base (CXE P w) k t.f_Lother_form t.d_Lother_form ["_law_script","_law_wares","_law_stocks"] (spOther K))
  {cdv:Value} {A0:Around} {outer:List Env} {s:Shared} {H:Hp} {E:XK} (hr:Room k (A0.deeper (PyProof.Rows.envOfC "law" (defScope s_law) s.heap.objs.size t.f_law cdv))) {a:Addr} {ns:List Int} (hS:SqL K H a (ns.map V.int)) (h63:ns.length≤63) {M:Hp} (hT:TabOk Pt M H):∃ u,PSs (cxOf (CXE P w) P w K mg base ["_law_script","_law_least","_law_answer","_law_way","_law_handed","_law_told","_law_found","_law_due","_law_uses","_law_amounts","_law_gains","_law_edge"] "law" (defScope s_law) t.f_law cdv A0 outer s H E) ((defBody s_law).drop 7) u ∧
   ∀ (D:Ends),(∀ H'',D.rt (.bl true) H'')→∀ (U:List (List Int)) (am gn:List Int) (an:SH.Ans) (v1 v2 v3 v4:V) (M1 H1:Hp) (e1 e11:Option V) (wy:Int),Tsk U am gn→Tk K M1 U am gn v1 v2 v3→At K M1 (ansT an) v4→Fit5 am gn an→(1<wy→wy<7→Fit4 am gn an)→Gr M H M1 H1→u D [some (.ref a),e1,some v4,some (.int wy),none,none,none,none,some v1,some v2,some v3,e11] H1:=by
 refine ex_cons (ps_if (pt_cmpR op_eq (pv 3) pe_int (nomark _))
   (pss_cons (ps_set (i:=2) sc_law.nd rfl (Or.inl rfl) (pe_call G_Lof_turned hr rfl T.m_Lof_turned T.F_Lof_turned.kp T.b_Lof_turned .nil pass_no (pa_cons (pv 8) (pa_cons (pv 9) (pa_cons (pv 10) pa_nil)))))
  (pss_one (ps_if (pt_cmp (pc_isN (pv 2)))
   (pss_one (ps_ret pe_bl))
   pss_nil)))
   pss_nil) ?_
 refine ex_cons (ps_if (PW.pt (pw_and (pt_cmpR op_gt (pv 3) pe_int (nomark _)) (pw_and1 (pt_cmpR op_lt (pv 3) pe_int (nomark _)))))
   (pss_one (ps_set (i:=2) sc_law.nd rfl (Or.inl rfl) (pe_call G_Lspoilt hr rfl T.m_Lspoilt T.F_Lspoilt.kp T.b_Lspoilt .nil pass_no (pa_cons (pv 2) (pa_cons (pe_call G_Lat hr rfl T.m_Lat T.F_Lat.kp T.b_Lat .nil pass_no (pa_cons (pv 0) (pa_cons pe_int pa_nil))) (pa_cons (pe_op op_sub (pv 3) pe_int) pa_nil))))))
   pss_nil) ?_
 refine ex_cons (ps_if (pt_cmpR op_eq (pv 3) pe_int (nomark _))
   (pss_one (ps_set (i:=2) sc_law.nd rfl (Or.inl rfl) (pe_call G_Lother_form hr rfl T.m_Lother_form T.F_Lother_form.kp T.b_Lother_form .nil pass_no (pa_cons (pv 0) (pa_cons (pe_callB call_len_seq rfl T.n_len PySem.boot_len (pa_cons (pv 10) pa_nil)) (pa_cons (pe_callB call_len_seq rfl T.n_len PySem.boot_len (pa_cons (pv 8) pa_nil)) pa_nil))))))
   pss_nil) ?_
 refine ex_tail (law_T T G_stands G_Lsame G_Lshown_right hr hS h63 (M:=M)) (fun rest hrest=>?_)
 intro D hD U am gn an v1 v2 v3 v4 M1 H1 e1 e11 wy TK D0 t4 fi f4 g1
 have tm:=TK.m
 have tn:=TK.n
 have hm:=TK.t.hm
 refine⟨_,rfl,rfl,_,rfl,ite2 (fun c1=>?_) (fun c1=>?_)⟩
 ·-- the one turned back
  have c1:=eq_of_test c1
  refine⟨_,rfl,_,rfl,_,rfl,_,_,_,U,am,gn,M1,rfl,TK,D0,g1.mh,g1.tt _ hT,fun a' v' M2 H2 g2 f2 t2=>?_⟩
  have g12:=g1.trans g2
  obtain⟨p,rfl⟩:=ans_ref t2
  refine⟨_,rfl,_,rfl,iteF ?_⟩
  refine⟨_,rfl,_,_,rfl,rfl,_,rfl,ite2 (fun c2=>?_) (fun _=>?_)⟩
  ·have:=of_decide_eq_true c2
   omega
  refine iteF ?_
  refine⟨_,rfl,rfl,_,rfl,ite2 (fun c3=>?_) (fun _=>?_)⟩
  ·have:=eq_of_test c3
   omega
  exact hrest D hD U am gn a' _ _ _ _ M2 H2 _ _ _ TK (D0.mono g2.mm) t2 f2 g12
 have c1:=ne_of_ntest c1
 refine⟨_,rfl,_,_,rfl,rfl,_,rfl,ite2 (fun c2=>?_) (fun c2=>?_)⟩
 ·have c2:=of_decide_eq_true c2
  refine⟨_,rfl,_,_,rfl,rfl,_,rfl,ite2 (fun c3=>?_) (fun c3=>?_)⟩
  ·-- spoilt
   have c3:=of_decide_eq_true c3
   refine⟨_,rfl,_,rfl,a,ns,_,M1,rfl,g1.hseq hS,h63,g1.mh,fun H2 g2=>?_⟩
   refine⟨_,rfl,_,_,rfl,rfl,_,_,_,am,gn,an,M1,rfl,tm,tn,t4,f4 c2 c3,by omega,by omega,g2.mh,fun a' v' M3 H3 g3 f3 t3=>?_⟩
   refine⟨_,rfl,rfl,_,rfl,ite2 (fun c4=>?_) (fun _=>?_)⟩
   ·have:=eq_of_test c4
    omega
   exact hrest D hD U am gn a' _ _ _ _ M3 H3 _ _ _ TK (D0.mono (g2.trans g3).mm) t3 f3 ((g1.trans g2).trans g3)
  ·refine⟨_,rfl,rfl,_,rfl,ite2 (fun c4=>?_) (fun _=>?_)⟩
   ·-- another form
    obtain⟨b1,x1,rfl,hb1,ats1⟩:=id D0.u.lst_inv
    obtain⟨b3,rfl,hb3⟩:=ints_get D0.g
    have lx1:x1.length=am.length:=by have:=ats1.1; simp at this; omega
    refine⟨_,rfl,_,rfl,b3,_,rfl,.inl (SqL.of (g1.mh _ _ hb3)),_,rfl,b1,_,rfl,.inl (SqL.of (g1.mh _ _ hb1)),a,ns,am,gn,M1,by rw[List.length_map,lx1]; rfl,g1.hseq hS,h63,tm,tn,g1.mh,fun a' v' M3 H3 g3 f3 t3=>?_⟩
    exact hrest D hD U am gn a' _ _ _ _ M3 H3 _ _ _ TK (D0.mono g3.mm) t3 f3 (g1.trans g3)
   ·exact hrest D hD U am gn an _ _ _ _ M1 H1 _ _ _ TK D0 t4 fi g1
 ·have c2:¬ 1<wy:=fun h=>c2 (decide_eq_true h)
  refine iteF ?_
  refine⟨_,rfl,rfl,_,rfl,ite2 (fun c4=>?_) (fun _=>?_)⟩
  ·have:=eq_of_test c4
   omega
  exact hrest D hD U am gn an _ _ _ _ M1 H1 _ _ _ TK D0 t4 fi g1
set_option maxHeartbeats 4000000 in
theorem law_M (T:Txt K mg t) (G_stands:FnOk P w K mg base (CXE P w) k t.f_stands t.d_stands ["uses","amounts","gains","answer"] (spSh K)) (G_Lsame:FnOk P w K mg base (CXE P w) k t.f_Lsame t.d_Lsame ["_law_found","_law_due"] (spSame K)) (G_Lshown_right:FnOk P w K mg base (CXE P w) k t.f_Lshown_right t.d_Lshown_right ["_law_uses","_law_amounts","_law_gains","_law_found"] (spSh K)) (G_Lat:FnOk P w K mg base (CXE P w) k t.f_Lat t.d_Lat ["_law_script","_law_k"] (spAt K)) (G_Lof_turned:FnOk P w K mg base (CXE P w) k t.f_Lof_turned t.d_Lof_turned ["_law_uses","_law_amounts","_law_gains"] (spTurn K Pt)) (G_Lspoilt:FnOk P w K mg base (CXE P w) k t.f_Lspoilt t.d_Lspoilt ["_law_found","_law_spot","_law_way"] (spSpoil K)) (G_Lother_form:FnOk P w K mg base (CXE P w) k t.f_Lother_form t.d_Lother_form ["_law_script","_law_wares","_law_stocks"] (spOther K)) (G_Lat_the_edge:FnOk P w K mg base (CXE P w) k t.f_Lat_the_edge t.d_Lat_the_edge ["_law_uses","_law_gains","_law_cell"] (spEdge K))
  {cdv:Value} {A0:Around} {outer:List Env} {s:Shared} {H:Hp} {E:XK} (hr:Room k (A0.deeper (PyProof.Rows.envOfC "law" (defScope s_law) s.heap.objs.size t.f_law cdv))) {a:Addr} {ns:List Int} (hS:SqL K H a (ns.map V.int)) (h63:ns.length≤63) {M:Hp} (hT:TabOk Pt M H):∃ u,PSs (cxOf (CXE P w) P w K mg base ["_law_script","_law_least","_law_answer","_law_way","_law_handed","_law_told","_law_found","_law_due","_law_uses","_law_amounts","_law_gains","_law_edge"] "law" (defScope s_law) t.f_law cdv A0 outer s H E) ((defBody s_law).drop 6) u ∧
   ∀ (D:Ends),(∀ H'',D.rt (.bl true) H'')→∀ (U:List (List Int)) (am gn:List Int) (an:SH.Ans) (v1 v2 v3 v4:V) (M1 H1:Hp) (e1:Option V) (wy:Int),Tsk U am gn→1≤gn.length→Tk K M1 U am gn v1 v2 v3→At K M1 (ansT an) v4→Fit4 am gn an→Fit5 am gn an→Gr M H M1 H1→u D [some (.ref a),e1,some v4,some (.int wy),none,none,none,none,some v1,some v2,some v3,none] H1:=by
 refine ex_cons (ps_if (PW.pt (pw_and (pt_cmpR op_neL (pv 8) (pe_lst pa_nil) (nomark _)) (pw_and1 (PW.pt (pw_or (pt_cmpR op_eq (pv 3) pe_int (nomark _)) (pw_or1 (pt_cmpR op_gt (pv 3) pe_int (nomark _))))))))
   (pss_cons (ps_set (i:=11) sc_law.nd rfl (Or.inl rfl) (pe_call G_Lat_the_edge hr rfl T.m_Lat_the_edge T.F_Lat_the_edge.kp T.b_Lat_the_edge .nil pass_no (pa_cons (pv 8) (pa_cons (pv 10) (pa_cons (pe_call G_Lat hr rfl T.m_Lat T.F_Lat.kp T.b_Lat .nil pass_no (pa_cons (pv 0) (pa_cons pe_int pa_nil))) pa_nil)))))
  (pss_one (ps_asg (pv 11) (pg_tup (n:=4) rfl (pgs_cons (pg_name (i:=8) sc_law.nd rfl (Or.inl rfl)) (pgs_cons (pg_name (i:=9) sc_law.nd rfl (Or.inl rfl)) (pgs_cons (pg_name (i:=10) sc_law.nd rfl (Or.inl rfl)) (pgs_cons (pg_name (i:=2) sc_law.nd rfl (Or.inl rfl)) pgs_nil))))))))
   pss_nil) ?_
 refine ex_tail (law_N T G_stands G_Lsame G_Lshown_right G_Lat G_Lof_turned G_Lspoilt G_Lother_form hr hS h63 hT (M:=M)) (fun rest hrest=>?_)
 intro D hD U am gn an v1 v2 v3 v4 M1 H1 e1 wy TK n1 D0 t4 f4 fi g1
 have hm:=TK.t.hm
 obtain⟨b1,x1,rfl,hb1,ats1⟩:=id D0.u.lst_inv
 have lx1:x1.length=am.length:=by have:=ats1.1; simp at this; omega
 refine⟨_,rfl,big1000 (by show 0≤1000; decide),fun p hp=>?_⟩
 have g2:Gr M H M1 (upd H1 p (.lst [])):=g1.new hp
 refine⟨b1,p,x1,rfl,rfl,SqL.of (g2.mh _ _ hb1),SqL.of upd_same,hr.units0,_,rfl,?_⟩
 generalize upd H1 p (.lst [])=H2 at g2 ⊢
 cases x1 with
 | nil=>exact iteF (iteF (hrest D hD U am gn an _ _ _ _ M1 H2 _ _ _ TK D0 t4 fi (fun _ _=>f4) g2))
 | cons x0 xr=>
  refine iteT ?_
  have m1:1≤am.length:=by simp at lx1; omega
  refine⟨_,rfl,rfl,_,rfl,ite2 (fun c1=>?_) (fun c1=>?_)⟩
  ·have c1:=eq_of_test c1
   refine iteT ?_
   refine⟨_,rfl,_,rfl,_,rfl,a,ns,_,M1,rfl,g2.hseq hS,h63,g2.mh,fun H3 g3=>?_⟩
   refine⟨_,_,_,U,am,gn,M1,rfl,TK,D0.u,D0.g,m1,n1,g3.mh,fun U' am' gn' a' v M4 H4 g4 TK' f' tv=>?_⟩
   obtain⟨pe,xs,rfl,hpe,ate⟩:=tv.tup_inv
   have hl:xs.length=4:=by have:=ate.1; simpa using this.symm
   match xs,hl with
   | [u1,u2,u3,u4],_=>
    refine⟨_,rfl,pe,_,rfl,g4.mh.tup hpe,rfl,_,_,rfl,_,_,rfl,_,_,rfl,_,_,rfl,rfl,?_⟩
    exact hrest D hD U' am' gn' a' _ _ _ _ M4 H4 _ _ _ TK' ⟨ate.2 0 _ u1 rfl rfl,ate.2 1 _ u2 rfl rfl,ate.2 2 _ u3 rfl rfl⟩ (ate.2 3 _ u4 rfl rfl) f' (fun h1 h2=>by omega) ((g2.trans g3).trans g4)
  ·refine⟨_,rfl,_,_,rfl,rfl,_,rfl,ite2 (fun c2=>?_) (fun c2=>?_)⟩
   ·have c2:=of_decide_eq_true c2
    refine⟨_,rfl,_,rfl,_,rfl,a,ns,_,M1,rfl,g2.hseq hS,h63,g2.mh,fun H3 g3=>?_⟩
    refine⟨_,_,_,U,am,gn,M1,rfl,TK,D0.u,D0.g,m1,n1,g3.mh,fun U' am' gn' a' v M4 H4 g4 TK' f' tv=>?_⟩
    obtain⟨pe,xs,rfl,hpe,ate⟩:=tv.tup_inv
    have hl:xs.length=4:=by have:=ate.1; simpa using this.symm
    match xs,hl with
    | [u1,u2,u3,u4],_=>
     refine⟨_,rfl,pe,_,rfl,g4.mh.tup hpe,rfl,_,_,rfl,_,_,rfl,_,_,rfl,_,_,rfl,rfl,?_⟩
     exact hrest D hD U' am' gn' a' _ _ _ _ M4 H4 _ _ _ TK' ⟨ate.2 0 _ u1 rfl rfl,ate.2 1 _ u2 rfl rfl,ate.2 2 _ u3 rfl rfl⟩ (ate.2 3 _ u4 rfl rfl) f' (fun h1 h2=>by omega) ((g2.trans g3).trans g4)
   ·exact hrest D hD U am gn an _ _ _ _ M1 H2 _ _ _ TK D0 t4 fi (fun _ _=>f4) g2
theorem z7:(0:Int)<7:=by decide
theorem z10:(0:Int)<10:=by decide
set_option maxHeartbeats 4000000 in
theorem ok_law (T:Txt K mg t) (G_solved:FnOk P w K mg base (CXE P w) k t.f_solved t.d_solved ["uses","amounts","gains"] (spSv K Pt)) (G_Ltask_of:FnOk P w K mg base (CXE P w) k t.f_Ltask_of t.d_Ltask_of ["_law_script","_law_least"] (spTask K)) (G_Lis_answer:FnOk P w K mg base (CXE P w) k t.f_Lis_answer t.d_Lis_answer ["_law_found","_law_wares","_law_stocks"] (spIa K)) (G_stands:FnOk P w K mg base (CXE P w) k t.f_stands t.d_stands ["uses","amounts","gains","answer"] (spSh K)) (G_Lsame:FnOk P w K mg base (CXE P w) k t.f_Lsame t.d_Lsame ["_law_found","_law_due"] (spSame K)) (G_Lshown_right:FnOk P w K mg base (CXE P w) k t.f_Lshown_right t.d_Lshown_right ["_law_uses","_law_amounts","_law_gains","_law_found"] (spSh K)) (G_Lat:FnOk P w K mg base (CXE P w) k t.f_Lat t.d_Lat ["_law_script","_law_k"] (spAt K)) (G_Lof_turned:FnOk P w K mg base (CXE P w) k t.f_Lof_turned t.d_Lof_turned ["_law_uses","_law_amounts","_law_gains"] (spTurn K Pt)) (G_Lspoilt:FnOk P w K mg base (CXE P w) k t.f_Lspoilt t.d_Lspoilt ["_law_found","_law_spot","_law_way"] (spSpoil K)) (G_Lother_form:FnOk P w K mg base (CXE P w) k t.f_Lother_form t.d_Lother_form ["_law_script","_law_wares","_law_stocks"] (spOther K)) (G_Lat_the_edge:FnOk P w K mg base (CXE P w) k t.f_Lat_the_edge t.d_Lat_the_edge ["_law_uses","_law_gains","_law_cell"] (spEdge K)) :
  FnOk P w K mg base (CXE P w) (k+1) t.f_law t.d_law ["_law_script"] (spLaw K Pt):=by
 refine T.F_law.okE sc_law (fun vs H Q E h=>?_) (fun cdv A outer s H vs Q E hr h=>?_)
 ·obtain⟨a,ns,rfl,_⟩:=h
  rfl
 obtain⟨a,ns,rfl,hS,h63,hT,q⟩:=h
 refine ex_cons (ps_set (i:=1) sc_law.nd rfl (Or.inl rfl) (pe_callTy call_int1 rfl T.n_int bt_int (pa_cons (pe_cmpR op_gt (pe_op op_mod (pe_op op_fdivB (pe_call G_Lat hr rfl T.m_Lat T.F_Lat.kp T.b_Lat .nil pass_no (pa_cons (pv 0) (pa_cons pe_int pa_nil))) pe_int) pe_int) pe_int (nomark _)) pa_nil))) ?_
 refine ex_cons (ps_asg (pe_call G_Ltask_of hr rfl T.m_Ltask_of T.F_Ltask_of.kp T.b_Ltask_of .nil pass_no (pa_cons (pv 0) (pa_cons (pv 1) pa_nil))) (pg_tup (n:=3) rfl (pgs_cons (pg_name (i:=8) sc_law.nd rfl (Or.inl rfl)) (pgs_cons (pg_name (i:=9) sc_law.nd rfl (Or.inl rfl)) (pgs_cons (pg_name (i:=10) sc_law.nd rfl (Or.inl rfl)) pgs_nil))))) ?_
 refine ex_cons (ps_set (i:=2) sc_law.nd rfl (Or.inl rfl) (pe_call G_solved hr rfl T.m_solved T.F_solved.kp T.b_solved .nil pass_no (pa_cons (pe_compG rfl (compt_of (n:=1) (js:=[]) (Nb:=["_law_row"]) (by kernel_rfl) rfl (by decide +kernel) (by decide) (by kernel_rfl)) (pi_list (pv 8)) (fun C s0 H0 fp pn'=>(pg_name (i:=0) (nd_of (l:=["_law_row"]) (by decide +kernel)) rfl (Or.inl rfl))) own_name (fun C s0 H0 fp pn'=>pts_none) (fun C s0 H0 fp pn'=>(pe_callTy (r:=rListOf K) call_list_of rfl T.n_list bt_list (pa_cons (pv 0) pa_nil)))) (pa_cons (pe_callTy call_list_of rfl T.n_list bt_list (pa_cons (pv 9) pa_nil)) (pa_cons (pe_callTy call_list_of rfl T.n_list bt_list (pa_cons (pv 10) pa_nil)) pa_nil))))) ?_
 refine ex_cons (ps_if (pt_not (pt_val (pe_call G_Lis_answer hr rfl T.m_Lis_answer T.F_Lis_answer.kp T.b_Lis_answer .nil pass_no (pa_cons (pv 2) (pa_cons (pe_callB call_len_seq rfl T.n_len PySem.boot_len (pa_cons (pv 10) pa_nil)) (pa_cons (pe_callB call_len_seq rfl T.n_len PySem.boot_len (pa_cons (pv 8) pa_nil)) pa_nil))))))
   (pss_one (ps_ret pe_bl))
   pss_nil) ?_
 refine ex_cons (ps_if (pt_not (pt_val (pe_call G_Lshown_right hr rfl T.m_Lshown_right T.F_Lshown_right.kp T.b_Lshown_right .nil pass_no (pa_cons (pv 8) (pa_cons (pv 9) (pa_cons (pv 10) (pa_cons (pv 2) pa_nil)))))))
   (pss_one (ps_ret pe_bl))
   pss_nil) ?_
 refine ex_cons (ps_set (i:=3) sc_law.nd rfl (Or.inl rfl) (pe_op op_mod (pe_call G_Lat hr rfl T.m_Lat T.F_Lat.kp T.b_Lat .nil pass_no (pa_cons (pv 0) (pa_cons pe_int pa_nil))) pe_int)) ?_
 refine ex_tail (law_M T G_stands G_Lsame G_Lshown_right G_Lat G_Lof_turned G_Lspoilt G_Lother_form G_Lat_the_edge hr hS h63 hT (M:=noM)) (fun rest hrest=>?_)
 refine⟨_,rfl,a,ns,_,noM,rfl,hS,h63,noM_same H,fun H1 g1=>⟨_,_,rfl,rfl,⟨by decide,lt9000 (by decide)⟩,_,_,rfl,rfl,z7,_,_,rfl,rfl,.inr ⟨_,rfl,?_⟩⟩⟩
 refine⟨_,rfl,_,rfl,a,ns,_,noM,rfl,by split <;> decide,by split <;> decide,g1.hseq hS,h63,g1.mh,fun U am gn v M2 H2 g2 TK aJ n1 l1 tv=>?_⟩
 have g12:=g1.trans g2
 obtain⟨p1,w1,w2,w3,rfl,hp1,tU,tA,tG⟩:=tup3_inv tv
 have tm:=TK.m
 have tn:=TK.n
 have hm:=TK.t.hm
 refine⟨p1,_,rfl,g12.mh.tup hp1,rfl,_,_,rfl,_,_,rfl,_,_,rfl,rfl,?_⟩
 obtain⟨b1,x1,rfl,hb1,ats1⟩:=id tU.lst_inv
 obtain⟨b2,rfl,hb2⟩:=ints_get tA
 obtain⟨b3,rfl,hb3⟩:=ints_get tG
 have lx1:x1.length=am.length:=by have:=ats1.1; simp at this; omega
 refine⟨_,rfl,b1,rfl,⟨_,SqL.of (g12.mh _ _ hb1)⟩,fun y hy=>cm_list (K:=K) (M:=M2) (F:=fun i=>intsT (U.getD i [])) g12.mh hb1 (by omega) hy (fun i x Mi Hi Qy hx gi kk=>?_) (fun M3 H3 ys g3 m3 hys at3=>?_)⟩
 ·obtain⟨l,hl,atl⟩:=intss_get' ats1 hx
  obtain⟨c,rfl,hc⟩:=ints_get atl
  refine⟨_,rfl,c,_,rfl,.inl (SqL.of (gi.mh _ _ (gi.mm _ _ hc))),fun z hz=>kk _ _ _ ((Gr.refl gi.mh).add hz) ?_⟩
  rw[SH.gD hl]
  exact (Ats.ints _).lst upd_same
 have at4:Ats K M3 (U.map intsT) ys:=ats_range at3 (by simp <;> omega) fun i t ht=>by
  rw[List.getElem?_map] at ht
  cases e:U[i]? with
  | none=>rw[e] at ht; cases ht
  | some l=>rw[e] at ht; cases ht; rw[SH.gD e]
 have g4:Gr noM H (upd M3 y (.lst ys)) H3:=(g12.trans g3).frz (g12.hfree hy) m3 hys
 have s24:Same M2 (upd M3 y (.lst ys)):=g3.mm.trans (same_new m3 _)
 have hU4:At K (upd M3 y (.lst ys)) (intssT U) (.ref y):=(at4.mono (same_new m3 _)).lst upd_same
 generalize upd M3 y (.lst ys)=M4 at g4 s24 hU4
 refine⟨_,rfl,b2,_,rfl,.inl (SqL.of (g4.mh _ _ (s24 _ _ hb2))),fun c2 hc2=>?_⟩
 have g5:=g4.add (o:=.lst (am.map V.int)) hc2
 have s45:Same M4 (upd M4 c2 (.lst (am.map V.int))):=same_new (g4.mh.free hc2) _
 have hA5:At K (upd M4 c2 (.lst (am.map V.int))) (intsT am) (.ref c2):=(Ats.ints _).lst upd_same
 generalize upd M4 c2 (.lst (am.map V.int))=M5 at g5 s45 hA5
 generalize upd H3 c2 (.lst (am.map V.int))=H5 at g5 ⊢
 refine⟨_,rfl,b3,_,rfl,.inl (SqL.of (g5.mh _ _ (s45 _ _ (s24 _ _ hb3)))),fun c3 hc3=>?_⟩
 have g6:=g5.add (o:=.lst (gn.map V.int)) hc3
 have s56:Same M5 (upd M5 c3 (.lst (gn.map V.int))):=same_new (g5.mh.free hc3) _
 have hG6:At K (upd M5 c3 (.lst (gn.map V.int))) (intsT gn) (.ref c3):=(Ats.ints _).lst upd_same
 generalize upd M5 c3 (.lst (gn.map V.int))=M6 at g6 s56 hG6
 generalize upd H5 c3 (.lst (gn.map V.int))=H6 at g6 ⊢
 have s26:Same M2 M6:=s24.trans (s45.trans s56)
 refine⟨_,_,_,U,am,gn,M6,rfl,TK,hU4.mono (s45.trans s56),hA5.mono s56,hG6,g6.mh,g6.tt _ hT,fun an v M7 H7 g7 R sm t7=>?_⟩
 have g07:=g6.trans g7
 have s27:Same M2 M7:=s26.trans g7.mm
 have D7:Tk K M7 U am gn (.ref b1) (.ref b2) (.ref b3):=⟨tU.mono s27,tA.mono s27,tG.mono s27⟩
 refine⟨_,rfl,_,rfl,b3,_,rfl,.inl (SqL.of (g07.mh _ _ (s27 _ _ hb3))),_,rfl,b1,_,rfl,.inl (SqL.of (g07.mh _ _ (s27 _ _ hb1))),_,U,am,gn,an,M7,by rw[List.length_map,lx1]; rfl,TK,t7,R,g07.mh,_,rfl,iteF ?_⟩
 refine⟨_,rfl,_,rfl,_,rfl,_,rfl,_,_,_,_,U,am,gn,an,M7,rfl,TK,D7,t7,fit5 R sm,g07.mh,fun b M8 H8 g8 hb=>⟨_,rfl,?_⟩⟩
 obtain rfl:b=true:=hb.mpr R
 refine iteF ?_
 have g08:=g07.trans g8
 refine⟨_,rfl,a,ns,_,M8,rfl,g08.hseq hS,h63,g08.mh,fun H9 g9=>⟨_,_,rfl,rfl,z10,?_⟩⟩
 exact hrest _ q U am gn an _ _ _ _ M8 H9 _ _ TK n1 (D7.mono g8.mm) (t7.mono g8.mm) (fit4 R sm) (fit5 R sm) (g08.trans g9)
end
end W1
namespace W1
open PySem PySem.Spec L2
section
variable {P:Program} {w:World} {K:PySem.W.Frag} {mg:Str→Option Value} {base:Heap} {t:Adr} {k:Nat} {Pt lc:Addr}
theorem solved_fn (T:Txt K mg t) (Z:Ers K mg t) (ht:PySem.W.tabIn K "least_place" = some (lc,Pt)) (L:LamAt mg base lc Pt):FnOk P w K mg base (CXE P w) 8 t.f_solved t.d_solved ["uses","amounts","gains"] (spSv K Pt):=by
 have up {a b:Nat} (h:a≤b) {f:Addr} {fd:FuncData} {ps:List Str} {sp:Sp} (F:FnOk P w K mg base (CXE P w) a f fd ps sp):FnOk P w K mg base (CXE P w) b f fd ps sp:=F.mono h
 have cd:=ok_common_divisor (P:=P) (w:=w) (base:=base) (k:=0) T
 have made:=ok_made T Z cd
 have plus:=ok_plus T made
 have times:=ok_times T made
 have over:=ok_over T made
 have opp:=(ok_opposite (P:=P) (w:=w) (base:=base) (k:=0) T).toE
 have sf:=ok_solved_for T (up (b:=3) (by decide) opp) over
 have wp:=ok_with_put_in T plus times
 have ini:=(ok_init (P:=P) (w:=w) (base:=base) (k:=0) T).toE
 have ex:=ok_exchanged (k:=3) T (up (by decide) ini) sf wp
 have inf:=ok_in_fractions (P:=P) (w:=w) (base:=base) (k:=0) T
 have sl:=ok_stock_line T inf
 have fs:=ok_first_sheet (k:=1) T ini (up (by decide) inf) sl
 have lp:=ok_least_place (P:=P) (w:=w) (base:=base) (k:=0) T L (Z.lam _ _ ht)
 have ls:=ok_least_short T lp
 have lg:=ok_least_gaining T lp
 have lh:=ok_least_helping T lp
 have lb:=ok_least_bounding T lp
 have sr:=ok_searched (k:=5) T (up (by decide) ls) (up (by decide) lg) (up (by decide) lh) (up (by decide) lb) ex
 have ow:=ok_of_wares (P:=P) (w:=w) (base:=base) (k:=0) T
 have os:=ok_of_stocks (P:=P) (w:=w) (base:=base) (k:=0) T
 have pl:=ok_plan_of T ow
 have pr:=ok_prices_of T opp os
 have we:=ok_weights_of T opp os
 have wa:=ok_way_of T ow
 have ng:=ok_without_gains T ini
 have sw:=ok_solved_with_way (k:=6) T sr (up (by decide) ng) (up (by decide) we) (up (by decide) pl) (up (by decide) wa)
 exact ok_solved (k:=7) T (up (by decide) sr) (up (by decide) fs) sw (up (by decide) we) (up (by decide) pl) (up (by decide) pr)
end
end W1
def PySem.W.Fast.tw17228454753302451447:Nat:=0
def PySem.W.Fast.tw7798838241791007359:Nat:=0
def PySem.W.Fast.tw10160100754598170352:Nat:=0
def PySem.W.Fast.tw15978082750766088862:Nat:=0
def PySem.W.Fast.tw16901267654153983871:Nat:=0
def PySem.W.Fast.tw13548964358928151514:Nat:=0
def PySem.W.Fast.tw2005737942077988467:Nat:=0
def PySem.W.Fast.tw1979409730804914687:Nat:=0
def PySem.W.Fast.tw10792012857201455548:Nat:=0
def PySem.W.Fast.tw5347926357123284794:Nat:=0
def PySem.W.Fast.tw15303227980322336406:Nat:=0
def PySem.W.Fast.tw16673246732148611028:Nat:=0
def PySem.W.Fast.tw3614793768300319606:Nat:=0
namespace W1
open PySem PySem.Spec L2
section
variable {P:Program} {w:World} {K:PySem.W.Frag} {mg:Str→Option Value} {base:Heap} {t:Adr} {k:Nat} {Pt lc:Addr}
theorem law_fn (T:Txt K mg t) (Z:Ers K mg t) (ht:PySem.W.tabIn K "least_place" = some (lc,Pt)) (L:LamAt mg base lc Pt):FnOk P w K mg base (CXE P w) 10 t.f_law t.d_law ["_law_script"] (spLaw K Pt):=by
 have up {a b:Nat} (h:a≤b) {f:Addr} {fd:FuncData} {ps:List Str} {sp:Sp} (F:FnOk P w K mg base (CXE P w) a f fd ps sp):FnOk P w K mg base (CXE P w) b f fd ps sp:=F.mono h
 have up0 {a b:Nat} (h:a≤b) {f:Addr} {fd:FuncData} {ps:List Str} {sp:Sp} (F:FnOk P w K mg base CX0 a f fd ps sp):FnOk P w K mg base CX0 b f fd ps sp:=F.mono h
 have so:=solved_fn (P:=P) (w:=w) T Z ht L
 have lc:=ok_Lcommon (P:=P) (w:=w) (base:=base) (k:=0) T
 have wh:=ok_Lwhole (P:=P) (w:=w) (base:=base) (k:=0) T
 have la:=ok_Lat (P:=P) (w:=w) (base:=base) (k:=0) T
 have same:=ok_Lsame T wh
 have isf:=ok_Lis_fraction T wh lc
 have arf:=ok_Lare_fractions T isf
 have nu:=ok_Lnumber_of (P:=P) (w:=w) (base:=base) (k:=0) T
 have ta:=ok_Ltask_of T la nu
 have to:=ok_Ltotal (P:=P) (w:=w) (base:=base) (k:=0) T
 have nb:=ok_Lnone_below (P:=P) (w:=w) (base:=base) (k:=0) T
 have co:=ok_Lcolumn (P:=P) (w:=w) (base:=base) (k:=0) T
 have wi:=ok_Lwithin T to nb
 have br:=ok_Lbest_right T (up0 (by decide) to) (up0 (by decide) nb) wi (up0 (by decide) co)
 have nr:=ok_Lnone_right T to nb co
 have er:=ok_Lendless_right T (up0 (by decide) to) (up0 (by decide) nb) wi
 have sh:=ok_Lshown_right T br (up0 (by decide) nr) er
 have ia:=ok_Lis_answer T arf
 have tot:=ok_total (P:=P) (w:=w) (base:=base) (k:=0) T
 have les:=ok_less (P:=P) (w:=w) (base:=base) (k:=0) T
 have eqq:=ok_equal T les
 have nbn:=ok_none_below_nought (P:=P) (w:=w) (base:=base) (k:=0) T
 have ub:=ok_used_by (P:=P) (w:=w) (base:=base) (k:=0) T
 have pos:=ok_possible T les tot nbn
 have cov:=ok_covered T les tot ub nbn
 have bst:=ok_best_stands T pos cov eqq (up (by decide) tot)
 have nst:=ok_none_stands T cov (up (by decide) les) (up (by decide) tot)
 have est:=ok_endless_stands T pos (up (by decide) les) (up (by decide) tot)
 have sta:=ok_stands T bst nst est
 have spo:=ok_Lspoilt (P:=P) (w:=w) (base:=base) (k:=0) T
 have oth:=ok_Lother_form T la.toE
 have edg:=ok_Lat_the_edge (P:=P) (w:=w) (base:=base) (k:=0) T
 have tur:=ok_Lof_turned T so (up (by decide) ia.toE)
 exact ok_law (k:=9) T (up (by decide) so) (up (by decide) ta.toE) (up (by decide) ia.toE) (up (by decide) sta) (up (by decide) same.toE) (up (by decide) sh.toE) (up (by decide) la.toE) tur (up (by decide) spo) (up (by decide) oth) (up (by decide) edg)
end
theorem walk {l:PySem.W.OpenLaw} {q:Program} {loose:List Str} {XP:(Str→Option Value)→Heap→Prop} {YP:World→Heap→Prop} {d dl:DefRec} {K:Params→PySem.W.Frag} (hn:l.most=some 63) (hdf:d.params.defaults=[])
  (hrec:(PyProof.Rows.recsOf q).find? (fun e=>e.name == ("least_place" : Str))=some dl)
  (hY:∀ (w:World) (h:Heap),YP w h→(K w.params).In h)
  (hK:∀ (w:World),PySem.W.noTabs (K w.params)=true)
  (hT:∀ (w:World),(PySem.W.tabIn (K w.params) "least_place").isSome=true)
  (F:∀ (w:World) (mg:Str→Option Value) (fa:Addr) (h:Heap),(K w.params).In h→h.Ns mainGlobals mg→mg d.name=some (.ref fa)→∃ t:Adr,Txt (K w.params) mg t∧Ers (K w.params) mg t∧t.f_law=fa) :
  PySem.W.WalkO q loose XP YP l.row.toRowW d [] (fun f vs=>PySem.call f vs):=
 L2.walk_ofT (n:=63) (k:=10) (x:="_law_script") (y:="least_place") (CX:=fun w=>CXE l.prog w) (sp:=fun w T=>spLaw (K w.params) T) hn (by decide) hdf ⟨rfl,by decide,by decide⟩ hrec hY hK
  (fun w mg fa h KX G hm=>by
   obtain⟨t,T,Z,rfl⟩:=F w mg fa h KX G hm
   obtain⟨⟨c,Pt⟩,ht⟩:=Option.isSome_iff_exists.mp (hT w)
   exact⟨c,Pt,t.d_law,ht,Z.bl,fun base _ _ L=>law_fn T Z ht L⟩)
  (fun _ _ _ a ns hl tok hS=>⟨a,ns,rfl,hS,hl,tok,fun _=>rfl⟩) fun _ _ _ _ _ h=>by
   obtain⟨_,_,_,_,z,_⟩:=h
   exact z
end W1
open PySem PySem.W PyProof.Rows
set_option pp.maxSteps 400
set_option maxRecDepth 100000 in
set_option maxHeartbeats 0 in
theorem PySem.Challenge.cw_wareplan_k05_whole_stands_holds : PySem.Challenge.rw_wareplan_k05_whole_stands.Holds := by
 w_on; o_law; k_head; (case hw=>w_witness2)
 k_fill
 refine W1.walk (l:=PySem.Challenge.rw_wareplan_k05_whole_stands) rfl rfl rfl (fun w h Y=>km_in_of Y) (fun w=>by kernel_rfl) (fun w=>by kernel_rfl) ?F
 case F=>
  intro w mg fa h KX G hmg
  refine' W1.txt_mk KX G hmg ?a0 ?l0 ?c0 ?k0 ?a1 ?l1 ?c1 ?k1 ?a2 ?l2 ?c2 ?k2 ?a3 ?l3 ?c3 ?k3 ?a4 ?l4 ?c4 ?k4 ?a5 ?l5 ?c5 ?k5 ?a6 ?l6 ?c6 ?k6 ?a7 ?l7 ?c7 ?k7 ?a8 ?l8 ?c8 ?k8 ?a9 ?l9 ?c9 ?k9 ?a10 ?l10 ?c10 ?k10 ?a11 ?l11 ?c11 ?k11 ?a12 ?l12 ?c12 ?k12 ?a13 ?l13 ?c13 ?k13 ?a14 ?l14 ?c14 ?k14 ?a15 ?l15 ?c15 ?k15 ?a16 ?l16 ?c16 ?k16 ?a17 ?l17 ?c17 ?k17 ?a18 ?l18 ?c18 ?k18 ?a19 ?l19 ?c19 ?k19 ?a20 ?l20 ?c20 ?k20 ?a21 ?l21 ?c21 ?k21 ?a22 ?l22 ?c22 ?k22 ?a23 ?l23 ?c23 ?k23 ?a24 ?l24 ?c24 ?k24 ?a25 ?l25 ?c25 ?k25 ?a26 ?l26 ?c26 ?k26 ?a27 ?l27 ?c27 ?k27 ?a28 ?l28 ?c28 ?k28 ?a29 ?l29 ?c29 ?k29 ?a30 ?l30 ?c30 ?k30 ?a31 ?l31 ?c31 ?k31 ?a32 ?l32 ?c32 ?k32 ?a33 ?l33 ?c33 ?k33 ?a34 ?l34 ?c34 ?k34 ?a35 ?l35 ?c35 ?k35 ?a36 ?l36 ?c36 ?k36 ?a37 ?l37 ?c37 ?k37 ?a38 ?l38 ?c38 ?k38 ?a39 ?l39 ?c39 ?k39 ?a40 ?l40 ?c40 ?k40 ?a41 ?l41 ?c41 ?k41 ?a42 ?l42 ?c42 ?k42 ?a43 ?l43 ?c43 ?k43 ?a44 ?l44 ?c44 ?k44 ?a45 ?l45 ?c45 ?k45 ?a46 ?l46 ?c46 ?k46 ?a47 ?l47 ?c47 ?k47 ?a48 ?l48 ?c48 ?k48 ?a49 ?l49 ?c49 ?k49 ?a50 ?l50 ?c50 ?k50 ?a51 ?l51 ?c51 ?k51 ?a52 ?l52 ?c52 ?k52 ?a53 ?l53 ?c53 ?k53 ?a54 ?l54 ?c54 ?k54 ?a55 ?l55 ?c55 ?k55 ?a56 ?l56 ?c56 ?k56 ?a57 ?l57 ?c57 ?k57 ?a58 ?l58 ?c58 ?k58 ?a59 ?l59 ?c59 ?k59 ?a60 ?i60 ?l60 ?c60 ?k60 ?z0 ?z1 ?z2 ?z3 ?z4 ?z5 ?z6 ?z7 ?z8 ?z9 ?z10 ?z11 ?z12 ?z13 ?z14 ?z15 ?z16 ?z17 ?z18 ?y0 ?y1 ?y2 ?u0 ?v0 ?u1 ?v1 ?w2_pg ?w2_hd ?w2_po ?w2_sa ?w2_mk ?w2_kc ?w2_n_inner ?w2_n_outer ?w2_n_lines ?w2_n_goal ?q1
  (case y0=>k_is)
  (case y1=>k_is)
  (case y2=>k_is)
  (case a0=>k_is)
  (case l0=>k_is)
  (case c0=>k_is)
  (case k0=>k_is)
  (case a1=>k_is)
  (case l1=>k_is)
  (case c1=>k_is)
  (case k1=>k_is)
  (case a2=>k_is)
  (case l2=>k_is)
  (case c2=>k_is)
  (case k2=>k_is)
  (case a3=>k_is)
  (case l3=>k_is)
  (case c3=>k_is)
  (case k3=>k_is)
  (case a4=>k_is)
  (case l4=>k_is)
  (case c4=>k_is)
  (case k4=>k_is)
  (case a5=>k_is)
  (case l5=>k_is)
  (case c5=>k_is)
  (case k5=>k_is)
  (case a6=>k_is)
  (case l6=>k_is)
  (case c6=>k_is)
  (case k6=>k_is)
  (case a7=>k_is)
  (case l7=>k_is)
  (case c7=>k_is)
  (case k7=>k_is)
  (case a8=>k_is)
  (case l8=>k_is)
  (case c8=>k_is)
  (case k8=>k_is)
  (case a9=>k_is)
  (case l9=>k_is)
  (case c9=>k_is)
  (case k9=>k_is)
  (case a10=>k_is)
  (case l10=>k_is)
  (case c10=>k_is)
  (case k10=>k_is)
  (case a11=>k_is)
  (case l11=>k_is)
  (case c11=>k_is)
  (case k11=>k_is)
  (case a12=>k_is)
  (case l12=>k_is)
  (case c12=>k_is)
  (case k12=>k_is)
  (case a13=>k_is)
  (case l13=>k_is)
  (case c13=>k_is)
  (case k13=>k_is)
  (case a14=>k_is)
  (case l14=>k_is)
  (case c14=>k_is)
  (case k14=>k_is)
  (case a15=>k_is)
  (case l15=>k_is)
  (case c15=>k_is)
  (case k15=>k_is)
  (case a16=>k_is)
  (case l16=>k_is)
  (case c16=>k_is)
  (case k16=>k_is)
  (case a17=>k_is)
  (case l17=>k_is)
  (case c17=>k_is)
  (case k17=>k_is)
  (case a18=>k_is)
  (case l18=>k_is)
  (case c18=>k_is)
  (case k18=>k_is)
  (case a19=>k_is)
  (case l19=>k_is)
  (case c19=>k_is)
  (case k19=>k_is)
  (case a20=>k_is)
  (case l20=>k_is)
  (case c20=>k_is)
  (case k20=>k_is)
  (case a21=>k_is)
  (case l21=>k_is)
  (case c21=>k_is)
  (case k21=>k_is)
  (case a22=>k_is)
  (case l22=>k_is)
  (case c22=>k_is)
  (case k22=>k_is)
  (case a23=>k_is)
  (case l23=>k_is)
  (case c23=>k_is)
  (case k23=>k_is)
  (case a24=>k_is)
  (case l24=>k_is)
  (case c24=>k_is)
  (case k24=>k_is)
  (case a25=>k_is)
  (case l25=>k_is)
  (case c25=>k_is)
  (case k25=>k_is)
  (case a26=>k_is)
  (case l26=>k_is)
  (case c26=>k_is)
  (case k26=>k_is)
  (case a27=>k_is)
  (case l27=>k_is)
  (case c27=>k_is)
  (case k27=>k_is)
  (case a28=>k_is)
  (case l28=>k_is)
  (case c28=>k_is)
  (case k28=>k_is)
  (case a29=>k_is)
  (case l29=>k_is)
  (case c29=>k_is)
  (case k29=>k_is)
  (case a30=>k_is)
  (case l30=>k_is)
  (case c30=>k_is)
  (case k30=>k_is)
  (case a31=>k_is)
  (case l31=>k_is)
  (case c31=>k_is)
  (case k31=>k_is)
  (case a32=>k_is)
  (case l32=>k_is)
  (case c32=>k_is)
  (case k32=>k_is)
  (case a33=>k_is)
  (case l33=>k_is)
  (case c33=>k_is)
  (case k33=>k_is)
  (case a34=>k_is)
  (case l34=>k_is)
  (case c34=>k_is)
  (case k34=>k_is)
  (case a35=>k_is)
  (case l35=>k_is)
  (case c35=>k_is)
  (case k35=>k_is)
  (case a36=>k_is)
  (case l36=>k_is)
  (case c36=>k_is)
  (case k36=>k_is)
  (case a37=>k_is)
  (case l37=>k_is)
  (case c37=>k_is)
  (case k37=>k_is)
  (case a38=>k_is)
  (case l38=>k_is)
  (case c38=>k_is)
  (case k38=>k_is)
  (case a39=>k_is)
  (case l39=>k_is)
  (case c39=>k_is)
  (case k39=>k_is)
  (case a40=>k_is)
  (case l40=>k_is)
  (case c40=>k_is)
  (case k40=>k_is)
  (case a41=>k_is)
  (case l41=>k_is)
  (case c41=>k_is)
  (case k41=>k_is)
  (case a42=>k_is)
  (case l42=>k_is)
  (case c42=>k_is)
  (case k42=>k_is)
  (case a43=>k_is)
  (case l43=>k_is)
  (case c43=>k_is)
  (case k43=>k_is)
  (case a44=>k_is)
  (case l44=>k_is)
  (case c44=>k_is)
  (case k44=>k_is)
  (case a45=>k_is)
  (case l45=>k_is)
  (case c45=>k_is)
  (case k45=>k_is)
  (case a46=>k_is)
  (case l46=>k_is)
  (case c46=>k_is)
  (case k46=>k_is)
  (case a47=>k_is)
  (case l47=>k_is)
  (case c47=>k_is)
  (case k47=>k_is)
  (case a48=>k_is)
  (case l48=>k_is)
  (case c48=>k_is)
  (case k48=>k_is)
  (case a49=>k_is)
  (case l49=>k_is)
  (case c49=>k_is)
  (case k49=>k_is)
  (case a50=>k_is)
  (case l50=>k_is)
  (case c50=>k_is)
  (case k50=>k_is)
  (case a51=>k_is)
  (case l51=>k_is)
  (case c51=>k_is)
  (case k51=>k_is)
  (case a52=>k_is)
  (case l52=>k_is)
  (case c52=>k_is)
  (case k52=>k_is)
  (case a53=>k_is)
  (case l53=>k_is)
  (case c53=>k_is)
  (case k53=>k_is)
  (case a54=>k_is)
  (case l54=>k_is)
  (case c54=>k_is)
  (case k54=>k_is)
  (case a55=>k_is)
  (case l55=>k_is)
  (case c55=>k_is)
  (case k55=>k_is)
  (case a56=>k_is)
  (case l56=>k_is)
  (case c56=>k_is)
  (case k56=>k_is)
  (case a57=>k_is)
  (case l57=>k_is)
  (case c57=>k_is)
  (case k57=>k_is)
  (case a58=>k_is)
  (case l58=>k_is)
  (case c58=>k_is)
  (case k58=>k_is)
  (case a59=>k_is)
  (case l59=>k_is)
  (case c59=>k_is)
  (case k59=>k_is)
  (case a60=>k_is)
  (case i60=>k_is)
  (case l60=>k_is)
  (case c60=>k_is)
  (case k60=>k_is)
  (case z0=>k_is)
  (case z1=>k_is)
  (case z2=>k_is)
  (case z3=>k_is)
  (case z4=>k_is)
  (case z5=>k_is)
  (case z6=>k_is)
  (case z7=>k_is)
  (case z8=>k_is)
  (case z9=>k_is)
  (case z10=>k_is)
  (case z11=>k_is)
  (case z12=>k_is)
  (case z13=>k_is)
  (case z14=>k_is)
  (case z15=>k_is)
  (case z16=>k_is)
  (case z17=>k_is)
  (case z18=>k_is)
  (case u0=>k_is)
  (case v0=>k_is)
  (case u1=>k_is)
  (case v1=>k_is)
  (case w2_pg=>k_is)
  (case w2_hd=>k_is)
  (case w2_po=>k_is)
  (case w2_sa=>k_is)
  (case w2_mk=>k_is)
  (case w2_kc=>k_is)
  (case w2_n_inner=>k_is)
  (case w2_n_outer=>k_is)
  (case w2_n_lines=>k_is)
  (case w2_n_goal=>k_is)
  (case q1=>k_exc)
#print axioms PySem.Challenge.cw_wareplan_k05_whole_stands_holds
