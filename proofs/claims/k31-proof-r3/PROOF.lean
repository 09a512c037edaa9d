import PyProof.Rows.All
import Wide.All
import OpenK.AllK
import Wide.FinOn
import Lean
import PyProof.EqAt
import PyProof.EqKinds
import PyProof.TupleCall
import PySem.Challenge.RW_netsieve_k31_nothing_idle
set_option Elab.async false
set_option linter.all false
set_option maxRecDepth 100000
namespace L2
open PySem PySem.Spec PyProof.Rows
noncomputable abbrev Key:=Sum Int Str
noncomputable def wv:Key→Value→Bool
 | .inl k,v=>Value.isInt k v
 | .inr x,v=>Value.isStrOf x v
noncomputable def keyH (w:World):Key→Int
 | .inl k=>hashInt k
 | .inr x=>hashStr w x
theorem Jm:∀ {k:Key} {v:Value},wv k v=true→(∃ i t,k=Sum.inl i∧v=Value.int i t)∨(∃ x t,k=Sum.inr x∧v=Value.str x t)
 | .inl i,v,h=>by
  obtain ⟨t,e⟩:=Value.isInt_shape (k:=i) (v:=v) h
  exact .inl ⟨i,t,rfl,e⟩
 | .inr x,v,h=>by
  obtain ⟨t,e⟩:=Value.isStrOf_shape (x:=x) (v:=v) h
  exact .inr ⟨x,t,rfl,e⟩
theorem eu (i:Int) (t:Tok):wv (.inl i) (.int i t)=true:=by simp [wv,Value.isInt]
theorem e9 (x:Str) (t:Tok):wv (.inr x) (.str x t)=true:=by simp [wv,Value.isStrOf]
theorem a87 (a b:Int):decide ((Sum.inl a:Key)=Sum.inl b)=(a == b):=by
 by_cases e:a=b
 ·subst e;simp
 ·have h:¬ (Sum.inl a:Key)=Sum.inl b:=fun q=>e (Sum.inl.inj q)
  rw [decide_eq_false h]
  exact (beq_eq_false_iff_ne.mpr e).symm
theorem a84 (a b:Str):decide ((Sum.inr a:Key)=Sum.inr b)=decide (a=b):=by
 by_cases e:a=b
 ·subst e;simp
 ·have h:¬ (Sum.inr a:Key)=Sum.inr b:=fun q=>e (Sum.inr.inj q)
  rw [decide_eq_false h,decide_eq_false e]
theorem a86 (a:Int) (b:Str):decide ((Sum.inl a:Key)=Sum.inr b)=false:=decide_eq_false (fun q=>nomatch q)
theorem a85 (a:Str) (b:Int):decide ((Sum.inr a:Key)=Sum.inl b)=false:=decide_eq_false (fun q=>nomatch q)
noncomputable def jh (prog:Program) (w:World):PySem.KeyKind prog w Key where
 is:=wv
 hash:=keyH w
 inj:=fun v a b ha hb=>by
  rcases Jm ha with ⟨i,t,rfl,rfl⟩ | ⟨x,t,rfl,rfl⟩
  ·rcases Jm hb with ⟨j,u,rfl,e⟩ | ⟨y,u,rfl,e⟩
   ·injection e with e1 _;rw [e1]
   ·exact nomatch e
  ·rcases Jm hb with ⟨j,u,rfl,e⟩ | ⟨y,u,rfl,e⟩
   ·exact nomatch e
   ·injection e with e1 _;rw [e1]
 byValue:=fun k v h=>by
  rcases Jm h with ⟨i,t,rfl,rfl⟩ | ⟨x,t,rfl,rfl⟩ <;> rfl
 pyHash:=fun hv h=>by
  rcases Jm hv with ⟨i,t,rfl,rfl⟩ | ⟨x,t,rfl,rfl⟩
  ·exact wpAny_pyHash_int h
  ·exact wpAny_pyHash_str h
 eqBool:=fun hu hv h=>by
  rcases Jm hu with ⟨i,t,rfl,rfl⟩ | ⟨x,t,rfl,rfl⟩
  ·rcases Jm hv with ⟨j,u,rfl,rfl⟩ | ⟨y,u,rfl,rfl⟩
   ·rw [a87] at h;exact wpAny_eqBool_int h
   ·rw [a86] at h;exact SeqAt.EqAt.int_str i t y u _ _ _ _ h
  ·rcases Jm hv with ⟨j,u,rfl,rfl⟩ | ⟨y,u,rfl,rfl⟩
   ·rw [a85] at h;exact SeqAt.EqAt.str_int x t j u _ _ _ _ h
   ·rw [a84] at h;exact wpAny_eqBool_str h
 «strs»:=fun k x t v h=>by
  rcases Jm h with ⟨i,u,rfl,e⟩ | ⟨y,u,rfl,e⟩
  ·exact nomatch e
  ·injection e with e1 _
   subst e1
   cases v <;> rfl
theorem Vl (prog:Program) (w:World) (i:Int) (t:Tok):(jh prog w).is (.inl i) (.int i t)=true:=eu i t
theorem Vm (prog:Program) (w:World) (x:Str) (t:Tok):(jh prog w).is (.inr x) (.str x t)=true:=e9 x t
end L2
namespace L2
open PySem PySem.Spec PyProof.Rows
inductive V where
 | non | bl (b:Bool) | int (i:Int) | str (x:Str) | byt (b:Array UInt8) | flt (b:UInt64) | ref (a:Addr) | ty (n:String)
 deriving DecidableEq
noncomputable def jl:V→Value→Prop
 | .non,u=>u=Value.none
 | .bl b,u=>u=Value.bool b
 | .int i,u=>∃ t,u=Value.int i t
 | .str x,u=>∃ t,u=Value.str x t
 | .byt b,u=>∃ t,u=Value.bytes b t
 | .flt b,u=>∃ t,u=Value.float b t
 | .ref a,u=>u=Value.ref a
 | .ty n,u=>u=Value.type n
noncomputable abbrev jq:List V→List Value→Prop:=Paired jl
theorem jq.length {xs:List V} {us:List Value} (r:jq xs us):xs.length=us.length:=Paired.length r
theorem jq.get:∀ {xs:List V} {us:List Value} {i:Nat} {x:V},jq xs us→xs[i]? =some x→∃ u,us[i]? =some u∧jl x u
 | _,_,_,_,.nil,e=>by simp at e
 | _,_,0,_,.cons r _,e=>by simp at e;subst e;exact ⟨_,rfl,r⟩
 | _,_,i + 1,x,.cons _ t,e=>by
  obtain ⟨u,h1,h2⟩:=jq.get (i:=i) (x:=x) t (by simpa using e)
  exact ⟨u,by simpa using h1,h2⟩
theorem jq.set {x:V} {u:Value} (r:jl x u):∀ {xs:List V} {us:List Value} (i:Nat),jq xs us→jq (xs.set i x) (us.set i u)
 | _,_,_,.nil=>.nil
 | _,_,0,.cons _ t=>.cons r t
 | _,_,i + 1,.cons q t=>.cons q (jq.set r i t)
theorem jq.append:∀ {xs ys:List V} {us ws:List Value},jq xs us→jq ys ws→jq (xs++ys) (us++ws)
 | _,_,_,_,.nil,s=>s
 | _,_,_,_,.cons r t,s=>.cons r (jq.append t s)
theorem jq.take:∀ {xs:List V} {us:List Value} (n:Nat),jq xs us→jq (xs.take n) (us.take n)
 | _,_,0,_=>.nil
 | _,_,_ + 1,.nil=>.nil
 | _,_,n + 1,.cons r t=>.cons r (jq.take n t)
theorem jq.drop:∀ {xs:List V} {us:List Value} (n:Nat),jq xs us→jq (xs.drop n) (us.drop n)
 | _,_,0,r=>r
 | _,_,_ + 1,.nil=>.nil
 | _,_,n + 1,.cons _ t=>jq.drop n t
noncomputable def qk:Option V→Option Value→Prop
 | some v,some u=>jl v u
 | none,none=>True
 | _,_=>False
noncomputable def KV {κ:Type}:List (κ×V)→List (κ×Value)→Prop:=Paired fun (p:κ×V) (q:κ×Value)=>p.1=q.1∧jl p.2 q.2
noncomputable def kV:Key→V
 | .inl i=>.int i
 | .inr x=>.str x
inductive HO where
 | lst (xs:List V)
 | tup (xs:List V)
 | dK (kvs:List (Key×V)) | dT (kvs:List (List Key×V))
 | set (S:Int→Bool) (n:Nat)
 | ins (C dx:Addr) (fs:List (Str×V))
 | own (x:Addr)
 | xd (fs:List (Str×V))
 | met (f x:Addr)
 | rng (lo hi:Int)
 | frz (o:Obj) (u:HO)
 | tbl (ps:Array Value)
 | ext (φ:Heap→Prop)
noncomputable abbrev Hp:=Addr→Option HO
noncomputable def upd (H:Hp) (a:Addr) (o:HO):Hp:=fun b=>if b=a then some o else H b
theorem js {H:Hp} {a:Addr} {o:HO}:upd H a o a=some o:=by unfold upd;rw [if_pos rfl]
theorem j9 {H:Hp} {a b:Addr} {o:HO} (h:b≠a):upd H a o b=H b:=by unfold upd;rw [if_neg h]
theorem W3 {H:Hp} {a:Addr} {o u:HO}:upd (upd H a o) a u=upd H a u:=by
 funext b;unfold upd;split <;> rfl
theorem ag4 {H:Hp} {a b:Addr} {o u:HO} (h:H a=some o) (h':H b=some u) (d:o≠u):a≠b:=by
 intro e;subst e;rw [h] at h';exact d (Option.some.inj h')
theorem jt {H:Hp} {a b:Addr} {o:HO} (h:H a=some o) (h':H b=none):a≠b:=by
 intro e;subst e;rw [h] at h';cases h'
section
variable (P:Program) (w:World)
noncomputable def Jg (H:Hp) (h:Heap) (a:Addr):HO→Prop
 | .lst xs=>xs.length≤sizeLine∧∃ (its:List Value) (n:Nat),jq xs its∧h.get? a=some { cls:=.type "list",data:=.seq its.toArray n}
 | .tup xs=>xs.length≤sizeLine∧∃ its:List Value,jq xs its∧IsTup h a its.toArray
 | .dK kvs=>kvs.length≤sizeLine∧(a == sysModules)=false∧∃ vs,KV kvs vs∧h.DictOf (jh P w) a vs
 | .dT kvs=>kvs.length≤sizeLine∧(a == sysModules)=false∧∃ xs:List (List Key×Addr×Value),
   Paired (fun (p:List Key×V) (q:List Key×Addr×Value)=>p.1=q.1∧H q.2.1=some (.tup (p.1.map kV))∧jl p.2 q.2.2) kvs xs ∧
   ∃ o es ep,h.get? a=some o∧o.ExactDict∧o.data=.dict es ep∧es.toList=xs.map (entryOfKey (tupleKind (jh P w)))∧(xs.map (·.1)).Nodup
 | .set S n=>h.SetOf (intKind P w) a S n
 | .ins C dx fs=>H dx=some (.own a)∧fs.length≤1000∧dx≠a∧h.get? a=some (PySem.W.instObj C dx) ∧
   ∃ mA,h.Ns1 dx mA∧(∀ f,qk (fs.lookup f) (mA f))∧PySem.Within mA (fs.map (·.1))
 | .own _=>∃ o,h.get? a=some o
 | .xd fs=>∃ mA,h.Ns1 a mA∧∀ f,qk (fs.lookup f) (mA f)
 | .rng lo hi=>∃ t u v,h.get? a=some { cls:=.type "range",data:=.fields #[.int lo t,.int hi u,.int 1 v]}
 | .frz o u=>h.get? a=some o∧Jg H h a u
 | .tbl ps=>h.get? a=some { cls:=.none,data:=.fields ps}
 | .met f x=>h.get? a=some (PySem.W.methodObj (.ref f) (.ref x))
 | .ext φ=>φ h∧(∃ o,h.get? a=some o)∧∀ h1 h2:Heap,φ h1→(∀ o,h1.get? a=some o→h2.get? a=some o)→φ h2
noncomputable def HOk (H:Hp) (h:Heap):Prop:=∀ a o,H a=some o→Jg P w H h a o
end
section
variable {P:Program} {w:World} {H H':Hp} {h h':Heap} {a:Addr} {o:HO}
theorem Jg.lt (x:Jg P w H h a o):a < h.objs.size:=by
 cases o with
 | lst xs=>obtain ⟨_,_,_,_,e⟩:=x;exact Heap.lt_size e
 | tup xs=>obtain ⟨_,_,_,p⟩:=x;exact p.lt
 | dK kvs=>obtain ⟨_,_,_,_,o,_,_,e,_⟩:=x;exact Heap.lt_size e
 | dT kvs=>obtain ⟨_,_,_,_,o,_,_,e,_⟩:=x;exact Heap.lt_size e
 | set S n=>obtain ⟨o,_,_,_,e,_⟩:=x;exact Heap.lt_size e
 | ins C dx fs=>obtain ⟨_,_,_,e,_⟩:=x;exact Heap.lt_size e
 | own y=>obtain ⟨_,e⟩:=x;exact Heap.lt_size e
 | xd fs=>obtain ⟨_,⟨_,_,_,e,_⟩,_⟩:=x;exact Heap.lt_size e
 | rng lo hi=>obtain ⟨_,_,_,e⟩:=x;exact Heap.lt_size e
 | frz ob u=>obtain ⟨e,_⟩:=x;exact Heap.lt_size e
 | tbl ps=>exact Heap.lt_size (show h.get? a=some _ from x)
 | met f y=>exact Heap.lt_size (show h.get? a=some _ from x)
 | ext φ=>obtain ⟨_,⟨_,e⟩,_⟩:=x;exact Heap.lt_size e
theorem Paired.mapP {α β:Type} {F G:α→β→Prop}:∀ {l₁:List α} {l₂:List β},Paired F l₁ l₂→(∀ a b,F a b→G a b)→Paired G l₁ l₂
 | _,_,.nil,_=>.nil
 | _,_,.cons r t,f=>.cons (f _ _ r) (Paired.mapP t f)
theorem Jg.stay (x:Jg P w H h a o) (k:∀ b u,(b=a∨H b=some (.own a))→h.get? b=some u→h'.get? b=some u)
  (ho:∀ b,H b=some (.own a)→H' b=some (.own a)) (ht:∀ b xs,H b=some (.tup xs)→H' b=some (.tup xs)):Jg P w H' h' a o:=by
 induction o with
 | lst xs=>obtain ⟨z,its,n,r,e⟩:=x;exact ⟨z,its,n,r,k _ _ (.inl rfl) e⟩
 | tup xs=>obtain ⟨z,its,r,ob,e,c⟩:=x;exact ⟨z,its,r,ob,k _ _ (.inl rfl) e,c⟩
 | dK kvs=>obtain ⟨z,y,vs,r,ob,es,ep,e,c⟩:=x;exact ⟨z,y,vs,r,ob,es,ep,k _ _ (.inl rfl) e,c⟩
 | dT kvs =>
  obtain ⟨z,y,xs,r,ob,es,ep,e,c⟩:=x
  exact ⟨z,y,xs,Paired.mapP r fun p q z=>⟨z.1,ht _ _ z.2.1,z.2.2⟩,ob,es,ep,k _ _ (.inl rfl) e,c⟩
 | set S n=>obtain ⟨ob,es,ep,t,e,c⟩:=x;exact ⟨ob,es,ep,t,k _ _ (.inl rfl) e,c⟩
 | ins C dx fs =>
  obtain ⟨d,z,ne,e,mA,⟨od,es,ep,e2,c⟩,r⟩:=x
  exact ⟨ho _ d,z,ne,k _ _ (.inl rfl) e,mA,⟨od,es,ep,k _ _ (.inr d) e2,c⟩,r⟩
 | own y=>obtain ⟨ob,e⟩:=x;exact ⟨ob,k _ _ (.inl rfl) e⟩
 | xd fs=>obtain ⟨mA,⟨od,es,ep,e,c⟩,r⟩:=x;exact ⟨mA,⟨od,es,ep,k _ _ (.inl rfl) e,c⟩,r⟩
 | rng lo hi=>obtain ⟨t,u,v,e⟩:=x;exact ⟨t,u,v,k _ _ (.inl rfl) e⟩
 | frz ob u ih=>obtain ⟨e,q⟩:=x;exact ⟨k _ _ (.inl rfl) e,ih q⟩
 | tbl ps =>
  have e:h.get? a=some { cls:=.none,data:=.fields ps}:=x
  show h'.get? a=some { cls:=.none,data:=.fields ps}
  exact k a _ (.inl rfl) e
 | met f y =>
  have e:h.get? a=some (PySem.W.methodObj (.ref f) (.ref y)):=x
  show h'.get? a=some (PySem.W.methodObj (.ref f) (.ref y))
  exact k a _ (.inl rfl) e
 | ext φ=>obtain ⟨p,⟨o,e⟩,st⟩:=x;exact ⟨st _ _ p fun o q=>k _ _ (.inl rfl) q,⟨o,k _ _ (.inl rfl) e⟩,st⟩
theorem HOk.lt (x:HOk P w H h) (e:H a=some o):a < h.objs.size:=(x a o e).lt
theorem HOk.fresh (x:HOk P w H h) (e:h.objs.size≤a):H a=none:=by
 cases q:H a with
 | none=>rfl
 | some u=>exact absurd (Nat.lt_of_lt_of_le (x.lt q) e) (Nat.lt_irrefl _)
theorem HOk.kept (x:HOk P w H h) (k:∀ b u,h.get? b=some u→h'.get? b=some u):HOk P w H h':=fun a o e =>
 (x a o e).stay (fun b u _ q=>k b u q) (fun _ q=>q) fun _ _ q=>q
theorem HOk.laid (x:HOk P w H h) (k:∀ b u,h.get? b=some u→h'.get? b=some u) (hp:h.objs.size≤a) (new:Jg P w (upd H a o) h' a o):HOk P w (upd H a o) h':=fun b u e=>by
 have hn:=x.fresh hp
 by_cases hb:b=a
 ·subst hb;rw [js] at e;cases e;exact new
 ·rw [j9 hb] at e
  exact (x b u e).stay (fun c v _ q=>k c v q) (fun c q=>by rw [j9 (jt q hn)];exact q) fun c xs q=>by rw [j9 (jt q hn)];exact q
end
noncomputable def Rd (H:Hp) (a:Addr) (u:HO):Prop:=H a=some u∨∃ o,H a=some (.frz o u)
theorem Rd.ok {P:Program} {w:World} {H:Hp} {h:Heap} {a:Addr} {u:HO} (r:Rd H a u) (x:HOk P w H h):Jg P w H h a u:=by
 rcases r with r | ⟨o,r⟩
 ·exact x a u r
 ·obtain ⟨_,q⟩:=x a _ r
  exact q
noncomputable def Mut:Option HO→Prop
 | some (.lst _)=>True
 | some (.dK _)=>True
 | some (.dT _)=>True
 | some (.set _ _)=>True
 | some (.ins _ _ _)=>True
 | some (.ext _)=>True
 | _=>False
section
variable {P:Program} {w:World} {H:Hp} {h h':Heap} {x e:Addr} {o':HO}
theorem HOk.write (ok:HOk P w H h) (mu:Mut (H x)) (he:e=x∨H e=some (.own x)) (k:∀ b u,b≠e→h.get? b=some u→h'.get? b=some u) (heo:∃ u,h'.get? e=some u)
  (new:Jg P w (upd H x o') h' x o'):HOk P w (upd H x o') h':=fun b u q=>by
 have nown:∀ c y,H c=some (.own y)→c≠x:=fun c y r z=>by subst z;rw [r] at mu;exact mu
 have ntup:∀ c xs,H c=some (.tup xs)→c≠x:=fun c xs r z=>by subst z;rw [r] at mu;exact mu
 by_cases hb:b=x
 ·subst hb;rw [js] at q;cases q;exact new
 ·rw [j9 hb] at q
  by_cases hbe:b=e
  ·have q':H b=some (.own x):=by
    rcases he with z | z
    ·exact absurd (hbe.trans z) hb
    ·rw [hbe];exact z
   rw [q] at q';cases q'
   obtain ⟨v,hv⟩:=heo
   exact ⟨v,by rw [hbe];exact hv⟩
  ·refine (ok b u q).stay (fun c v hc r=>k c v ?_ r) (fun c r=>by rw [j9 (nown c b r)];exact r) fun c xs r=>by rw [j9 (ntup c xs r)];exact r
   rcases hc with rfl | hc
   ·exact hbe
   ·rintro rfl
    rcases he with z | z
    ·exact nown c b hc z
    ·rw [hc] at z;cases z;exact hb rfl
end
structure Un (fs ex:List Addr) (H H':Hp) (h h':Heap):Prop where
 keep:∀ b o,h.get? b=some o→H b=none→b∉fs→b∉ex→h'.get? b=some o
 slot:∀ b o,h.get? b=some o→H b=none→b∈fs→b∉ex→∃ sl,h'.get? b=some { o with slots:=sl}
 free:∀ b o,h.get? b=some o→H b=none→b∉ex→H' b=none
 there:∀ b o,h.get? b=some o→b∉ex→∃ o',h'.get? b=some o'
 tups:∀ b xs,H b=some (.tup xs)→H' b=some (.tup xs)
 frzs:∀ b o u,H b=some (.frz o u)→H' b=some (.frz o u)
 tbls:∀ b ps,H b=some (.tbl ps)→∃ more,H' b=some (.tbl (ps++more))
section
variable {fs fs' ex ex':List Addr} {H H1 H2:Hp} {h h1 h2 h':Heap} {a x e:Addr} {o:HO}
theorem Un.any (u:Un fs ex H H1 h h1) {b:Addr} {ob:Obj} (q:h.get? b=some ob) (n:H b=none) (hx:b∉ex):∃ sl,h1.get? b=some { ob with slots:=sl}:=by
 by_cases hb:b∈fs
 ·exact u.slot b ob q n hb hx
 ·exact ⟨ob.slots,u.keep b ob q n hb hx⟩
theorem Un.trans (a:Un fs ex H H1 h h1) (b:Un fs ex H1 H2 h1 h2):Un fs ex H H2 h h2 where
 keep:=fun c ob q n hc hx=>b.keep c ob (a.keep c ob q n hc hx) (a.free c ob q n hx) hc hx
 slot:=fun c ob q n hc hx=>by
  obtain ⟨sl,e1⟩:=a.slot c ob q n hc hx
  obtain ⟨sl',e2⟩:=b.slot c _ e1 (a.free c ob q n hx) hc hx
  exact ⟨sl',e2⟩
 free:=fun c ob q n hx=>by
  obtain ⟨o',e1⟩:=a.there c ob q hx
  exact b.free c o' e1 (a.free c ob q n hx) hx
 there:=fun c ob q hx=>by
  obtain ⟨o',e1⟩:=a.there c ob q hx
  exact b.there c o' e1 hx
 tups:=fun c xs q=>b.tups c xs (a.tups c xs q)
 frzs:=fun c ob xs q=>b.frzs c ob xs (a.frzs c ob xs q)
 tbls:=fun c ps q=>by
  obtain ⟨m1,e1⟩:=a.tbls c ps q
  obtain ⟨m2,e2⟩:=b.tbls c _ e1
  exact ⟨m1++m2,by rw [e2,Array.append_assoc]⟩
theorem Un.kept (k:∀ b u,h.get? b=some u→h'.get? b=some u):Un fs ex H H h h' :=
 ⟨fun b ob q _ _ _=>k b ob q,fun b ob q _ _ _=>⟨ob.slots,k b ob q⟩,fun _ _ _ n _=>n,fun b ob q _=>⟨ob,k b ob q⟩,fun _ _ q=>q,fun _ _ _ q=>q,fun _ ps q=>⟨#[],by rw [q];simp⟩⟩
theorem Un.refl:Un fs ex H H h h:=Un.kept fun _ _ q=>q
theorem Un.laid (k:∀ b u,h.get? b=some u→h'.get? b=some u) (hp:h.objs.size≤a) (hn:H a=none):Un fs ex H (upd H a o) h h' where
 keep:=fun b u q _ _ _=>k b u q
 slot:=fun b u q _ _ _=>⟨u.slots,k b u q⟩
 free:=fun b u q n _=>by rw [j9 (Nat.ne_of_lt (Nat.lt_of_lt_of_le (Heap.lt_size q) hp))];exact n
 there:=fun b u q _=>⟨u,k b u q⟩
 tups:=fun b xs q=>by rw [j9 (jt q hn)];exact q
 frzs:=fun b u xs q=>by rw [j9 (jt q hn)];exact q
 tbls:=fun b ps q=>⟨#[],by rw [j9 (jt q hn),q];simp⟩
theorem Un.write (mu:Mut (H x)) (he:e=x∨H e=some (.own x)) (k:∀ b u,b≠e→h.get? b=some u→h'.get? b=some u) (heo:∃ u,h'.get? e=some u):Un fs ex H (upd H x o) h h':=by
 have hx:∀ b,H b=none→b≠x:=fun b n z=>by subst z;rw [n] at mu;exact mu
 have hb:∀ b,H b=none→b≠e:=fun b n z=>by
  subst z
  rcases he with r | r
  ·exact hx b n r
  ·rw [n] at r;cases r
 have hm:∀ b u,H b=some u→¬ Mut (some u)→b≠x:=fun b u q nm z=>by subst z;rw [q] at mu;exact nm mu
 refine ⟨fun b u q n _ _=>k b u (hb b n) q,fun b u q n _ _=>⟨u.slots,k b u (hb b n) q⟩,fun b u q n _=>by rw [j9 (hx b n)];exact n,fun b u q _=>?_,
  fun b xs q=>by rw [j9 (hm b _ q fun z=>z)];exact q,fun b u xs q=>by rw [j9 (hm b _ q fun z=>z)];exact q,fun b ps q=>⟨#[],by rw [j9 (hm b _ q fun z=>z),q];simp⟩⟩
 by_cases hbe:b=e
 ·subst hbe;exact heo
 ·exact ⟨u,k b u hbe q⟩
end
noncomputable def trk (h:Heap) (H:Hp):List Addr:=(List.range h.objs.size).filter fun a=>(H a).isSome
noncomputable def Wc (h:Heap) (H:Hp):Heap:=PySem.W.hideAll h (trk h H)
theorem eg (h:Heap) (H:Hp):(Wc h H).objs.size=h.objs.size:=PySem.W.hideAll_size _ _
theorem C1 {h:Heap} {H:Hp} {b:Addr} {o:Obj} (e:h.get? b=some o) (n:H b=none):(Wc h H).get? b=some o :=
 PySem.W.hideAll_get _ e fun hm=>by
  have q:(H b).isSome=true:=(List.mem_filter.mp hm).2
  rw [n] at q;simp at q
theorem Bd {h:Heap} {H:Hp} {b:Addr} {o:Obj} (e:(Wc h H).get? b=some o):h.get? b=some o∧H b=none:=by
 have e':h.get? b=some o:=PySem.W.of_hideAll (trk h H) e
 refine ⟨e',?_⟩
 cases q:H b with
 | none=>rfl
 | some x =>
  have hm:b∈trk h H:=List.mem_filter.mpr ⟨List.mem_range.mpr (Heap.lt_size e'),by simp [q]⟩
  have z:(Wc h H).get? b=none:=PySem.W.hideAll_none (trk h H) hm
  rw [z] at e;cases e
noncomputable def Ay (g h:Heap) (L:Addr):List (Addr×Obj):=(List.range h.objs.size).filterMap fun a=>if a=L∨(g.get? a).isSome=true then none else (h.get? a).map fun o=>(a,o)
noncomputable def rest (g h:Heap) (L d:Addr):List (Addr×Obj):=(Ay g h L).filter fun p=>decide (p.1≠d)
end L2
namespace L2
open PySem PySem.Spec PyProof.Rows
structure Mod (K:PySem.W.Frag) (mg:Str→Option Value) (base:Heap):Prop where
 kin:K.In base
 glob:base.Ns mainGlobals mg
 blt:∃ mb,base.Ns builtinsNs mb∧∀ x:Str,x≠"__name__"→mb x=bootBuiltins x
 nolimit:base.NoLimit
structure Cx where
 prog:Program
 w:World
 K:PySem.W.Frag
 mg:Str→Option Value
 base:Heap
 A:Around
 N:List Str
 s₀:Shared
 H₀:Hp
 env:Env
 outer:List Env
 stack:List Env
 ex:List Addr
 fn:Str→Bool
 calm:Bool
 pn:List (Addr×Obj)
 xe:Value→Shared→Prop
noncomputable def frs (l:List Env):List Addr:=l.filterMap (·.frame)
noncomputable abbrev Cx.fs (X:Cx):List Addr:=frs X.outer
noncomputable def Vis (sc:Scope) (x:Str):Prop:=sc.names.lookup x=some .local∨sc.names.lookup x=some .cell∨sc.names.lookup x=some .free
noncomputable def Loc (sc:Scope) (x:Str):Prop:=sc.names.lookup x=some .local∨sc.names.lookup x=some .cell
noncomputable def Look (env:Env) (h:Heap) (m:Str→Option Value) (x:Str) (u:Value):Prop :=
 (env.kindOf x=some .local∧m x=some u)∨((env.kindOf x=some .cell∨env.kindOf x=some .free)∧∃ c,env.cells.lookup x=some c∧h.IsCell c (some u))
structure Cx.Ok (X:Cx):Prop where
 mod:Mod X.K X.mg X.base
 kind:X.env.scope.kind=.function
 glob:X.env.globals=mainGlobals
 blt:X.env.builtins=builtinsNs
 above:X.s₀.heap.objs.size≤X.env.locals
 inj:∀ x y c,X.env.cells.lookup x=some c→X.env.cells.lookup y=some c→x=y
 has:∀ x,(X.env.kindOf x=some .cell∨X.env.kindOf x=some .free)→∃ c,X.env.cells.lookup x=some c
 cab:∀ x c,X.fn x=true→X.env.cells.lookup x=some c→X.s₀.heap.objs.size≤c
 hd:X.calm=true→X.A.handled=none
 frames:X.A.frames=some X.stack
 stk:X.stack=X.outer∨(X.stack=X.env::X.outer∧X.env.frame=some X.env.locals)
 exf:∀ b∈X.ex,b≠X.env.locals∧∀ x c,X.env.cells.lookup x=some c→c≠b
 bs:∀ b o,X.base.get? b=some o→X.s₀.heap.get? b=some o∧X.H₀ b=none
 bsz:X.base.objs.size≤X.s₀.heap.objs.size
 noex:∀ b o,X.base.get? b=some o→b∉X.ex
 exfs:∀ b∈X.ex,b∉X.fs
 funs:X.s₀.heap.FunFrames X.base X.outer
 frf:∀ b∈X.fs,X.H₀ b=none
structure Inv (X:Cx) (pins:List (Addr×Obj)) (σ:List (Option V)) (H:Hp) (s:Shared):Prop where
 ok:X.Ok
 os:s.os=X.s₀.os
 bare:AllBare s.gens
 base:Un X.fs X.ex X.H₀ H X.s₀.heap s.heap
 loc:∃ m,s.heap.Ns X.env.locals m∧∀ (i:Nat) (x:Str) (v:V),X.N[i]? =some x→σ[i]? =some (some v)→Vis X.env.scope x→∃ u,jl v u∧Look X.env s.heap m x u
 cell:∀ x c,X.env.cells.lookup x=some c→∃ v,s.heap.IsCell c v
 free:H X.env.locals=none
 freeC:∀ x c,X.env.cells.lookup x=some c→H c=none
 pin:∀ p∈X.pn++pins,s.heap.get? p.1=some p.2∧H p.1=none∧p.1≠X.env.locals∧p.1∉X.fs∧∀ v,p.2.data≠.cell v
 hok:HOk X.prog X.w H s.heap
 len:σ.length=X.N.length
section
variable {X:Cx} {pins:List (Addr×Obj)} {σ:List (Option V)} {H H':Hp} {s:Shared} {h':Heap}
theorem Cx.Ok.nofr (ok:X.Ok) {b:Addr} {o:Obj} (e:X.base.get? b=some o):b∉X.fs:=fun hb=>by
 have:=(ok.funs.mem hb).1
 rw [e] at this;cases this
theorem Inv.bs (I:Inv X pins σ H s):∀ b o,X.base.get? b=some o→s.heap.get? b=some o∧H b=none:=fun b o e =>
 ⟨I.base.keep b o (I.ok.bs b o e).1 (I.ok.bs b o e).2 (I.ok.nofr e) (I.ok.noex b o e),I.base.free b o (I.ok.bs b o e).1 (I.ok.bs b o e).2 (I.ok.noex b o e)⟩
theorem Inv.bk (I:Inv X pins σ H s):∀ b o,X.base.get? b=some o→s.heap.get? b=some o:=fun b o e=>(I.bs b o e).1
theorem Inv.mod (I:Inv X pins σ H s):Mod X.K X.mg X.base:=I.ok.mod
theorem Inv.kIn (I:Inv X pins σ H s):X.K.In s.heap:=I.ok.mod.kin.keeps I.bk
theorem Inv.fr (I:Inv X pins σ H s):∃ m,Fr X.base X.env.locals s.heap m :=
 let ⟨m,hn,_⟩:=I.loc
 ⟨m,hn,I.bk,Nat.le_trans I.ok.bsz I.ok.above⟩
theorem Inv.lt (I:Inv X pins σ H s):X.env.locals < s.heap.objs.size:=let ⟨_,hn,_⟩:=I.loc;hn.lt
theorem Inv.sz (I:Inv X pins σ H s):X.s₀.heap.objs.size≤s.heap.objs.size:=Nat.le_trans I.ok.above (Nat.le_of_lt I.lt)
theorem Inv.nofs (I:Inv X pins σ H s) {a:Addr} (h:s.heap.objs.size≤a):a∉X.fs:=fun hb=>by
 obtain ⟨_,o,ho,_⟩:=I.ok.funs.mem hb
 exact absurd (Nat.lt_of_lt_of_le (Heap.lt_size ho) (Nat.le_trans I.sz h)) (Nat.lt_irrefl _)
theorem Inv.cne (I:Inv X pins σ H s):∀ x c,X.env.cells.lookup x=some c→c≠X.env.locals:=fun x c e z=>by
 obtain ⟨v,o,ho,hd⟩:=I.cell x c e
 obtain ⟨m,⟨o',es,ep,ho',hd',_⟩,_⟩:=I.loc
 rw [z,ho'] at ho;cases ho;rw [hd'] at hd;cases hd
theorem Inv.funs (I:Inv X pins σ H s):s.heap.FunFrames X.base X.outer:=by
 have all:∀ (l:List Env),(∀ b∈frs l,b∈X.fs)→X.s₀.heap.FunFrames X.base l→s.heap.FunFrames X.base l:=by
  intro l
  induction l with
  | nil=>intro _ _;trivial
  | cons env r ih =>
   intro hs hl
   obtain ⟨hk,⟨L,o,hf,hn,ho,hd⟩,hr⟩:=hl
   have hL:L∈X.fs:=hs L (by unfold frs;rw [List.filterMap_cons,hf];exact List.mem_cons_self)
   obtain ⟨sl,e⟩:=I.base.slot L o ho (I.ok.frf L hL) hL fun z=>I.ok.exfs L z hL
   exact ⟨hk,⟨L,_,hf,hn,e,hd⟩,ih (fun b hb=>hs b (by unfold frs;rw [List.filterMap_cons,hf];exact List.mem_cons_of_mem _ hb)) hr⟩
 exact all X.outer (fun _ hb=>hb) I.ok.funs
theorem Inv.stack (I:Inv X pins σ H s):s.heap.FunFrames X.base X.stack:=by
 rcases I.ok.stk with e | ⟨e,hf⟩
 ·rw [e];exact I.funs
 ·rw [e]
  obtain ⟨m,hn,_⟩:=I.loc
  refine .cons (by rw [I.ok.kind];decide) hf hn ?_ I.funs
  exact Heap.get?_none_of_le (Nat.le_trans I.ok.bsz I.ok.above)
theorem Inv.stkSub (I:Inv X pins σ H s):∀ b∈frs X.stack,b∈X.env.locals::X.fs:=fun b hb=>by
 rcases I.ok.stk with e | ⟨e,hf⟩
 ·rw [e] at hb;exact List.mem_cons_of_mem _ hb
 ·rw [e] at hb
  unfold frs at hb
  rw [List.filterMap_cons,hf] at hb
  exact hb
theorem Inv.stkFree (I:Inv X pins σ H s):∀ b∈frs X.stack,H b=none:=fun b hb=>by
 rcases List.mem_cons.mp (I.stkSub b hb) with e | hb
 ·rw [e];exact I.free
 ·obtain ⟨_,o,ho,_⟩:=I.ok.funs.mem hb
  exact I.base.free b o ho (I.ok.frf b hb) fun z=>I.ok.exfs b z hb
theorem Inv.step {g':Array GenState} {t':Nat} {d':Drawn} {ch:List Addr} (I:Inv X pins σ H s)
  (hch:∀ b∈ch,(b∈X.ex∨X.s₀.heap.objs.size≤b)∧b≠X.env.locals∧(∀ x c,X.env.cells.lookup x=some c→c≠b)∧∀ p∈X.pn++pins,p.1≠b)
  (keep:∀ b o,b≠X.env.locals→b∉X.fs→b∉ch→s.heap.get? b=some o→H b=none→h'.get? b=some o)
  (slot:∀ b o,b≠X.env.locals→b∈X.fs→b∉ch→s.heap.get? b=some o→H b=none→∃ sl,h'.get? b=some { o with slots:=sl}) (free:∀ b o,b∉ch→s.heap.get? b=some o→H b=none→H' b=none)
  (there:∀ b o,b∉ch→s.heap.get? b=some o→∃ o',h'.get? b=some o')
  (tups:∀ b xs,H b=some (.tup xs)→H' b=some (.tup xs)) (frzs:∀ b o u,H b=some (.frz o u)→H' b=some (.frz o u)) (tbls:∀ b ps,H b=some (.tbl ps)→∃ more,H' b=some (.tbl (ps++more)))
  (ns:∀ m,s.heap.Ns X.env.locals m→h'.Ns X.env.locals m) (hok:HOk X.prog X.w H' h') (hg:AllBare g') :
  Inv X pins σ H' { s with heap:=h',gens:=g',drawn:=d',toks:=t'}:=by
 have neL:∀ b o,X.s₀.heap.get? b=some o→b≠X.env.locals:=fun b o e=>Nat.ne_of_lt (Nat.lt_of_lt_of_le (Heap.lt_size e) I.ok.above)
 have neC:∀ b o,X.s₀.heap.get? b=some o→b∉X.ex→b∉ch:=fun b o e hx hb=>by
  rcases (hch b hb).1 with z | z
  ·exact hx z
  ·exact absurd (Nat.lt_of_lt_of_le (Heap.lt_size e) z) (Nat.lt_irrefl _)
 have cellK:∀ x c,X.env.cells.lookup x=some c→∀ v,s.heap.IsCell c v→h'.IsCell c v:=fun x c e v ⟨o,ho,hd⟩=>by
  have nch:c∉ch:=fun z=>(hch c z).2.2.1 x c e rfl
  by_cases hc:c∈X.fs
  ·obtain ⟨sl,q⟩:=slot c o (I.cne x c e) hc nch ho (I.freeC x c e)
   exact ⟨_,q,hd⟩
  ·exact ⟨o,keep c o (I.cne x c e) hc nch ho (I.freeC x c e),hd⟩
 refine ⟨I.ok,I.os,hg,⟨fun b o e n hb hx=>?_,fun b o e n hb hx=>?_,fun b o e n hx=>?_,fun b o e hx=>?_,fun b xs e=>tups b xs (I.base.tups b xs e),fun b o xs e=>frzs b o xs (I.base.frzs b o xs e),fun b ps e=>?_⟩,?_,fun x c e=>?_,?_,fun x c e=>?_,fun p hp=>?_,hok,I.len⟩
 ·exact keep b o (neL b o e) hb (neC b o e hx) (I.base.keep b o e n hb hx) (I.base.free b o e n hx)
 ·obtain ⟨sl,e1⟩:=I.base.slot b o e n hb hx
  obtain ⟨sl',e2⟩:=slot b _ (neL b o e) hb (neC b o e hx) e1 (I.base.free b o e n hx)
  exact ⟨sl',e2⟩
 ·obtain ⟨o',e1⟩:=I.base.there b o e hx
  exact free b o' (neC b o e hx) e1 (I.base.free b o e n hx)
 ·obtain ⟨o',e1⟩:=I.base.there b o e hx
  exact there b o' (neC b o e hx) e1
 ·obtain ⟨m1,e1⟩:=I.base.tbls b ps e
  obtain ⟨m2,e2⟩:=tbls b _ e1
  exact ⟨m1++m2,by rw [e2,Array.append_assoc]⟩
 ·obtain ⟨m,hn,hl⟩:=I.loc
  refine ⟨m,ns m hn,fun i x v e1 e2 e3=>?_⟩
  obtain ⟨u,r,l⟩:=hl i x v e1 e2 e3
  refine ⟨u,r,?_⟩
  rcases l with l | ⟨k,c,e,z⟩
  ·exact .inl l
  ·exact .inr ⟨k,c,e,cellK x c e _ z⟩
 ·obtain ⟨v,z⟩:=I.cell x c e
  exact ⟨v,cellK x c e v z⟩
 ·obtain ⟨m,⟨o,_,_,ho,_⟩,_⟩:=I.loc
  exact free _ o (fun z=>(hch _ z).2.1 rfl) ho I.free
 ·obtain ⟨v,o,ho,hd⟩:=I.cell x c e
  exact free c o (fun z=>(hch c z).2.2.1 x c e rfl) ho (I.freeC x c e)
 ·obtain ⟨e,n,ne,nf,d⟩:=I.pin p hp
  have nch:p.1∉ch:=fun z=>(hch p.1 z).2.2.2 p hp rfl
  exact ⟨keep p.1 p.2 ne nf nch e n,free p.1 p.2 nch e n,ne,nf,d⟩
theorem Inv.un {t':Nat} (I:Inv X pins σ H s) (u:Un X.fs [] H H' s.heap h') (hok:HOk X.prog X.w H' h'):Inv X pins σ H' { s with heap:=h',toks:=t'}:=by
 obtain ⟨m,⟨o,es,ep,ho,r⟩,_⟩:=id I.loc
 obtain ⟨sl,hL⟩:=u.any ho I.free (by simp)
 exact I.step (g':=s.gens) (d':=s.drawn) (ch:=[]) (fun _ z=>nomatch z) (fun b o _ hb _ e n=>u.keep b o e n hb (by simp)) (fun b o _ hb _ e n=>u.slot b o e n hb (by simp)) (fun b o _ e n=>u.free b o e n (by simp)) (fun b o _ e=>u.there b o e (by simp)) u.tups u.frzs u.tbls (fun m' hm=>by
  obtain ⟨o',es',ep',ho',r'⟩:=hm
  rw [ho] at ho';cases ho'
  exact ⟨_,es',ep',hL,r'⟩) hok I.bare
theorem Inv.call {g':Array GenState} {t':Nat} {d':Drawn} {ch:List Addr} (I:Inv X pins σ H s) (u:Un (frs X.stack) ch H H' s.heap h') (hok:HOk X.prog X.w H' h') (hg:AllBare g')
  (hch:∀ b∈ch,(b∈X.ex∨X.s₀.heap.objs.size≤b)∧b≠X.env.locals∧(∀ x c,X.env.cells.lookup x=some c→c≠b)∧∀ p∈X.pn++pins,p.1≠b) :
  Inv X pins σ H' { s with heap:=h',gens:=g',drawn:=d',toks:=t'}:=by
 obtain ⟨m,⟨o,es,ep,ho,r⟩,_⟩:=id I.loc
 obtain ⟨sl,hL⟩:=u.any ho I.free fun z=>(hch _ z).2.1 rfl
 exact I.step (ch:=ch) hch (fun b o hL hb hc e n=>u.keep b o e n (fun z=>(List.mem_cons.mp (I.stkSub b z)).elim hL hb) hc) (fun b o _ _ hc e n=>u.any e n hc) (fun b o hc e n=>u.free b o e n hc) (fun b o hc e=>u.there b o e hc) u.tups u.frzs u.tbls (fun m' hm=>by
  obtain ⟨o',es',ep',ho',r'⟩:=hm
  rw [ho] at ho';cases ho'
  exact ⟨_,es',ep',hL,r'⟩) hok hg
theorem Inv.turned {t':Nat} {it:Addr} (I:Inv X pins σ H s) (k:∀ b o,b≠it→s.heap.get? b=some o→h'.get? b=some o) (hn:H it=none) (hL:it≠X.env.locals)
  (h1:it∈X.ex∨X.s₀.heap.objs.size≤it) (h2:∀ x c,X.env.cells.lookup x=some c→c≠it) (h3:∀ p∈X.pn++pins,p.1≠it):Inv X pins σ H { s with heap:=h',toks:=t'}:=by
 have nit:∀ b u,H b=some u→b≠it:=fun b u e z=>by rw [z,hn] at e;cases e
 refine I.step (g':=s.gens) (d':=s.drawn) (ch:=[it]) (fun b hb=>?_) (fun b o _ _ hc e _=>k b o (fun z=>hc (by simp [z])) e) (fun b o _ _ hc e _=>⟨o.slots,k b o (fun z=>hc (by simp [z])) e⟩) (fun _ _ _ _ n=>n)
  (fun b o hc e=>⟨o,k b o (fun z=>hc (by simp [z])) e⟩) (fun _ _ e=>e) (fun _ _ _ e=>e) (fun b ps e=>⟨#[],by rw [e];simp⟩) (fun m hm=>?_) (fun b u e=>?_) I.bare
 ·have e:b=it:=by simpa using hb
  subst e
  exact ⟨h1,hL,h2,h3⟩
 ·obtain ⟨o,es,ep,ho,r⟩:=hm
  exact ⟨o,es,ep,k _ o (Ne.symm hL) ho,r⟩
 ·refine (I.hok b u e).stay (fun c v hc q=>k c v ?_ q) (fun _ q=>q) fun _ _ q=>q
  rcases hc with z | z
  ·rw [z];exact nit b u e
  ·exact nit c _ z
theorem Inv.tok (I:Inv X pins σ H s) (t:Nat):Inv X pins σ H { s with toks:=t}:=I.un (h':=s.heap) (t':=t) Un.refl I.hok
theorem Inv.kept {t':Nat} (I:Inv X pins σ H s) (k:∀ b u,s.heap.get? b=some u→h'.get? b=some u):Inv X pins σ H { s with heap:=h',toks:=t'}:=I.un (Un.kept k) (I.hok.kept k)
theorem Inv.laid {a:Addr} {o:HO} {t':Nat} (I:Inv X pins σ H s) (k:∀ b u,s.heap.get? b=some u→h'.get? b=some u) (hp:s.heap.objs.size≤a) (new:Jg X.prog X.w (upd H a o) h' a o) :
  Inv X pins σ (upd H a o) { s with heap:=h',toks:=t'}:=I.un (Un.laid k hp (I.hok.fresh hp)) (I.hok.laid k hp new)
theorem Inv.write {x e:Addr} {o:HO} {t':Nat} (I:Inv X pins σ H s) (mu:Mut (H x)) (he:e=x∨H e=some (.own x)) (k:∀ b u,b≠e→s.heap.get? b=some u→h'.get? b=some u) (heo:∃ u,h'.get? e=some u)
  (new:Jg X.prog X.w (upd H x o) h' x o):Inv X pins σ (upd H x o) { s with heap:=h',toks:=t'}:=I.un (Un.write mu he k heo) (I.hok.write mu he k heo new)
theorem Inv.pins_of {pins':List (Addr×Obj)} (I:Inv X pins σ H s) (h:∀ p∈pins',s.heap.get? p.1=some p.2∧H p.1=none∧p.1≠X.env.locals∧p.1∉X.fs∧∀ v,p.2.data≠.cell v):Inv X pins' σ H s :=
 ⟨I.ok,I.os,I.bare,I.base,I.loc,I.cell,I.free,I.freeC,fun p hp=>(List.mem_append.mp hp).elim (fun z=>I.pin p (List.mem_append_left _ z)) (h p),I.hok,I.len⟩
theorem Vp {N:List Str} (hN:N.Nodup) {i j:Nat} {x:Str} (a:N[i]? =some x) (b:N[j]? =some x):i=j:=by
 obtain ⟨h1,e1⟩:=List.getElem?_eq_some_iff.mp a
 obtain ⟨h2,e2⟩:=List.getElem?_eq_some_iff.mp b
 exact (List.getElem_inj hN).mp (e1.trans e2.symm)
theorem Xf {M:Model} {A:Around} {E:Value→Shared→Prop} {i:Nat} {x:Str} {v:V} {u:Value} {Q:Unit→Shared→Prop} (I:Inv X pins σ H s) (hN:X.N.Nodup) (hi:X.N[i]? =some x) (hx:Loc X.env.scope x) (r:jl v u)
  (h:∀ s',Inv X pins (σ.set i (some v)) H s'→(∃ a,Heap.SameBut a s.heap s'.heap∧(a=X.env.locals∨X.env.cells.lookup x=some a))→Q () s') (hf:X.fn x=true∨X.env.scope.names.lookup x=some .local:=by first | exact .inl rfl | exact .inr rfl | assumption):wpAny M A (storeName X.env x u) Q E s:=by
 obtain ⟨m,hn,hl⟩:=id I.loc
 have hcls:(X.env.scope.kind == .class || (X.env.scope.kind == .module && X.env.locals != X.env.globals))=false:=by rw [I.ok.kind];rfl
 have hiσ:i < σ.length:=by rw [I.len];exact (List.getElem?_eq_some_iff.mp hi).1
 have cne:=I.cne
 have tracked:∀ {a:Addr} {h':Heap},(∃ o,s.heap.get? a=some o∧H a=none)→Heap.SameBut a s.heap h'→HOk X.prog X.w H h':=fun {a h'} ha hs b ob e=>by
  obtain ⟨_,_,hfree⟩:=ha
  refine (I.hok b ob e).stay (fun c w' hc q=>(hs.2 c ?_).trans q) (fun _ q=>q) fun _ _ q=>q
  rintro rfl
  rcases hc with rfl | hc
  ·rw [hfree] at e;cases e
  ·rw [hfree] at hc;cases hc
 rcases hx with hk | hk
 ·refine wpAny_storeName_local hk hn (fun h' hn' hs=>?_) hcls
  obtain ⟨oL,_,_,hoL,_⟩:=id hn
  refine h _ ⟨I.ok,I.os,I.bare,⟨fun b o e n hb hx=>?_,fun b o e n hb hx=>?_,I.base.free,fun b o e hx=>?_,I.base.tups,I.base.frzs,I.base.tbls⟩,⟨_,hn',fun j y v' e1 e2 e3=>?_⟩,fun y c e=>?_,I.free,I.freeC,fun p hp=>?_,tracked ⟨oL,hoL,I.free⟩ hs,by simpa using I.len⟩ ⟨_,hs,.inl rfl⟩
  ·exact (hs.2 b (Nat.ne_of_lt (Nat.lt_of_lt_of_le (Heap.lt_size e) I.ok.above))).trans (I.base.keep b o e n hb hx)
  ·obtain ⟨sl,e1⟩:=I.base.slot b o e n hb hx
   exact ⟨sl,(hs.2 b (Nat.ne_of_lt (Nat.lt_of_lt_of_le (Heap.lt_size e) I.ok.above))).trans e1⟩
  ·obtain ⟨o',e1⟩:=I.base.there b o e hx
   exact ⟨o',(hs.2 b (Nat.ne_of_lt (Nat.lt_of_lt_of_le (Heap.lt_size e) I.ok.above))).trans e1⟩
  ·by_cases hj:j=i
   ·subst hj
    rw [hi] at e1;cases e1
    rw [List.getElem?_set_self hiσ] at e2
    cases e2
    exact ⟨u,r,.inl ⟨hk,by simp⟩⟩
   ·rw [List.getElem?_set_ne (Ne.symm hj)] at e2
    obtain ⟨u',r',q⟩:=hl j y v' e1 e2 e3
    refine ⟨u',r',?_⟩
    rcases q with ⟨k,e⟩ | ⟨k,c,e,z⟩
    ·refine .inl ⟨k,?_⟩
     have:y≠x:=fun e=>hj (Vp hN e1 (e ▸ hi))
     simp [this,e]
    ·exact .inr ⟨k,c,e,z.sameBut hs (cne y c e)⟩
  ·obtain ⟨w',z⟩:=I.cell y c e
   exact ⟨w',z.sameBut hs (cne y c e)⟩
  ·obtain ⟨e,n,ne,nf,d⟩:=I.pin p hp
   exact ⟨(hs.2 p.1 ne).trans e,n,ne,nf,d⟩
 ·have hfn:X.fn x=true:=by
   rcases hf with z | z
   ·exact z
   ·rw [z] at hk;cases hk
  obtain ⟨c,hc⟩:=I.ok.has x (.inl hk)
  obtain ⟨w',z⟩:=I.cell x c hc
  refine wpAny_storeName_cell I.ok.kind hk hc z (fun h' hc' hs=>?_)
  obtain ⟨oc,hoc,hocd⟩:=id z
  refine h { s with heap:=h'} ⟨I.ok,I.os,I.bare,⟨fun b o e n hb hx=>?_,fun b o e n hb hx=>?_,I.base.free,fun b o e hx=>?_,I.base.tups,I.base.frzs,I.base.tbls⟩,⟨m,hn.sameBut hs (Ne.symm (cne x c hc)),fun j y v' e1 e2 e3=>?_⟩,fun y c' e=>?_,I.free,I.freeC,fun p hp=>?_,tracked ⟨oc,hoc,I.freeC x c hc⟩ hs,by simpa using I.len⟩ ⟨c,hs,.inr hc⟩
  ·exact (hs.2 b (Nat.ne_of_lt (Nat.lt_of_lt_of_le (Heap.lt_size e) (I.ok.cab x c hfn hc)))).trans (I.base.keep b o e n hb hx)
  ·obtain ⟨sl,e1⟩:=I.base.slot b o e n hb hx
   exact ⟨sl,(hs.2 b (Nat.ne_of_lt (Nat.lt_of_lt_of_le (Heap.lt_size e) (I.ok.cab x c hfn hc)))).trans e1⟩
  ·obtain ⟨o',e1⟩:=I.base.there b o e hx
   exact ⟨o',(hs.2 b (Nat.ne_of_lt (Nat.lt_of_lt_of_le (Heap.lt_size e) (I.ok.cab x c hfn hc)))).trans e1⟩
  ·by_cases hj:j=i
   ·subst hj
    rw [hi] at e1;cases e1
    rw [List.getElem?_set_self hiσ] at e2
    cases e2
    exact ⟨u,r,.inr ⟨.inl hk,c,hc,hc'⟩⟩
   ·rw [List.getElem?_set_ne (Ne.symm hj)] at e2
    obtain ⟨u',r',q⟩:=hl j y v' e1 e2 e3
    refine ⟨u',r',?_⟩
    rcases q with q | ⟨k,c',e,z'⟩
    ·exact .inl q
    ·refine .inr ⟨k,c',e,z'.sameBut hs ?_⟩
     rintro rfl
     exact hj (Vp hN e1 (I.ok.inj _ _ _ e hc ▸ hi))
  ·by_cases hcc:c'=c
   ·subst hcc;exact ⟨_,hc'⟩
   ·obtain ⟨w2,z2⟩:=I.cell y c' e
    exact ⟨w2,z2.sameBut hs hcc⟩
  ·obtain ⟨e,n,ne,nf,d⟩:=I.pin p hp
   refine ⟨(hs.2 p.1 ?_).trans e,n,ne,nf,d⟩
   intro q
   rw [q,hoc] at e
   have q':oc=p.2:=Option.some.inj e
   exact d w' (by rw [← q'];exact hocd)
theorem V5 {M:Model} {A:Around} {E:Value→Shared→Prop} {i:Nat} {x:Str} {v:V} {u:Value} {Q:Unit→Shared→Prop} (I:Inv X pins σ H s) (hN:X.N.Nodup) (hi:X.N[i]? =some x) (hx:Loc X.env.scope x) (r:jl v u)
  (h:∀ s',Inv X pins (σ.set i (some v)) H s'→Q () s') (hf:X.fn x=true∨X.env.scope.names.lookup x=some .local:=by first | exact .inl rfl | exact .inr rfl | assumption):wpAny M A (storeName X.env x u) Q E s :=
 Xf I hN hi hx r (fun s' I' _=>h s' I') hf
theorem Inv.call' {s':Shared} {ch:List Addr} (I:Inv X pins σ H s) (ho:s'.os=s.os) (u:Un (frs X.stack) ch H H' s.heap s'.heap) (hok:HOk X.prog X.w H' s'.heap) (hg:AllBare s'.gens)
  (hch:∀ b∈ch,(b∈X.ex∨X.s₀.heap.objs.size≤b)∧b≠X.env.locals∧(∀ x c,X.env.cells.lookup x=some c→c≠b)∧∀ p∈X.pn++pins,p.1≠b):Inv X pins σ H' s':=by
 obtain ⟨h',g',d',t',o'⟩:=s'
 have e:o'=s.os:=ho
 subst e
 exact I.call (g':=g') (t':=t') (d':=d') u hok hg hch
end
noncomputable abbrev XK:=Value→Option Addr→Hp→Prop
noncomputable abbrev St:=List (Option V)
noncomputable abbrev VK:=V→Hp→Prop
noncomputable abbrev TE:=St→Hp→VK→Prop
noncomputable abbrev TT:=St→Hp→(Bool→Hp→Prop)→Prop
noncomputable abbrev TA:=St→Hp→(List V→Hp→Prop)→Prop
structure Ends where
 nx:St→Hp→Prop
 rt:VK
 bk:St→Hp→Prop:=fun _ _=>False
 ct:St→Hp→Prop:=fun _ _=>False
noncomputable abbrev TS:=Ends→St→Hp→Prop
noncomputable def EP (X:Cx) (pins:List (Addr×Obj)) (σ:St) (Q:VK) (u:Value) (s':Shared):Prop:=∃ v H',Inv X pins σ H' s'∧jl v u∧Q v H'
noncomputable def TP (X:Cx) (pins:List (Addr×Obj)) (σ:St) (Q:Bool→Hp→Prop) (b:Bool) (s':Shared):Prop:=∃ H',Inv X pins σ H' s'∧Q b H'
noncomputable def AP (X:Cx) (pins:List (Addr×Obj)) (σ:St) (Q:List V→Hp→Prop) (us:List Value) (s':Shared):Prop:=∃ vs H',Inv X pins σ H' s'∧jq vs us∧Q vs H'
noncomputable def SP (X:Cx) (pins:List (Addr×Obj)) (D:Ends) (f:Flow) (s':Shared):Prop :=
 match f with
 | .next=>∃ σ' H',Inv X pins σ' H' s'∧D.nx σ' H'
 | .brk=>∃ σ' H',Inv X pins σ' H' s'∧D.bk σ' H'
 | .cont=>∃ σ' H',Inv X pins σ' H' s'∧D.ct σ' H'
 | .ret u=>∃ v σ' H',Inv X pins σ' H' s'∧jl v u∧D.rt v H'
noncomputable def PE (X:Cx) (e:Expr) (t:TE):Prop :=
 ∀ (pins:List (Addr×Obj)) (s:Shared) (σ:St) (H:Hp) (Q:VK),Inv X pins σ H s→t σ H Q→wpAny (model X.prog X.w) X.A (eval e X.env) (EP X pins σ Q) X.xe s
noncomputable def PT (X:Cx) (e:Expr) (t:TT):Prop :=
 ∀ (pins:List (Addr×Obj)) (s:Shared) (σ:St) (H:Hp) (Q:Bool→Hp→Prop),Inv X pins σ H s→t σ H Q→wpAny (model X.prog X.w) X.A (isTrue e X.env (eval e X.env)) (TP X pins σ Q) X.xe s
noncomputable def PW (X:Cx) (e:Expr) (t:TT):Prop :=
 ∀ (whole:Sem Value) (pins:List (Addr×Obj)) (s:Shared) (σ:St) (H:Hp) (Q:Bool→Hp→Prop),Inv X pins σ H s→t σ H Q→wpAny (model X.prog X.w) X.A (isTrue e X.env whole) (TP X pins σ Q) X.xe s
theorem PW.pt {X:Cx} {e:Expr} {t:TT} (h:PW X e t):PT X e t:=h _
noncomputable def PA (X:Cx) (es:List Expr) (t:TA):Prop :=
 ∀ (pos:Pos) (pins:List (Addr×Obj)) (s:Shared) (σ:St) (H:Hp) (Q:List V→Hp→Prop),Inv X pins σ H s→t σ H Q→wpAny (model X.prog X.w) X.A (spliced (backTo pos (starEach es X.env))) (AP X pins σ Q) X.xe s
noncomputable def PS (X:Cx) (st:Stmt) (t:TS):Prop :=
 ∀ (pins:List (Addr×Obj)) (s:Shared) (σ:St) (H:Hp) (D:Ends),Inv X pins σ H s→t D σ H→wpAny (model X.prog X.w) X.A (exec st X.env) (SP X pins D) X.xe s
noncomputable def PSs (X:Cx) (st:List Stmt) (t:TS):Prop :=
 ∀ (pins:List (Addr×Obj)) (s:Shared) (σ:St) (H:Hp) (D:Ends),Inv X pins σ H s→t D σ H→wpAny (model X.prog X.w) X.A (execs st X.env) (SP X pins D) X.xe s
theorem thn {α:Type} {t:Sem α} {Q Q':α→Shared→Prop} {M:Model} {A:Around} {E:Value→Shared→Prop} {s:Shared} (h:wpAny M A t Q E s) (hQ:∀ a s,Q a s→Q' a s):wpAny M A t Q' E s:=wpAny_mono h hQ fun _ _ x=>x
end L2
namespace L2
open PySem PySem.Spec PyProof.Rows
section
variable {X:Cx}
theorem bin {a b:Expr} {ta tb:TE} (ha:PE X a ta) (hb:PE X b tb) {pins:List (Addr×Obj)} {s:Shared} {σ:St} {H:Hp} {R:V→V→Hp→Prop} (I:Inv X pins σ H s) (h:ta σ H fun x H1=>tb σ H1 fun y H2=>R x y H2)
  {α:Type} {Q:α→Shared→Prop} {f:Value→Value→Sem α}
  (hf:∀ v u s2 x y H2,Inv X pins σ H2 s2→jl x v→jl y u→R x y H2→wpAny (model X.prog X.w) X.A (f v u) Q X.xe s2) :
  wpAny (model X.prog X.w) X.A (eval a X.env) (fun v s₁=>wpAny (model X.prog X.w) X.A (eval b X.env) (fun u s₂=>wpAny (model X.prog X.w) X.A (f v u) Q X.xe s₂) X.xe s₁) X.xe s:=by
 refine thn (ha pins s σ H _ I h) fun v s1 ⟨x,H1,I1,r1,q1⟩=>?_
 refine thn (hb pins s1 σ H1 _ I1 q1) fun u s2 ⟨y,H2,I2,r2,q2⟩=>?_
 exact hf v u s2 x y H2 I2 r1 r2 q2
noncomputable def a27 (i:Nat):TE:=fun σ H Q=>∃ v,σ[i]? =some (some v)∧Q v H
noncomputable def tC (v:V):TE:=fun _ H Q=>Q v H
theorem Dw {i:Nat} {x:Str} {pos:Pos} (hN:X.N[i]? =some x) (hv:Vis X.env.scope x) (hd:(x == ("__debug__":Str))=false:=by decide) (hcd:(x == ("__classdict__":Str))=false:=by decide):PE X (.Name x pos) (a27 i):=by
 intro pins s σ H Q I h
 obtain ⟨v,e,h⟩:=h
 obtain ⟨m,hn,hl⟩:=I.loc
 obtain ⟨u,r,l⟩:=hl i x v hN e hv
 have fin:EP X pins σ Q u s:=⟨v,H,I,r,h⟩
 rcases l with ⟨hk,hm⟩ | ⟨hk,c,hc,hcell⟩
 ·exact wpAny_Name (wpAny_loadName_local I.ok.kind hk hn hm fin) hd
 ·rcases hk with hk | hk
  ·exact wpAny_Name (wpAny_loadName_cell I.ok.kind hk hc hcell fin) hd
  ·exact wpAny_Name (wpAny_loadName_free I.ok.kind hk hc hcell fin hcd) hd
theorem Dt {i j pos}:PE X (.Constant (.int i) j pos) (tC (.int i)):=fun _ _ _ H _ I h=>wpAny_Constant_int ⟨.int i,H,I.tok _,⟨_,rfl⟩,h⟩
theorem af2 {b j pos}:PE X (.Constant (.bool b) j pos) (tC (.bl b)):=fun _ _ _ H _ I h=>Constant_bool ⟨.bl b,H,I,rfl,h⟩
theorem a50 {j pos}:PE X (.Constant .none j pos) (tC .non):=fun _ _ _ H _ I h=>Constant_none ⟨.non,H,I,rfl,h⟩
theorem a47 {x j pos}:PE X (.Constant (.str x) j pos) (tC (.str x)):=fun _ _ _ H _ I h=>Calls.Constant_str ⟨.str x,H,I.tok _,⟨_,rfl⟩,h⟩
noncomputable def Gl (X:Cx) (x:Str):Prop:=X.env.kindOf x=some .globalImplicit
theorem qz {E:Value→Shared→Prop} {pins:List (Addr×Obj)} {s:Shared} {σ:St} {H:Hp} {x:Str} {u:Value} {pos:Pos} {Q:Value→Shared→Prop} (I:Inv X pins σ H s) (hg:Gl X x) (hm:X.mg x=some u) (h:Q u s)
  (hd:(x == ("__debug__":Str))=false:=by decide):wpAny (model X.prog X.w) X.A (eval (.Name x pos) X.env) Q E s :=
 Calls.Name_function_global I.ok.kind hg (Calls.loadGlobal_global (by rw [I.ok.glob];exact I.mod.glob.keeps I.bk) hm h) hd
theorem Y9 {E:Value→Shared→Prop} {pins:List (Addr×Obj)} {s:Shared} {σ:St} {H:Hp} {x:Str} {u:Value} {pos:Pos} {Q:Value→Shared→Prop} (I:Inv X pins σ H s) (hg:Gl X x) (hm:X.mg x=none) (hv:bootBuiltins x=some u) (h:Q u s)
  (hn:x≠"__name__":=by decide) (hd:(x == ("__debug__":Str))=false:=by decide):wpAny (model X.prog X.w) X.A (eval (.Name x pos) X.env) Q E s:=by
 obtain ⟨mb,h1,h2⟩:=I.mod.blt
 exact Calls.Name_function_global I.ok.kind hg (Calls.loadGlobal_builtin (by rw [I.ok.glob];exact I.mod.glob.keeps I.bk) hm (by rw [I.ok.blt];exact h1.keeps I.bk) ((h2 x hn).trans hv) h) hd
theorem Bu {x:Str} {v:V} {u:Value} {pos:Pos} (hg:Gl X x) (hm:X.mg x=some u) (r:jl v u) (hd:(x == ("__debug__":Str))=false:=by decide):PE X (.Name x pos) (tC v) :=
 fun _ _ _ H _ I h=>qz I hg hm ⟨v,H,I,r,h⟩ hd
theorem Bp {x:Str} {v:V} {u:Value} {pos:Pos} (hg:Gl X x) (hm:X.mg x=none) (hv:bootBuiltins x=some u) (r:jl v u) (hn:x≠"__name__":=by decide) (hd:(x == ("__debug__":Str))=false:=by decide):PE X (.Name x pos) (tC v) :=
 fun _ _ _ H _ I h=>Y9 I hg hm hv ⟨v,H,I,r,h⟩ hn hd
variable {a b:Expr} {ta tb:TE} {pos:Pos}
noncomputable def PC (X:Cx) (op:CmpOp) (a b:Expr) (t:TE):Prop :=
 ∀ (pins:List (Addr×Obj)) (s:Shared) (σ:St) (H:Hp) (Q:VK),Inv X pins σ H s→t σ H Q →
  wpAny (model X.prog X.w) X.A (eval a X.env) (fun v s₁=>wpAny (model X.prog X.w) X.A (eval b X.env) (fun u s₂=>wpAny (model X.prog X.w) X.A (compareOp op v u) (EP X pins σ Q) X.xe s₂) X.xe s₁) X.xe s
theorem Vo (b:Expr) {op:CmpOp} (h:op≠.In) (h2:op≠.NotIn):behindInMarks op b=false:=by
 have e1:(op == CmpOp.In)=false:=by cases op <;> first | rfl | exact absurd rfl h
 have e2:(op == CmpOp.NotIn)=false:=by cases op <;> first | rfl | exact absurd rfl h2
 cases b <;> simp [behindInMarks,e1,e2]
noncomputable def ac1 (ta:TE):TE:=fun σ H Q=>ta σ H fun x H1=>Q (.bl (decide (x=.non))) H1
noncomputable def An (ta:TE):TE:=fun σ H Q=>ta σ H fun x H1=>Q (.bl (!decide (x=.non))) H1
theorem jl.none_iff {x:V} {v:Value} (r:jl x v):(v == Value.none)=decide (x=.non):=by
 cases x with
 | non=>cases r;rfl
 | bl _=>cases r;rfl
 | int _=>obtain ⟨t,rfl⟩:=r;rfl
 | str _=>obtain ⟨t,rfl⟩:=r;rfl
 | byt _=>obtain ⟨t,rfl⟩:=r;rfl
 | flt _=>obtain ⟨t,rfl⟩:=r;rfl
 | ref _=>cases r;rfl
 | ty _=>cases r;rfl
theorem a52 {j pos'} (ha:PE X a ta):PC X .Is a (.Constant .none j pos') (ac1 ta):=by
 intro pins s σ H Q I h
 refine thn (ha pins s σ H _ I h) fun v s1 ⟨x,H1,I1,r1,q1⟩=>?_
 exact Constant_none (is_none_gen ⟨.bl _,H1,I1,by rw [r1.none_iff];rfl,q1⟩)
theorem Gu {j pos'} (ha:PE X a ta):PC X .IsNot a (.Constant .none j pos') (An ta):=by
 intro pins s σ H Q I h
 refine thn (ha pins s σ H _ I h) fun v s1 ⟨x,H1,I1,r1,q1⟩=>?_
 exact Constant_none (isnot_none_gen ⟨.bl _,H1,I1,by rw [r1.none_iff];rfl,q1⟩)
noncomputable def tB (t:TE):TT:=fun σ H Q=>t σ H fun x H1=>∃ c,x=.bl c∧Q c H1
theorem Dp {op:CmpOp} {t:TE} (h:PC X op a b t) (h1:behindInMarks op b=false:=by first | exact Vo _ (by decide) (by decide) | rfl):PE X (.Compare a [op] [b] pos) t:=fun pins s σ H Q I hw=>wpAny_Compare1 (h pins s σ H Q I hw) h1
theorem W8 {op:CmpOp} {t:TE} (h:PC X op a b t) (h1:behindInMarks op b=false:=by first | exact Vo _ (by decide) (by decide) | rfl):PT X (.Compare a [op] [b] pos) (tB t):=by
 intro pins s σ H Q I hw
 refine wpAny_isTrue_Compare1 (thn (h pins s σ H _ I hw) fun v s1 h1=>thn h1 fun u s2 h2=>thn h2 fun c s3 ⟨x,H1,I1,r1,q1⟩=>?_) h1
 obtain ⟨d,rfl,q⟩:=q1
 cases r1
 exact wpAny_truthy_bool ⟨H1,I1,q⟩
variable {tA tB':TT} {rest:List Expr}
noncomputable def tAnd (t u:TT):TT:=fun σ H Q=>t σ H fun c H1=>if c=true then u σ H1 Q else Q false H1
noncomputable def tOr (t u:TT):TT:=fun σ H Q=>t σ H fun c H1=>if c=true then Q true H1 else u σ H1 Q
noncomputable def tNot (t:TT):TT:=fun σ H Q=>t σ H fun c H1=>Q (!c) H1
theorem B2 (ha:PT X a tA):PW X (.BoolOp .And [a] pos) tA:=by
 intro wh pins s σ H Q I h
 refine isTrue_and (thn (ha pins s σ H Q I h) fun c s1 e=>?_)
 cases c with
 | true=>exact isTrue_and_nil e
 | false=>exact e
theorem a36 (ha:PT X a tA):PW X (.BoolOp .Or [a] pos) tA:=by
 intro wh pins s σ H Q I h
 refine isTrue_or (thn (ha pins s σ H Q I h) fun c s1 e=>?_)
 cases c with
 | false=>exact isTrue_or_nil e
 | true=>exact e
theorem a37 (ha:PT X a tA) (hb:PW X (.BoolOp .And (b::rest) pos) tB'):PW X (.BoolOp .And (a::b::rest) pos) (tAnd tA tB'):=by
 intro wh pins s σ H Q I h
 refine isTrue_and (thn (ha pins s σ H _ I h) fun c s1 ⟨H1,I1,q1⟩=>?_)
 cases c with
 | true=>exact hb wh pins s1 σ H1 Q I1 q1
 | false=>exact ⟨H1,I1,q1⟩
theorem ae4 (ha:PT X a tA) (hb:PW X (.BoolOp .Or (b::rest) pos) tB'):PW X (.BoolOp .Or (a::b::rest) pos) (tOr tA tB'):=by
 intro wh pins s σ H Q I h
 refine isTrue_or (thn (ha pins s σ H _ I h) fun c s1 ⟨H1,I1,q1⟩=>?_)
 cases c with
 | true=>exact ⟨H1,I1,q1⟩
 | false=>exact hb wh pins s1 σ H1 Q I1 q1
theorem a38 (ha:PT X a tA):PT X (.UnaryOp .Not a pos) (tNot tA):=by
 intro pins s σ H Q I h
 exact isTrue_not (ha pins s σ H (fun c H1=>Q (!c) H1) I h)
noncomputable def ac9 (ta tb:TE):TE:=fun σ H Q=>ta σ H fun x H1=>∃ c,x=.bl c∧if c=true then tb σ H1 Q else Q (.bl false) H1
noncomputable def tOrV (ta tb:TE):TE:=fun σ H Q=>ta σ H fun x H1=>∃ c,x=.bl c∧if c=true then Q (.bl true) H1 else tb σ H1 Q
noncomputable def ab8 (ta:TE):TE:=fun σ H Q=>ta σ H fun x H1=>∃ c,x=.bl c∧Q (.bl (!c)) H1
theorem a48 {op} {t:TE} (h:PE X a t):PE X (.BoolOp op [a] pos) t:=fun pins s σ H Q I hw=>BoolOp_one (h pins s σ H Q I hw)
theorem a51 (ha:PE X a ta) (hb:PE X (.BoolOp .And (b::rest) pos) tb):PE X (.BoolOp .And (a::b::rest) pos) (ac9 ta tb):=by
 intro pins s σ H Q I h
 refine BoolOp_and (thn (ha pins s σ H _ I h) fun v s1 ⟨x,H1,I1,r1,q1⟩=>?_)
 obtain ⟨c,rfl,q1⟩:=q1
 cases r1
 refine wpAny_truthy_bool ?_
 cases c with
 | true=>exact hb pins s1 σ H1 Q I1 q1
 | false=>exact ⟨.bl false,H1,I1,rfl,q1⟩
theorem ae9 (ha:PE X a ta) (hb:PE X (.BoolOp .Or (b::rest) pos) tb):PE X (.BoolOp .Or (a::b::rest) pos) (tOrV ta tb):=by
 intro pins s σ H Q I h
 refine BoolOp_or (thn (ha pins s σ H _ I h) fun v s1 ⟨x,H1,I1,r1,q1⟩=>?_)
 obtain ⟨c,rfl,q1⟩:=q1
 cases r1
 refine wpAny_truthy_bool ?_
 cases c with
 | false=>exact hb pins s1 σ H1 Q I1 q1
 | true=>exact ⟨.bl true,H1,I1,rfl,q1⟩
theorem a49 (ha:PE X a ta):PE X (.UnaryOp .Not a pos) (ab8 ta):=by
 intro pins s σ H Q I h
 refine UnaryOp_ (thn (ha pins s σ H _ I h) fun v s1 ⟨x,H1,I1,r1,q1⟩=>?_)
 obtain ⟨c,rfl,q1⟩:=q1
 cases r1
 exact not_of (wpAny_truthy_bool ⟨.bl (!c),H1,I1,rfl,q1⟩)
noncomputable def tIf (t:TT) (ta tb:TE):TE:=fun σ H Q=>t σ H fun c H1=>if c=true then ta σ H1 Q else tb σ H1 Q
theorem Ds {c:Expr} (hc:PT X c tA) (ha:PE X a ta) (hb:PE X b tb):PE X (.IfExp c a b pos) (tIf tA ta tb):=by
 intro pins s σ H Q I h
 refine wpAny_IfExp (thn (hc pins s σ H _ I h) fun d s1 ⟨H1,I1,q1⟩=>?_)
 cases d with
 | true=>exact ha pins s1 σ H1 Q I1 q1
 | false=>exact hb pins s1 σ H1 Q I1 q1
end
end L2
namespace L2
open PySem PySem.Spec PyProof.Rows
noncomputable def SqL (K:PySem.W.Frag) (H:Hp) (a:Addr) (xs:List V):Prop :=
 Rd H a (.lst xs) ∨
  ∃ (o:Obj) (its:Array Value) (n:Nat),K.lookup a=some o∧o.cls=.type "list"∧o.dict=none∧o.data=.seq its n∧its.size≤sizeLine∧jq xs its.toList
noncomputable def SqT (K:PySem.W.Frag) (H:Hp) (a:Addr) (xs:List V):Prop :=
 Rd H a (.tup xs) ∨
  ∃ (o:Obj) (its:Array Value) (n:Nat),K.lookup a=some o∧o.cls=.type "tuple"∧o.data=.seq its n∧its.size≤sizeLine∧jq xs its.toList
noncomputable def absV:Value→Option V
 | .none=>some .non
 | .bool b=>some (.bl b)
 | .int i _=>some (.int i)
 | .str x _=>some (.str x)
 | .bytes b _=>some (.byt b)
 | .float b _=>some (.flt b)
 | .ref a=>some (.ref a)
 | .type n=>some (.ty n)
 | _=>none
theorem jl.abs {x:V} {u:Value} (r:jl x u):absV u=some x:=by
 cases x with
 | non=>cases r;rfl
 | bl _=>cases r;rfl
 | int _=>obtain ⟨t,rfl⟩:=r;rfl
 | str _=>obtain ⟨t,rfl⟩:=r;rfl
 | byt _=>obtain ⟨t,rfl⟩:=r;rfl
 | flt _=>obtain ⟨t,rfl⟩:=r;rfl
 | ref _=>cases r;rfl
 | ty _=>cases r;rfl
theorem jl.inj {x y:V} {u:Value} (r:jl x u) (q:jl y u):x=y:=Option.some.inj (r.abs.symm.trans q.abs)
theorem jq.inj:∀ {xs ys:List V} {us:List Value},jq xs us→jq ys us→xs=ys
 | _,_,_,.nil,.nil=>rfl
 | _,_,_,.cons r t,.cons r' t'=>by rw [r.inj r',jq.inj t t']
section
variable {X:Cx} {pins:List (Addr×Obj)} {σ:St} {H:Hp} {s:Shared} {a:Addr} {xs ys:List V}
theorem SqL.of {K:PySem.W.Frag} (h:H a=some (.lst xs)):SqL K H a xs:=.inl (.inl h)
theorem SqT.of {K:PySem.W.Frag} (h:H a=some (.tup xs)):SqT K H a xs:=.inl (.inl h)
theorem Inv.list (I:Inv X pins σ H s) (h:SqL X.K H a xs):∃ its:List Value,jq xs its∧PlainL s.heap a its.toArray∧xs.length≤sizeLine:=by
 rcases h with h | ⟨o,its,n,hk,hc,hd,hs,hz,r⟩
 ·obtain ⟨z,its,n,r,e⟩:=h.ok I.hok
  exact ⟨its,r,⟨_,n,e,rfl,rfl,rfl⟩,z⟩
 ·refine ⟨its.toList,r,⟨o,n,I.kIn a o hk,hc,hd,by simpa using hs⟩,?_⟩
  have e:=r.length
  simp only [Array.length_toList] at e
  omega
theorem Inv.tuple (I:Inv X pins σ H s) (h:SqT X.K H a xs):∃ its:List Value,jq xs its∧IsTup s.heap a its.toArray∧xs.length≤sizeLine:=by
 rcases h with h | ⟨o,its,n,hk,hc,hs,hz,r⟩
 ·obtain ⟨z,its,r,p⟩:=h.ok I.hok
  exact ⟨its,r,p,z⟩
 ·refine ⟨its.toList,r,⟨o,I.kIn a o hk,hc,n,by simpa using hs⟩,?_⟩
  have e:=r.length
  simp only [Array.length_toList] at e
  omega
theorem Inv.list_inj (I:Inv X pins σ H s) (h:SqL X.K H a xs) (h':SqL X.K H a ys):xs=ys:=by
 obtain ⟨its,r,⟨o,n,e,_,_,d⟩,_⟩:=I.list h
 obtain ⟨its',r',⟨o',n',e',_,_,d'⟩,_⟩:=I.list h'
 rw [e] at e';cases e'
 rw [d] at d'
 injection d' with d1 _
 have:its=its':=by simpa using congrArg Array.toList d1
 subst this
 exact r.inj r'
theorem Inv.tuple_inj (I:Inv X pins σ H s) (h:SqT X.K H a xs) (h':SqT X.K H a ys):xs=ys:=by
 obtain ⟨its,r,⟨o,e,_,n,d⟩,_⟩:=I.tuple h
 obtain ⟨its',r',⟨o',e',_,n',d'⟩,_⟩:=I.tuple h'
 rw [e] at e';cases e'
 rw [d] at d'
 injection d' with d1 _
 have:its=its':=by simpa using congrArg Array.toList d1
 subst this
 exact r.inj r'
end
noncomputable abbrev Cx.wish (X:Cx) (E:Value→Shared→Prop):Cx:={ X with xe:=E}
noncomputable abbrev Cx.nox (X:Cx):Cx:=X.wish fun _ _=>False
theorem Cx.Ok.wish {X:Cx} (ok:X.Ok) (E:Value→Shared→Prop):(X.wish E).Ok :=
 ⟨ok.mod,ok.kind,ok.glob,ok.blt,ok.above,ok.inj,ok.has,ok.cab,ok.hd,ok.frames,ok.stk,ok.exf,ok.bs,ok.bsz,ok.noex,ok.exfs,ok.funs,ok.frf⟩
theorem Cx.Ok.unwish {X:Cx} {E:Value→Shared→Prop} (ok:(X.wish E).Ok):X.Ok :=
 ⟨ok.mod,ok.kind,ok.glob,ok.blt,ok.above,ok.inj,ok.has,ok.cab,ok.hd,ok.frames,ok.stk,ok.exf,ok.bs,ok.bsz,ok.noex,ok.exfs,ok.funs,ok.frf⟩
section
variable {X:Cx} {pins:List (Addr×Obj)} {σ:St} {H:Hp} {s:Shared} {E:Value→Shared→Prop}
theorem Inv.wish (I:Inv X pins σ H s) (E:Value→Shared→Prop):Inv (X.wish E) pins σ H s:=⟨I.ok.wish E,I.os,I.bare,I.base,I.loc,I.cell,I.free,I.freeC,I.pin,I.hok,I.len⟩
theorem Inv.unwish (I:Inv (X.wish E) pins σ H s):Inv X pins σ H s:=⟨I.ok.unwish,I.os,I.bare,I.base,I.loc,I.cell,I.free,I.freeC,I.pin,I.hok,I.len⟩
theorem SP.unwish {D:Ends} {f:Flow} {s':Shared} (h:SP (X.wish E) pins D f s'):SP X pins D f s':=by
 cases f with
 | next=>obtain ⟨σ',H',I,q⟩:=h;exact ⟨σ',H',I.unwish,q⟩
 | brk=>obtain ⟨σ',H',I,q⟩:=h;exact ⟨σ',H',I.unwish,q⟩
 | cont=>obtain ⟨σ',H',I,q⟩:=h;exact ⟨σ',H',I.unwish,q⟩
 | ret u=>obtain ⟨v,σ',H',I,r,q⟩:=h;exact ⟨v,σ',H',I.unwish,r,q⟩
theorem PSs.nox {st:List Stmt} {t:TS} (h:PSs X.nox st t):PSs X st t:=fun pins s σ H D I hw =>
 wpAny_mono (h pins s σ H D (I.wish _) hw) (fun _ _ q=>q.unwish) fun _ _ z=>False.elim z
end
section
variable {X:Cx} {st:Stmt} {rest:List Stmt} {t u:TS} {e:Expr} {te:TE} {pos:Pos}
noncomputable def ac0:TS:=fun D σ H=>D.nx σ H
noncomputable def tSeq (t u:TS):TS:=fun D σ H=>t { D with nx:=u D} σ H
theorem B6:PSs X [] ac0:=fun _ _ σ H _ I h=>wpAny_execs_nil ⟨σ,H,I,h⟩
theorem D8 (h1:PS X st t) (h2:PSs X rest u):PSs X (st::rest) (tSeq t u):=by
 intro pins s σ H D I h
 refine wpAny_execs_cons (thn (h1 pins s σ H { D with nx:=u D} I h) fun f s1 q=>?_)
 cases f with
 | next =>
  obtain ⟨σ',H',I',q⟩:=q
  exact h2 pins s1 σ' H' D I' q
 | ret v=>exact q
 | brk=>exact q
 | cont=>exact q
theorem B5 (h1:PS X st t):PSs X [st] t:=by
 intro pins s σ H D I h
 refine wpAny_execs_cons (thn (h1 pins s σ H D I h) fun f s1 q=>?_)
 cases f with
 | next=>exact wpAny_execs_nil q
 | ret v=>exact q
 | brk=>exact q
 | cont=>exact q
noncomputable def ac5:TS:=fun D σ H=>D.ct σ H
theorem Vv:PS X (.Continue pos) ac5:=fun _ _ σ H _ I h=>wpAny_Continue ⟨σ,H,I,h⟩
theorem Inv.quiet {pins:List (Addr×Obj)} {σ:St} {H:Hp} {s:Shared} (I:Inv X pins σ H s):interactive X.env=false:=by simp [interactive,I.ok.kind]
noncomputable def ac2 (te:TE):TS:=fun D σ H=>te σ H fun _ H1=>D.nx σ H1
theorem B7 (he:PE X e te) (hs:swapsWith e none pos.line X.env=pure false:=by rfl):PS X (.Expr e pos) (ac2 te):=by
 intro pins s σ H D I h
 exact wpAny_Expr_any (thn (he pins s σ H _ I h) fun v s1 ⟨x,H1,I1,r1,q1⟩=>⟨σ,H1,I1,q1⟩) I.quiet hs
noncomputable def tRet (te:TE):TS:=fun D σ H=>te σ H D.rt
theorem a40 (he:PE X e te):PS X (.Return (some e) pos) (tRet te):=by
 intro pins s σ H D I h
 exact wpAny_Return_some (thn (he pins s σ H _ I h) fun v s1 ⟨x,H1,I1,r1,q1⟩=>⟨x,σ,H1,I1,r1,q1⟩)
noncomputable def tIfS (c:TT) (t u:TS):TS:=fun D σ H=>c σ H fun b H1=>if b=true then t D σ H1 else u D σ H1
theorem ae5 {c:Expr} {a b:List Stmt} {tc:TT} (hc:PT X c tc) (ha:PSs X a t) (hb:PSs X b u):PS X (.If c a b pos) (tIfS tc t u):=by
 intro pins s σ H D I h
 refine wpAny_If (thn (hc pins s σ H _ I h) fun d s1 ⟨H1,I1,q1⟩=>?_)
 cases d with
 | true=>exact ha pins s1 σ H1 D I1 q1
 | false=>exact hb pins s1 σ H1 D I1 q1
end
noncomputable abbrev TG:=V→St→Hp→(St→Hp→Prop)→Prop
noncomputable abbrev TGs:=List V→St→Hp→(St→Hp→Prop)→Prop
noncomputable def PG (X:Cx) (target:Expr) (t:TG):Prop :=
 ∀ (pins:List (Addr×Obj)) (s:Shared) (σ:St) (H:Hp) (v:V) (u:Value) (Q:St→Hp→Prop),Inv X pins σ H s→jl v u→t v σ H Q →
  wpAny (model X.prog X.w) X.A (assign target X.env u) (fun _ s'=>∃ σ' H',Inv X pins σ' H' s'∧Q σ' H') X.xe s
noncomputable def PGs (X:Cx) (ts:List Expr) (t:TGs):Prop :=
 ∀ (pins:List (Addr×Obj)) (s:Shared) (σ:St) (H:Hp) (vs:List V) (us:List Value) (Q:St→Hp→Prop),Inv X pins σ H s→jq vs us→t vs σ H Q →
  wpAny (model X.prog X.w) X.A (assignInOrder ((assignEach ts X.env).map (·.2)) us) (fun _ s'=>∃ σ' H',Inv X pins σ' H' s'∧Q σ' H') X.xe s
noncomputable abbrev ab5:=V→V→V→Hp→(Hp→Prop)→Prop
noncomputable def aj6 (X:Cx) (t:ab5):Prop :=
 ∀ (pins:List (Addr×Obj)) (s:Shared) (σ:St) (H:Hp) (o i v:V) (ov iv u:Value) (Q:Hp→Prop),Inv X pins σ H s→jl o ov→jl i iv→jl v u→t o i v H Q →
  wpAny (model X.prog X.w) X.A (setItem ov iv u) (fun _ s'=>∃ H',Inv X pins σ H' s'∧Q H') X.xe s
section
variable {X:Cx} {pos:Pos}
noncomputable def a03 (i:Nat):TG:=fun v σ H Q=>Q (σ.set i (some v)) H
theorem Bv {i:Nat} {x:Str} (hN:X.N.Nodup) (hi:X.N[i]? =some x) (hx:Loc X.env.scope x) (hf:X.fn x=true∨X.env.scope.names.lookup x=some .local:=by first | exact .inl rfl | exact .inr rfl | assumption):PG X (.Name x pos) (a03 i):=by
 intro pins s σ H v u Q I r h
 exact wpAny_assign_Name (V5 I hN hi hx r (fun s' I'=>⟨_,H,I',h⟩) hf)
noncomputable def ai3:TGs:=fun vs σ H Q=>vs=[]∧Q σ H
noncomputable def ai4 (t:TG) (u:TGs):TGs:=fun vs σ H Q=>∃ v r,vs=v::r∧t v σ H fun σ' H'=>u r σ' H' Q
theorem Bw:PGs X [] ai3:=by
 intro pins s σ H vs us Q I r h
 obtain ⟨e,h⟩:=h
 subst e
 cases r
 exact assignInOrder_nil ⟨σ,H,I,h⟩
theorem Dx {e:Expr} {es:List Expr} {t:TG} {u:TGs} (h1:PG X e t) (h2:PGs X es u)
  (hs:(assignEach (e::es) X.env).map (·.2)=assign e X.env::(assignEach es X.env).map (·.2):=by rfl):PGs X (e::es) (ai4 t u):=by
 intro pins s σ H vs us Q I r h
 obtain ⟨v,vr,e1,h⟩:=h
 subst e1
 cases r with
 | cons r rr =>
  rw [hs]
  refine assignInOrder_cons (thn (h1 pins s σ H _ _ _ I r h) fun _ s1 ⟨σ1,H1,I1,q1⟩=>?_)
  exact h2 pins s1 σ1 H1 _ _ Q I1 rr q1
noncomputable def gTup (K:PySem.W.Frag) (n:Nat) (t:TGs):TG:=fun v σ H Q=>∃ a xs,v=.ref a∧SqT K H a xs∧xs.length=n∧t xs σ H Q
theorem a44 {es:List Expr} {k:Nat} {t:TGs} {n:Nat} (hc:X.calm=true) (h:PGs X es t)
  (hn:(assignEach es X.env).length=n:=by rfl) (hst:(assignEach es X.env).findIdx? (·.1)=none:=by rfl):PG X (.Tuple es k pos) (gTup X.K n t):=by
 intro pins s σ H v u Q I r hw
 obtain ⟨a,xs,e1,hq,hl,hw⟩:=hw
 subst e1
 cases r
 obtain ⟨its,rv,ht,hz⟩:=I.tuple hq
 refine assign_Tuple_tuple (I.ok.hd hc) ht (by simp [hn,← hl,rv.length]) hst fun h' hx=>?_
 have I1:Inv X pins σ H { s with heap:=h'}:=I.kept (t':=s.toks) fun b o e=>hx b o (Nat.ne_of_lt (Heap.lt_size e)) e
 exact h pins _ σ H xs _ Q I1 (by simpa using rv) hw
noncomputable def gSub (to ti:TE) (t:ab5):TG:=fun v σ H Q=>to σ H fun o H1=>ti σ H1 fun i H2=>t o i v H2 fun H3=>Q σ H3
theorem a45 {o i:Expr} {to ti:TE} {t:ab5} (ho:PE X o to) (hi:PE X i ti) (hs:aj6 X t)
  (ha:∀ v,assign (.Subscript o i pos) X.env v=(do
   let ov ← holding [v] (eval o X.env)
   let iv ← holding [v,ov] (eval i X.env)
   standAt pos
   holding [v,ov,iv] (setItem ov iv v)
   release [v,ov,iv] []):=by intro _;rfl):PG X (.Subscript o i pos) (gSub to ti t):=by
 intro pins s σ H v u Q I r h
 rw [ha]
 refine wpAny_bind (wpAny_holding (thn (ho pins s σ H _ I h) fun ov s1 ⟨x,H1,I1,r1,q1⟩=>?_))
 refine wpAny_bind (wpAny_holding (thn (hi pins s1 σ H1 _ I1 q1) fun iv s2 ⟨y,H2,I2,r2,q2⟩=>?_))
 refine wpAny_bind (wpAny_standAt (wpAny_bind (wpAny_holding (thn (hs pins s2 σ H2 x y v ov iv u _ I2 r1 r2 r q2) fun _ s3 ⟨H3,I3,q3⟩=>?_))))
 exact wpAny_release ⟨σ,H3,I3,q3⟩
noncomputable def ac8 (te:TE) (g:TG):TS:=fun D σ H=>te σ H fun x H1=>g x σ H1 D.nx
theorem a42 {tg e:Expr} {te:TE} {g:TG} (he:PE X e te) (hg:PG X tg g) (hs:swapsWithSole [tg] e pos.line X.env=pure false:=by rfl) (hw:swappedStores [tg] e X.env=pure none:=by rfl)
  (h1:(assignEach [tg] X.env).map (·.2)=[assign tg X.env]:=by rfl):PS X (.Assign [tg] e pos) (ac8 te g):=by
 intro pins s σ H D I h
 refine wpAny_Assign_stores (thn (he pins s σ H _ I h) fun v s1 ⟨x,H1,I1,r1,q1⟩=>?_) hs hw
 rw [h1]
 exact thn (hg pins s1 σ H1 x v _ I1 r1 q1) fun _ s2 q=>q
theorem a39 {i:Nat} {x:Str} {e:Expr} {te:TE} {pos':Pos} (hN:X.N.Nodup) (hi:X.N[i]? =some x) (hx:Loc X.env.scope x) (he:PE X e te) (hs:swapsWith e (some (.Name x pos')) pos.line X.env=pure false:=by rfl) (hf:X.fn x=true∨X.env.scope.names.lookup x=some .local:=by first | exact .inl rfl | exact .inr rfl | assumption) :
  PS X (.Assign [.Name x pos'] e pos) (ac8 te (a03 i)):=by
 intro pins s σ H D I h
 refine wpAny_Assign_Name (thn (he pins s σ H _ I h) fun v s1 ⟨y,H1,I1,r1,q1⟩=>?_) hs
 exact V5 I1 hN hi hx r1 (fun s2 I2=>⟨_,H1,I2,q1⟩) hf
end
section
variable {X:Cx} {pos:Pos}
end
structure It where
 go:Nat→Hp→Prop
 yld:Nat→Hp→V→Hp→Prop
 stop:Nat→Hp→Prop
noncomputable def Yw (X:Cx) (pins:List (Addr×Obj)) (H:Hp) (b:Addr):Prop :=
 H b=none∧b≠X.env.locals∧b∉X.fs∧(b∈X.ex∨X.s₀.heap.objs.size≤b)∧(∀ x c,X.env.cells.lookup x=some c→c≠b)∧∀ p∈X.pn++pins,p.1≠b
theorem Inv.fpOk {X:Cx} {pins:List (Addr×Obj)} {σ:St} {H H':Hp} {s:Shared} {b:Addr} (I:Inv X pins σ H s) (hb:s.heap.objs.size≤b) (hn:H' b=none):Yw X pins H' b:=by
 refine ⟨hn,Nat.ne_of_gt (Nat.lt_of_lt_of_le I.lt hb),I.nofs hb,.inr (Nat.le_trans I.sz hb),fun x c e z=>?_,fun p hp z=>?_⟩
 ·obtain ⟨v,q⟩:=I.cell x c e
  exact absurd (Nat.lt_of_lt_of_le q.lt (by rw [z];exact hb)) (Nat.lt_irrefl _)
 ·exact absurd (Nat.lt_of_lt_of_le (Heap.lt_size (I.pin p hp).1) (by rw [z];exact hb)) (Nat.lt_irrefl _)
structure Turn (P:Program) (w:World) (K:PySem.W.Frag) (tg:Expr) (J:It) (fp:List Addr) (it:Addr) (tn:Nat→Heap→Prop):Prop where
 mem:it∈fp
 obj:∀ i h,tn i h→∀ b∈fp,∃ o,h.get? b=some o∧∀ v,o.data≠.cell v
 keep:∀ i h h',tn i h→(∀ b∈fp,∀ o,h.get? b=some o→h'.get? b=some o)→tn i h'
 item:∀ (X:Cx),X.prog=P→X.w=w→X.K=K→X.calm=true→∀ (i:Nat) (pins:List (Addr×Obj)) (s:Shared) (σ:St) (H:Hp) (E:Value→Shared→Prop),Inv X pins σ H s→(∀ b∈fp,Yw X pins H b)→tn i s.heap→J.go i H →
  wpAny (model P w) X.A (pyNext (.ref it)) (fun r s1=>∃ u,r=some u ∧
   wpAny (model P w) X.A (letOwnedTupleGo tg (.ref it) u) (fun _ s2=>∃ x H',Inv X pins σ H' s2∧jl x u∧J.yld i H x H'∧tn (i + 1) s2.heap∧∀ b∈fp,H' b=none) E s1) E s
 done:∀ (X:Cx),X.prog=P→X.w=w→X.K=K→X.calm=true→∀ (i:Nat) (pins:List (Addr×Obj)) (s:Shared) (σ:St) (H:Hp) (E:Value→Shared→Prop),Inv X pins σ H s→(∀ b∈fp,Yw X pins H b)→tn i s.heap→J.stop i H →
  wpAny (model P w) X.A (pyNext (.ref it)) (fun r s1=>r=none∧Inv X pins σ H s1) E s
 self:∀ (A:Around) (i:Nat) (s:Shared) (Q:Value→Shared→Prop) (E:Value→Shared→Prop),tn i s.heap→Q (.ref it) s→wpAny (model P w) A (pyIter (.ref it)) Q E s
noncomputable abbrev TI:=St→Hp→(It→Hp→Prop)→Prop
noncomputable def PIE (X:Cx) (pins:List (Addr×Obj)) (σ:St) (tg:Expr) (R:It→Hp→Prop) (itv:Value) (s2:Shared):Prop :=
 ∃ (it:Addr) (fp:List Addr) (tn:Nat→Heap→Prop) (J:It) (H':Hp),itv=.ref it∧Inv X pins σ H' s2∧Turn X.prog X.w X.K tg J fp it tn∧tn 0 s2.heap∧(∀ b∈fp,Yw X pins H' b)∧R J H'
noncomputable def PI (X:Cx) (tg iter:Expr) (wi:TI):Prop :=
 ∀ (pins:List (Addr×Obj)) (s:Shared) (σ:St) (H:Hp) (R:It→Hp→Prop),Inv X pins σ H s→wi σ H R →
  wpAny (model X.prog X.w) X.A (eval iter X.env) (fun v s1=>wpAny (model X.prog X.w) X.A (pyIter v) (PIE X pins σ tg R) X.xe s1) X.xe s
theorem C5 {M:Model} {A:Around} {E:Value→Shared→Prop} {s:Shared} {tg:Expr} {it:Addr} {u:Value} {o:Obj} {n:String} {vs:Array Value} {Q:Unit→Shared→Prop} (ho:s.heap.get? it=some o) (hc:o.cls=.type n) (hd:o.data=.fields vs)
    (hn:["enumerate","zip","dict_itemiterator","dict_reverseitemiterator","odict_iterator","itertools.zip_longest","itertools.pairwise"].contains n=false) (hQ:Q () s):wpAny M A (letOwnedTupleGo tg (.ref it) u) Q E s:=by
  unfold letOwnedTupleGo
  cases tg <;> first
    | exact wpAny_pure hQ
    | (cases u <;> first
        | exact wpAny_pure hQ
        | (refine wpAny_bind (wpAny_load ho ?_)
           rw [hc,hd]
           show wpAny M A (if (["enumerate","zip","dict_itemiterator","dict_reverseitemiterator","odict_iterator","itertools.zip_longest","itertools.pairwise"].contains n && vs[0]? == some (rawInt _))=true then _ else _) Q E s
           rw [if_neg (by intro h;rw [hn,Bool.false_and] at h;cases h)]
           exact wpAny_pure hQ))
noncomputable def Itl (K:PySem.W.Frag) (a:Addr):It :=
 ⟨fun i H=>∃ xs x,SqL K H a xs∧xs[i]? =some x,fun i H x H'=>H'=H∧∀ xs,SqL K H a xs→xs[i]? =some x,fun i H=>∃ xs,SqL K H a xs∧xs.length≤i⟩
noncomputable def Itr (lo:Int) (n:Nat):It:=⟨fun i _=>i < n,fun i H x H'=>H'=H∧x=.int (lo + i),fun i _=>n≤i⟩
theorem Fs {P:Program} {w:World} {K:PySem.W.Frag} {tg:Expr} (a it:Addr):Turn P w K tg (Itl K a) [it] it (fun i h=>h.IsListIter it a i) where
 mem:=by simp
 obj:=fun i h st b hb=>by
  have e:b=it:=by simpa using hb
  subst e
  obtain ⟨o,e,c,d⟩:=st
  exact ⟨o,e,fun v z=>by rw [d] at z;cases z⟩
 keep:=fun i h h' st k=>st.at fun o e=>k it (by simp) o e
 item:=by
  intro X hP hw hK hc i pins s σ H E I hf st hg
  subst hP hw hK
  obtain ⟨xs,x,hq,hx⟩:=hg
  obtain ⟨its,rv,p,hz⟩:=I.list hq
  obtain ⟨u,hu,ru⟩:=rv.get hx
  obtain ⟨f0,f1,f2,f3,f4,f5⟩:=hf it (by simp)
  refine wpAny_pyNext_list_item st p.isList (x:=u) (by simpa using hu) fun h' st' sb=>?_
  have I1:Inv X pins σ H { s with heap:=h'}:=I.turned (t':=s.toks) (fun b o hb e=>(sb.2 b hb).trans e) f0 f1 f3 f4 f5
  obtain ⟨o,e,c,d⟩:=id st'
  exact ⟨u,rfl,C5 (s:={ s with heap:=h'}) e c d (by decide) ⟨x,H,I1,ru,⟨rfl,fun ys hy=>by rw [I.list_inj hy hq];exact hx⟩,st',fun b hb=>(hf b hb).1⟩⟩
 done:=by
  intro X hP hw hK hc i pins s σ H E I hf st hg
  subst hP hw hK
  obtain ⟨xs,hq,hx⟩:=hg
  obtain ⟨its,rv,p,hz⟩:=I.list hq
  obtain ⟨f0,f1,f2,f3,f4,f5⟩:=hf it (by simp)
  have hl:=rv.length
  exact wpAny_pyNext_list_end (I.ok.hd hc) st p.isList (by simp;omega) fun h' eb=>⟨rfl,I.turned (t':=s.toks) (fun b o hb e=>eb b o hb e) f0 f1 f3 f4 f5⟩
 self:=fun _ _ _ _ _ st h=>wpAny_pyIter_listiter st h
theorem Kx {P:Program} {w:World} {K:PySem.W.Frag} {tg:Expr} (it:Addr) (lo:Int) (n:Nat):Turn P w K tg (Itr lo n) [it] it (fun i h=>IsRangeIter h it (lo + (i:Nat) * 1) ((n:Int) - (i:Nat)) 1) where
 mem:=by simp
 obj:=fun i h st b hb=>by
  have e:b=it:=by simpa using hb
  subst e
  exact ⟨_,st,fun v z=>by
   have z':Data.fields _=Data.cell v:=z
   cases z'⟩
 keep:=fun i h h' st k=>k it (by simp) _ st
 item:=by
  intro X hP hw hK hc i pins s σ H E I hf st hg
  subst hP hw hK
  obtain ⟨f0,f1,f2,f3,f4,f5⟩:=hf it (by simp)
  have W:=Walks.range (prog:=X.prog) (w:=X.w) (I.ok.hd hc) it lo 1 n
  refine W.item i s _ _ hg st fun v h' tk hv st' kk=>?_
  obtain ⟨t,rfl⟩:=hv
  have I1:Inv X pins σ H { s with heap:=h',toks:=tk}:=I.turned (fun b o hb e=>kk b o (by simpa using hb) e) f0 f1 f3 f4 f5
  refine ⟨_,rfl,C5 (s:={ s with heap:=h',toks:=tk}) (n:="range_iterator") st' rfl rfl (by decide) ⟨.int (lo + i),H,I1,⟨t,?_⟩,⟨rfl,rfl⟩,st',fun b hb=>(hf b hb).1⟩⟩
  rw [Int.mul_one]
 done:=by
  intro X hP hw hK hc i pins s σ H E I hf st hg
  subst hP hw hK
  obtain ⟨f0,f1,f2,f3,f4,f5⟩:=hf it (by simp)
  exact wpAny_pyNext_range_end (I.ok.hd hc) st (by have:n≤i:=hg;omega) fun h' eb=>⟨rfl,I.turned (t':=s.toks) (fun b o hb e=>eb b o hb e) f0 f1 f3 f4 f5⟩
 self:=fun _ _ _ _ _ st h=>wpAny_pyIter_rangeiter st h
end L2
namespace L2
open PySem PySem.Spec PyProof.Rows
section
variable {X:Cx} {tg:Expr}
noncomputable def ai0 (K:PySem.W.Frag) (tl:TE):TI:=fun σ H R=>tl σ H fun x H1=>∃ a,x=.ref a∧(∃ xs,SqL K H1 a xs)∧R (Itl K a) H1
theorem Bx {l:Expr} {tl:TE} (hl:PE X l tl):PI X tg l (ai0 X.K tl):=by
 intro pins s σ H R I h
 refine thn (hl pins s σ H _ I h) fun v s1 ⟨x,H1,I1,r1,q1⟩=>?_
 obtain ⟨a,e,⟨xs,hq⟩,q⟩:=q1
 subst e
 cases r1
 obtain ⟨its,rv,p,hz⟩:=I1.list hq
 refine wpAny_pyIter_list p.isList ?_
 refine ⟨s1.heap.objs.size,[s1.heap.objs.size],_,_,H1,rfl,I1.kept (t':=s1.toks) fun b o e=>Heap.get?_push_of_some _ e,Fs a _,⟨_,Heap.get?_push_size _ rfl,rfl,rfl⟩,fun b hb=>?_,q⟩
 have e:b=s1.heap.objs.size:=by simpa using hb
 subst e
 exact I1.fpOk (Nat.le_refl _) (I1.hok.fresh (Nat.le_refl _))
theorem da {pins:List (Addr×Obj)} {σ:St} {H:Hp} {s:Shared} {R:It→Hp→Prop} {E:Value→Shared→Prop} {lo hi:Int} {t u v:Tok} {tk:Nat} (I:Inv X pins σ H s) (h1:-(2 ^ 62)≤lo) (h2:lo < 2 ^ 62) (h3:-(2 ^ 62)≤hi) (h4:hi < 2 ^ 62)
  (q:R (Itr lo (hi - lo).toNat) H):wpAny (model X.prog X.w) X.A (pyIter (.ref s.heap.objs.size)) (PIE X pins σ tg R) E { s with heap:=s.heap.push { cls:=.type "range",data:=.fields #[.int lo t,.int hi u,.int 1 v]},toks:=tk}:=by
 refine wpAny_pyIter_range (IsRange.new ..) (small_one h1 h2 h3 h4) ?_
 have I1:Inv X pins σ H { s with heap:=s.heap.push { cls:=.type "range",data:=.fields #[.int lo t,.int hi u,.int 1 v]},toks:=tk}:=I.kept fun b o e=>Heap.get?_push_of_some _ e
 refine ⟨(s.heap.push { cls:=.type "range",data:=.fields #[.int lo t,.int hi u,.int 1 v]}).objs.size,[(s.heap.push { cls:=.type "range",data:=.fields #[.int lo t,.int hi u,.int 1 v]}).objs.size],_,_,H,rfl,
  I1.kept (t':=tk) fun b o e=>Heap.get?_push_of_some _ e,Kx _ lo (hi - lo).toNat,?_,fun b hb=>?_,q⟩
 ·have e1:lo + ((0:Nat):Int) * 1=lo:=by simp
  have e2:(((hi - lo).toNat:Nat):Int) - ((0:Nat):Int)=Builtin.Range.rangeSize lo hi 1:=by rw [rangeSize_one];split <;> omega
  show IsRangeIter _ _ (lo + ((0:Nat):Int) * 1) ((((hi - lo).toNat:Nat):Int) - ((0:Nat):Int)) 1
  rw [e1,e2]
  exact Heap.get?_push_size _ rfl
 ·have e:b=(s.heap.push { cls:=.type "range",data:=.fields #[.int lo t,.int hi u,.int 1 v]}).objs.size:=by simpa using hb
  subst e
  exact I1.fpOk (Nat.le_refl _) (I1.hok.fresh (Nat.le_refl _))
noncomputable def ah9 (ta:TA):TI:=fun σ H R=>ta σ H fun vs H1=>∃ j:Int,vs=[.int j]∧ -(2 ^ 62)≤j∧j < 2 ^ 62∧R (Itr 0 j.toNat) H1
theorem Fk {a:Expr} {ta:TA} {p pos:Pos} (hg:Gl X "range") (hm:X.mg "range"=none) (ha:PA X [a] ta) (hs:starEach [a] X.env=[(false,eval a X.env)]:=by rfl):PI X tg (.Call (.Name "range" p) [a] [] pos) (ah9 ta):=by
 intro pins s σ H R I h
 refine Call_ (Y9 I hg hm boot_range (PyProof.Rows.callWith_type1 (thn (ha pos pins s σ H _ I h) fun us s1 ⟨vs,H1,I1,r1,q1⟩=>?_) hs rfl))
 obtain ⟨j,e,q1,q2,q⟩:=q1
 subst e
 cases r1 with
 | cons r rr =>
  cases rr
  obtain ⟨t,rfl⟩:=r
  exact call_range_1 (da I1 (by omega) (by omega) q1 q2 (by simpa using q))
noncomputable def tFor (wi:TI) (g:TG) (tb:TS):TS:=fun D σ H=>wi σ H fun J H1=>∃ W:Nat→Nat→St→Hp→Prop,(∃ m,W 0 m σ H1)∧∀ i m σ H,W i m σ H →
 (J.stop i H∧D.nx σ H)∨(J.go i H∧∃ N:St→Hp→Prop,(∀ σ' H',N σ' H'→∃ m',m' < m∧W (i + 1) m' σ' H')∧∀ x H',J.yld i H x H'→g x σ H' fun σ2 H2=>tb { D with nx:=N,ct:=N,bk:=D.nx} σ2 H2)
noncomputable def xv (fp:List Addr) (h:Heap):List (Addr×Obj):=fp.filterMap fun b=>(h.get? b).map fun o=>(b,o)
theorem Y7 {fp:List Addr} {h:Heap} {b:Addr} {o:Obj} (hb:b∈fp) (e:h.get? b=some o):(b,o)∈xv fp h:=List.mem_filterMap.mpr ⟨b,hb,by rw [e];rfl⟩
theorem Fc {fp:List Addr} {h:Heap} {p:Addr×Obj} (hp:p∈xv fp h):p.1∈fp∧h.get? p.1=some p.2:=by
 obtain ⟨b,hb,e⟩:=List.mem_filterMap.mp hp
 cases q:h.get? b with
 | none=>rw [q] at e;cases e
 | some o =>
  rw [q] at e
  have e':(b,o)=p:=Option.some.inj e
  subst e'
  exact ⟨hb,q⟩
theorem Inv.pinned {pins:List (Addr×Obj)} {σ:St} {H:Hp} {s:Shared} {fp:List Addr} (I:Inv X pins σ H s) (hf:∀ b∈fp,Yw X pins H b) (ho:∀ b∈fp,∃ o,s.heap.get? b=some o∧∀ v,o.data≠.cell v):Inv X (pins++xv fp s.heap) σ H s :=
 I.pins_of fun p hp=>(List.mem_append.mp hp).elim (fun z=>I.pin p (List.mem_append_right _ z)) fun z=>by
  obtain ⟨hb,e⟩:=Fc z
  obtain ⟨f0,f1,f2,_⟩:=hf p.1 hb
  obtain ⟨o,e',d⟩:=ho p.1 hb
  rw [e] at e';cases e'
  exact ⟨e,f0,f1,f2,d⟩
theorem Inv.unpinned {pins pl:List (Addr×Obj)} {σ:St} {H:Hp} {s:Shared} (I:Inv X (pins++pl) σ H s):Inv X pins σ H s:=I.pins_of fun p hp=>I.pin p (List.mem_append_right _ (List.mem_append_left _ hp))
theorem a41 {iter:Expr} {body:List Stmt} {wi:TI} {g:TG} {tb:TS} {pos:Pos} (hp:PassesOwn (model X.prog X.w) X.A X.env X.xe) (hc:X.calm=true) (hi:PI X tg iter wi) (hg:PG X tg g) (hb:PSs X body tb)
  (hs:∀ x,foldedSetIterable iter X.env x=pure x:=by intro _;rfl):PS X (.For tg iter body [] pos) (tFor wi g tb):=by
 intro pins s σ H D I h
 refine wpAny_For (thn (hi pins s σ H _ I h) fun v s1 h1=>thn h1 fun itv s2 h2=>?_) hs
 obtain ⟨it,fp,tn,J,H2,e,I2,T,st2,f2,W,⟨m0,w0⟩,turn⟩:=h2
 subst e
 have stat:∀ {H':Hp},(∀ b∈fp,H' b=none)→∀ b∈fp,Yw X pins H' b:=fun hn b hb=>⟨hn b hb,(f2 b hb).2⟩
 refine codeAny_forLoop_any (fun n s'=>∃ i σ' H',Inv X pins σ' H' s'∧tn i s'.heap∧(∀ b∈fp,H' b=none)∧W i n σ' H') ?_ m0 ⟨0,σ,H2,I2,st2,fun b hb=>(f2 b hb).1,w0⟩
 rintro n s3 ⟨i,σ3,H3,I3,st3,fr3,w3⟩
 rcases turn i n σ3 H3 w3 with ⟨stop,qn⟩ | ⟨go,N,hN,step⟩
 ·refine wpAny_passesOwn hp (thn (T.done X rfl rfl rfl hc i pins s3 σ3 H3 X.xe I3 (stat fr3) st3 stop) fun r s4 ⟨hr,I4⟩=>?_)
  subst hr
  exact wpAny_execs_nil ⟨σ3,H3,I4,qn⟩
 ·refine wpAny_passesOwn hp (thn (T.item X rfl rfl rfl hc i pins s3 σ3 H3 X.xe I3 (stat fr3) st3 go) fun r s4 ⟨u,hr,h4⟩=>?_)
  subst hr
  refine wpAny_passesOwn hp (thn h4 fun _ s5 ⟨x,H5,I5,r5,y5,st5,fr5⟩=>?_)
  have I5':=I5.pinned (stat fr5) (T.obj _ _ st5)
  refine wpAny_passesOwn hp (thn (hg _ s5 σ3 H5 x u _ I5' r5 (step x H5 y5)) fun _ s6 ⟨σ6,H6,I6,q6⟩=>?_)
  refine wpAny_passesOwn hp (thn (hb _ s6 σ6 H6 _ I6 q6) fun f s7 q7=>?_)
  have again:∀ {σ7:St} {H7:Hp},Inv X (pins++xv fp s5.heap) σ7 H7 s7→N σ7 H7→∃ m,m < n∧∃ i σ' H',Inv X pins σ' H' s7∧tn i s7.heap∧(∀ b∈fp,H' b=none)∧W i m σ' H':=fun {σ7 H7} I7 n7=>by
   obtain ⟨m',hm,w7⟩:=hN σ7 H7 n7
   refine ⟨m',hm,i + 1,σ7,H7,I7.unpinned,T.keep _ _ _ st5 fun b hb o e=>(I7.pin (b,o) (List.mem_append_right _ (List.mem_append_right _ (Y7 hb e)))).1,fun b hb=>?_,w7⟩
   obtain ⟨o,e,d⟩:=T.obj _ _ st5 b hb
   exact (I7.pin (b,o) (List.mem_append_right _ (List.mem_append_right _ (Y7 hb e)))).2.1
  cases f with
  | next=>obtain ⟨σ7,H7,I7,n7⟩:=q7;exact again I7 n7
  | cont=>obtain ⟨σ7,H7,I7,n7⟩:=q7;exact again I7 n7
  | brk=>obtain ⟨σ7,H7,I7,q7⟩:=q7;exact ⟨σ7,H7,I7.unpinned,q7⟩
  | ret v=>obtain ⟨x7,σ7,H7,I7,r7,q7⟩:=q7;exact ⟨x7,σ7,H7,I7.unpinned,r7,q7⟩
end
end L2
namespace L2
open PySem PySem.Spec PyProof.Rows
noncomputable abbrev R2:=V→V→Hp→VK→Prop
noncomputable def OpR (X:Cx) (f:Value→Value→Sem Value) (r:R2):Prop :=
 ∀ (pins:List (Addr×Obj)) (s:Shared) (σ:St) (H:Hp) (x y:V) (v u:Value) (Q:VK),Inv X pins σ H s→jl x v→jl y u→r x y H Q →
  wpAny (model X.prog X.w) X.A (f v u) (EP X pins σ Q) X.xe s
noncomputable def UnR (X:Cx) (f:Value→Sem Value) (r:V→Hp→VK→Prop):Prop :=
 ∀ (pins:List (Addr×Obj)) (s:Shared) (σ:St) (H:Hp) (x:V) (v:Value) (Q:VK),Inv X pins σ H s→jl x v→r x H Q →
  wpAny (model X.prog X.w) X.A (f v) (EP X pins σ Q) X.xe s
noncomputable def ye (X:Cx) (f:Value) (r:List V→Hp→VK→Prop):Prop :=
 ∀ (pins:List (Addr×Obj)) (s:Shared) (σ:St) (H:Hp) (xs:List V) (us:List Value) (Q:VK),Inv X pins σ H s→jq xs us→r xs H Q →
  wpAny (model X.prog X.w) X.A (call f us) (EP X pins σ Q) X.xe s
noncomputable def TruR (X:Cx) (r:V→Hp→(Bool→Hp→Prop)→Prop):Prop :=
 ∀ (pins:List (Addr×Obj)) (s:Shared) (σ:St) (H:Hp) (x:V) (v:Value) (Q:Bool→Hp→Prop),Inv X pins σ H s→jl x v→r x H Q →
  wpAny (model X.prog X.w) X.A (truthy v) (TP X pins σ Q) X.xe s
noncomputable def tOp (r:R2) (ta tb:TE):TE:=fun σ H Q=>ta σ H fun x H1=>tb σ H1 fun y H2=>r x y H2 Q
noncomputable def tUn (r:V→Hp→VK→Prop) (ta:TE):TE:=fun σ H Q=>ta σ H fun x H1=>r x H1 Q
noncomputable def rI (C:Int→Int→Prop) (g:Int→Int→V):R2:=fun x y H Q=>∃ i j,x=.int i∧y=.int j∧C i j∧Q (g i j) H
noncomputable def rI0 (g:Int→Int→V):R2:=fun x y H Q=>∃ i j,x=.int i∧y=.int j∧Q (g i j) H
noncomputable def rU (g:Int→V):V→Hp→VK→Prop:=fun x H Q=>∃ i,x=.int i∧Q (g i) H
section
variable {X:Cx} {a b c:Expr} {ta tb tc:TE} {pos:Pos}
theorem ab0 (ha:PE X a ta) (hb:PE X b tb) {pins:List (Addr×Obj)} {s:Shared} {σ:St} {H:Hp} {R:V→V→Hp→Prop} (I:Inv X pins σ H s)
  (h:ta σ H fun x H1=>tb σ H1 fun y H2=>R x y H2) {Q:Value→Shared→Prop} {f:Value→Value→Sem Value}
  (hf:∀ v u s2 x y H2,Inv X pins σ H2 s2→jl x v→jl y u→R x y H2→wpAny (model X.prog X.w) X.A (f v u) Q X.xe s2) :
  wpAny (model X.prog X.w) X.A (eval a X.env) (fun v s₁=>wpAny (model X.prog X.w) X.A (eval b X.env) (fun u s₂=>wpAny (model X.prog X.w) X.A (f v u) Q X.xe s₂) X.xe s₁) X.xe s:=by
 refine thn (ha pins s σ H _ I h) fun v s1 ⟨x,H1,I1,r1,q1⟩=>?_
 refine thn (hb pins s1 σ H1 _ I1 q1) fun u s2 ⟨y,H2,I2,r2,q2⟩=>?_
 exact hf v u s2 x y H2 I2 r1 r2 q2
theorem Du {op:Operator} {r:R2} (ho:OpR X (binaryOp op) r) (ha:PE X a ta) (hb:PE X b tb):PE X (.BinOp a op b pos) (tOp r ta tb):=by
 intro pins s σ H Q I h
 exact wpAny_BinOp (ab0 ha hb I h fun v u s2 x y H2 I2 rx ry q=>ho pins s2 σ H2 x y v u Q I2 rx ry q)
theorem ae8 {op:UnaryOp} {r:V→Hp→VK→Prop} (ho:UnR X (unaryOp op) r) (ha:PE X a ta):PE X (.UnaryOp op a pos) (tUn r ta):=by
 intro pins s σ H Q I h
 exact UnaryOp_ (thn (ha pins s σ H _ I h) fun v s1 ⟨x,H1,I1,r1,q1⟩=>ho pins s1 σ H1 x v Q I1 r1 q1)
theorem opI {f:Value→Value→Sem Value} {C:Int→Int→Prop} {g:Int→Int→Int}
  (rule:∀ (i j:Int) (t u:Tok) (s:Shared) (Q:Value→Shared→Prop) (E:Value→Shared→Prop),C i j→Q (.int (g i j) s.toks) { s with toks:=s.toks + 1}→wpAny (model X.prog X.w) X.A (f (.int i t) (.int j u)) Q E s) :
  OpR X f (rI C fun i j=>.int (g i j)):=by
 intro pins s σ H x y v u Q I rx ry h
 obtain ⟨i,j,rfl,rfl,hc,q⟩:=h
 obtain ⟨t,rfl⟩:=rx
 obtain ⟨t',rfl⟩:=ry
 exact rule i j t t' s _ _ hc ⟨.int (g i j),H,I.tok _,⟨_,rfl⟩,q⟩
theorem ag3 {f:Value→Value→Sem Value} {g:Int→Int→Int}
  (rule:∀ (i j:Int) (t u:Tok) (s:Shared) (Q:Value→Shared→Prop) (E:Value→Shared→Prop),Q (.int (g i j) s.toks) { s with toks:=s.toks + 1}→wpAny (model X.prog X.w) X.A (f (.int i t) (.int j u)) Q E s) :
  OpR X f (rI0 fun i j=>.int (g i j)):=by
 intro pins s σ H x y v u Q I rx ry h
 obtain ⟨i,j,rfl,rfl,q⟩:=h
 obtain ⟨t,rfl⟩:=rx
 obtain ⟨t',rfl⟩:=ry
 exact rule i j t t' s _ _ ⟨.int (g i j),H,I.tok _,⟨_,rfl⟩,q⟩
theorem Bk {f:Value→Value→Sem Value} {g:Int→Int→Bool}
  (rule:∀ (i j:Int) (t u:Tok) (s:Shared) (Q:Value→Shared→Prop) (E:Value→Shared→Prop),Q (.bool (g i j)) s→wpAny (model X.prog X.w) X.A (f (.int i t) (.int j u)) Q E s) :
  OpR X f (rI0 fun i j=>.bl (g i j)):=by
 intro pins s σ H x y v u Q I rx ry h
 obtain ⟨i,j,rfl,rfl,q⟩:=h
 obtain ⟨t,rfl⟩:=rx
 obtain ⟨t',rfl⟩:=ry
 exact rule i j t t' s _ _ ⟨.bl (g i j),H,I,rfl,q⟩
noncomputable def aj9 (i j:Int):Prop:=0≤j∧j≤1000000∧i.natAbs < 2 ^ 64
noncomputable def Ep (i j:Int):Prop:=(-(2 ^ 64) < i∧i < 2 ^ 64)∨(-(2 ^ 64) < j∧j < 2 ^ 64)
theorem Ep.ok {i j:Int} (h:Ep i j):IntMulOk i j:=by
 rcases h with ⟨h1,h2⟩ | ⟨h1,h2⟩
 ·exact .of_left (intBits_le_64 h1 h2)
 ·exact .of_right (intBits_le_64 h1 h2)
theorem a68:OpR X (binaryOp .Add) (rI0 fun i j=>.int (i + j)):=ag3 fun _ _ _ _ _ _ _ q=>add_int q
theorem a60:OpR X (binaryOp .Sub) (rI0 fun i j=>.int (i - j)):=ag3 fun _ _ _ _ _ _ _ q=>sub_int q
theorem a63:OpR X (binaryOp .Mult) (rI Ep fun i j=>.int (i * j)):=opI fun _ _ _ _ _ _ _ hc q=>mul_int q hc.ok
theorem a64:OpR X (binaryOp .Mod) (rI (fun _ j=>0 < j) fun i j=>.int (i % j)):=opI fun i j _ _ _ _ _ hc q=>by
 have h1:(0:Int) < j:=hc
 exact mod_int' (by omega) (by rw [Int.fmod_eq_emod_of_nonneg i (by omega)];exact q)
theorem unI {f:Value→Sem Value} {g:Int→Int}
  (rule:∀ (i:Int) (t:Tok) (s:Shared) (Q:Value→Shared→Prop) (E:Value→Shared→Prop),Q (.int (g i) s.toks) { s with toks:=s.toks + 1}→wpAny (model X.prog X.w) X.A (f (.int i t)) Q E s) :
  UnR X f (rU fun i=>.int (g i)):=by
 intro pins s σ H x v Q I rx h
 obtain ⟨i,rfl,q⟩:=h
 obtain ⟨t,rfl⟩:=rx
 exact rule i t s _ _ ⟨.int (g i),H,I.tok _,⟨_,rfl⟩,q⟩
theorem a22:UnR X (unaryOp .USub) (rU fun i=>.int (-i)):=unI fun _ _ _ _ _ q=>neg_int q
end
section
variable {X:Cx} {a b c:Expr} {ta tb tc:TE} {pos:Pos}
theorem af9:OpR X (compareOp .Lt) (rI0 fun i j=>.bl (decide (i < j))):=Bk fun _ _ _ _ _ _ _ q=>lt_int q
theorem ag0:OpR X (compareOp .LtE) (rI0 fun i j=>.bl (decide (i≤j))):=Bk fun _ _ _ _ _ _ _ q=>le_int q
theorem ag1:OpR X (compareOp .Gt) (rI0 fun i j=>.bl (decide (j < i))):=Bk fun _ _ _ _ _ _ _ q=>gt_int q
theorem ag2:OpR X (compareOp .GtE) (rI0 fun i j=>.bl (decide (j≤i))):=Bk fun _ _ _ _ _ _ _ q=>ge_int q
theorem OpR.or {f:Value→Value→Sem Value} {r r':R2} (h:OpR X f r) (h':OpR X f r'):OpR X f (fun x y H Q=>r x y H Q∨r' x y H Q):=by
 intro pins s σ H x y v u Q I rx ry q
 rcases q with q | q
 ·exact h pins s σ H x y v u Q I rx ry q
 ·exact h' pins s σ H x y v u Q I rx ry q
theorem nomark (b:Expr) {op:CmpOp} (h:op≠.In:=by decide) (h2:op≠.NotIn:=by decide):behindInMarks op b=false:=by
 have e1:(op == CmpOp.In)=false:=by cases op <;> first | rfl | exact absurd rfl h
 have e2:(op == CmpOp.NotIn)=false:=by cases op <;> first | rfl | exact absurd rfl h2
 cases b <;> simp [behindInMarks,e1,e2]
theorem Br {op:CmpOp} {r:R2} (ho:OpR X (compareOp op) r) (ha:PE X a ta) (hb:PE X b tb) (hm:behindInMarks op b=false):PE X (.Compare a [op] [b] pos) (tOp r ta tb):=by
 intro pins s σ H Q I h
 exact wpAny_Compare1 (ab0 ha hb I h fun v u s2 x y H2 I2 rx ry q=>ho pins s2 σ H2 x y v u Q I2 rx ry q) hm
noncomputable def Ao (t:TE):TT:=fun σ H Q=>t σ H fun x H'=>∃ k,x=.bl k∧Q k H'
theorem B4 {op:CmpOp} {r:R2} (ho:OpR X (compareOp op) r) (ha:PE X a ta) (hb:PE X b tb) (hm:behindInMarks op b=false):PT X (.Compare a [op] [b] pos) (Ao (tOp r ta tb)):=by
 intro pins s σ H Q I h
 refine wpAny_isTrue_Compare1 (thn (ha pins s σ H _ I h) fun v s1 ⟨x,H1,I1,r1,q1⟩=>thn (hb pins s1 σ H1 _ I1 q1) fun u s2 ⟨y,H2,I2,r2,q2⟩ =>
  thn (ho pins s2 σ H2 x y v u _ I2 r1 r2 q2) fun c s3 ⟨z,H3,I3,r3,k,e,q3⟩=>?_) hm
 subst e
 cases r3
 exact wpAny_truthy_bool ⟨H3,I3,q3⟩
noncomputable def Kv (r r':R2) (ta tb tc:TE):TE:=fun σ H Q=>ta σ H fun x H1=>tb σ H1 fun y H2=>r x y H2 fun z H3=>∃ k,z=.bl k ∧
 (if k=true then tc σ H3 fun w' H4=>r' y w' H4 Q else Q (.bl false) H3)
theorem Do {op op':CmpOp} {r r':R2} (ho:OpR X (compareOp op) r) (ho':OpR X (compareOp op') r') (ha:PE X a ta) (hb:PE X b tb) (hc:PE X c tc)
  (hm:lastMarks [op,op'] [b,c]=false:=by with_unfolding_all rfl):PE X (.Compare a [op,op'] [b,c] pos) (Kv r r' ta tb tc):=by
 intro pins s σ H Q I h
 refine Compare_chain (thn (ha pins s σ H _ I h) fun v s1 ⟨x,H1,I1,r1,q1⟩=>chain_link (thn (hb pins s1 σ H1 _ I1 q1) fun u s2 ⟨y,H2,I2,r2,q2⟩ =>
  thn (ho pins s2 σ H2 x y v u _ I2 r1 r2 q2) fun d s3 ⟨z,H3,I3,r3,k,e,q3⟩=>?_)) hm
 subst e
 cases r3
 refine wpAny_truthy_bool ?_
 cases k with
 | false=>exact ite_ff ⟨.bl false,H3,I3,rfl,q3⟩
 | true=>exact ite_tt (chain_last (thn (hc pins s3 σ H3 _ I3 q3) fun w' s4 ⟨z',H4,I4,r4,q4⟩=>ho' pins s4 σ H4 y z' u w' Q I4 r2 r4 q4))
theorem D7 {op op':CmpOp} {r r':R2} (ho:OpR X (compareOp op) r) (ho':OpR X (compareOp op') r') (ha:PE X a ta) (hb:PE X b tb) (hc:PE X c tc)
  (hm:lastMarks [op,op'] [b,c]=false:=by with_unfolding_all rfl):PT X (.Compare a [op,op'] [b,c] pos) (Ao (Kv r r' ta tb tc)):=by
 intro pins s σ H Q I h
 refine isTrue_chain (thn (ha pins s σ H _ I h) fun v s1 ⟨x,H1,I1,r1,q1⟩=>test_link (thn (hb pins s1 σ H1 _ I1 q1) fun u s2 ⟨y,H2,I2,r2,q2⟩ =>
  thn (ho pins s2 σ H2 x y v u _ I2 r1 r2 q2) fun d s3 ⟨z,H3,I3,r3,k,e,q3⟩=>?_)) hm
 subst e
 cases r3
 refine wpAny_truthy_bool ?_
 cases k with
 | false =>
  obtain ⟨k',e',q'⟩:=q3
  cases e'
  exact ite_ff ⟨H3,I3,q'⟩
 | true =>
  refine ite_tt (test_last (thn (hc pins s3 σ H3 _ I3 q3) fun w' s4 ⟨z',H4,I4,r4,q4⟩=>thn (ho' pins s4 σ H4 y z' u w' _ I4 r2 r4 q4) fun d' s5 ⟨z2,H5,I5,r5,k2,e2,q5⟩=>?_))
  subst e2
  cases r5
  exact wpAny_truthy_bool ⟨H5,I5,q5⟩
noncomputable def ab4 (K:PySem.W.Frag) (x:V) (H:Hp) (k:Bool):Prop :=
 match x with
 | .non=>k=false
 | .bl b=>k=b
 | .int i=>k=(i != 0)
 | .str y=>y.length≤sizeLine∧k=((y.length:Int) != 0)
 | .byt y=>y.size≤sizeLine∧k=((y.size:Int) != 0)
 | .ref p=>(∃ xs,SqL K H p xs∧k= !xs.isEmpty)∨(∃ xs,SqT K H p xs∧k= !xs.isEmpty)∨∃ kvs,H p=some (.dK kvs)∧k= !kvs.isEmpty
 | _=>False
theorem g9 {κ:Type} {kvs:List (κ×V)} {vs:List (κ×Value)} (r:KV kvs vs):(!vs.isEmpty)= !kvs.isEmpty:=by
 cases r <;> rfl
theorem xg {xs:List V} {its:List Value} (r:jq xs its):(!its.toArray.isEmpty)= !xs.isEmpty:=by
 cases r <;> simp
theorem Q3:(sizeLine:Nat) < 2 ^ 63:=by rw [sizeLine_eq];decide
theorem a25:TruR X (fun x H Q=>∃ k,ab4 X.K x H k∧Q k H):=by
 intro pins s σ H x v Q I rx h
 obtain ⟨k,e,q⟩:=h
 have hl:=Q3
 have hs:sizeLine=16777216:=sizeLine_eq
 cases x with
 | non =>
  cases rx
  have e':k=false:=e
  subst e'
  exact truthy_none ⟨H,I,q⟩
 | bl b =>
  cases rx
  have e':k=b:=e
  subst e'
  exact wpAny_truthy_bool ⟨H,I,q⟩
 | int i =>
  obtain ⟨t,rfl⟩:=rx
  have e':k=(i != 0):=e
  subst e'
  exact PySem.P.truthy_int ⟨H,I,q⟩
 | str y =>
  obtain ⟨t,rfl⟩:=rx
  obtain ⟨hy,e'⟩:y.length≤sizeLine∧k=((y.length:Int) != 0):=e
  subst e'
  exact PySem.P.truthy_str (by omega) ⟨H,I.tok _,q⟩
 | byt y =>
  obtain ⟨t,rfl⟩:=rx
  obtain ⟨hy,e'⟩:y.size≤sizeLine∧k=((y.size:Int) != 0):=e
  subst e'
  exact PySem.W.truthy_bytes (by omega) ⟨H,I.tok _,q⟩
 | ref p =>
  cases rx
  have e':(∃ xs,SqL X.K H p xs∧k= !xs.isEmpty)∨(∃ xs,SqT X.K H p xs∧k= !xs.isEmpty)∨∃ kvs,H p=some (.dK kvs)∧k= !kvs.isEmpty:=e
  rcases e' with ⟨xs,hx,e'⟩ | ⟨xs,hx,e'⟩ | ⟨kvs,hx,e'⟩
  ·subst e'
   obtain ⟨its,r,pl,hz⟩:=I.list hx
   have hlen:=r.length
   exact wpAny_truthy_list pl.isList (by simp only [List.size_toArray];omega) ⟨H,I.tok _,by rw [xg r];exact q⟩
  ·subst e'
   obtain ⟨its,r,pl,hz⟩:=I.tuple hx
   have hlen:=r.length
   exact truthy_tuple pl (by simp only [List.size_toArray];omega) ⟨H,I.tok _,by rw [xg r];exact q⟩
  ·subst e'
   obtain ⟨hz,hS,vs,r,m⟩:kvs.length≤sizeLine∧(p == sysModules)=false∧∃ vs,KV kvs vs∧s.heap.DictOf (jh X.prog X.w) p vs:=I.hok p _ hx
   have hlen:kvs.length=vs.length:=Paired.length r
   exact wpAny_truthy_dict hS m (by omega) ⟨H,I.tok _,by rw [g9 r];exact q⟩
 | _=>exact (show False from e).elim
theorem D5 (ha:PE X a ta) (he:∀ whole,isTrue a X.env whole=(do let v ← whole;standAt a.pos;holding [v] (truthy v))) :
  PT X a (fun σ H Q=>ta σ H fun x H'=>∃ k,ab4 X.K x H' k∧Q k H'):=by
 intro pins s σ H Q I h
 exact isTrue_plain (thn (ha pins s σ H _ I h) fun v s1 ⟨x,H1,I1,r1,q1⟩=>a25 pins s1 σ H1 x v Q I1 r1 q1) (he _)
theorem Kh:OpR X (binaryOp .Add) (fun x y H Q=>∃ i j,x=.str i∧y=.str j∧i.length + j.length≤sizeLine∧Q (.str (i++j)) H):=by
 intro pins s σ H x y v u Q I rx ry h
 obtain ⟨i,j,rfl,rfl,hz,q⟩:=h
 obtain ⟨t,rfl⟩:=rx
 obtain ⟨t',rfl⟩:=ry
 exact add_str (fun t' tk=>⟨.str (i++j),H,I.tok _,⟨_,rfl⟩,q⟩) hz
theorem Zk {x:V} {us:List Value} (r:jq [x] us):∃ u,us=[u]∧jl x u:=by
 cases r with
 | cons r1 r2=>cases r2;exact ⟨_,rfl,r1⟩
theorem V1 {x y:V} {us:List Value} (r:jq [x,y] us):∃ u w',us=[u,w']∧jl x u∧jl y w':=by
 cases r with
 | cons r1 r2 =>
  cases r2 with
  | cons r3 r4=>cases r4;exact ⟨_,_,rfl,r1,r3⟩
theorem Ew (hc:X.calm=true):ye X (.builtin "max") (fun xs H Q=>∃ i j,xs=[.int i,.int j]∧Q (.int (if j > i then j else i)) H):=by
 intro pins s σ H xs us Q I r h
 obtain ⟨i,j,rfl,q⟩:=h
 obtain ⟨u,w',rfl,⟨t,rfl⟩,⟨t',rfl⟩⟩:=V1 r
 refine max_two_ints (I.ok.hd hc) fun h' tk k=>⟨_,H,I.kept k,?_,q⟩
 by_cases hj:j > i
 ·rw [if_pos hj,if_pos hj];exact ⟨_,rfl⟩
 ·rw [if_neg hj,if_neg hj];exact ⟨_,rfl⟩
theorem Ex (hc:X.calm=true):ye X (.builtin "min") (fun xs H Q=>∃ i j,xs=[.int i,.int j]∧Q (.int (if j < i then j else i)) H):=by
 intro pins s σ H xs us Q I r h
 obtain ⟨i,j,rfl,q⟩:=h
 obtain ⟨u,w',rfl,⟨t,rfl⟩,⟨t',rfl⟩⟩:=V1 r
 refine min_two_ints (I.ok.hd hc) fun h' tk k=>⟨_,H,I.kept k,?_,q⟩
 by_cases hj:j < i
 ·rw [if_pos hj,if_pos hj];exact ⟨_,rfl⟩
 ·rw [if_neg hj,if_neg hj];exact ⟨_,rfl⟩
noncomputable def LenV (K:PySem.W.Frag) (x:V) (H:Hp) (n:Nat):Prop :=
 match x with
 | .str y=>y.length≤sizeLine∧n=y.length
 | .byt y=>y.size≤sizeLine∧n=y.size
 | .ref p=>(∃ xs,SqL K H p xs∧n=xs.length)∨∃ xs,SqT K H p xs∧n=xs.length
 | _=>False
theorem Cj:ye X (.builtin "len") (fun xs H Q=>∃ x n,xs=[x]∧LenV X.K x H n∧Q (.int n) H):=by
 intro pins s σ H xs us Q I r h
 obtain ⟨x,n,rfl,e,q⟩:=h
 obtain ⟨u,rfl,rx⟩:=Zk r
 have hl:=Q3
 have hs:sizeLine=16777216:=sizeLine_eq
 cases x with
 | str y =>
  obtain ⟨t,rfl⟩:=rx
  obtain ⟨hy,e'⟩:y.length≤sizeLine∧n=y.length:=e
  subst e'
  exact len_str (by omega) ⟨.int _,H,I.tok _,⟨_,rfl⟩,q⟩
 | byt y =>
  obtain ⟨t,rfl⟩:=rx
  obtain ⟨hy,e'⟩:y.size≤sizeLine∧n=y.size:=e
  subst e'
  exact PySem.W.len_bytes (by omega) ⟨.int _,H,I.tok _,⟨_,rfl⟩,q⟩
 | ref p =>
  cases rx
  have e':(∃ xs,SqL X.K H p xs∧n=xs.length)∨∃ xs,SqT X.K H p xs∧n=xs.length:=e
  rcases e' with ⟨xs,hx,e'⟩ | ⟨xs,hx,e'⟩
  ·subst e'
   obtain ⟨its,r',pl,hz⟩:=I.list hx
   have hlen:=r'.length
   exact Calls.call_len_list pl.isList (by simp only [List.size_toArray];omega) ⟨.int xs.length,H,I.tok _,⟨_,by simp only [List.size_toArray];rw [hlen]⟩,q⟩
  ·subst e'
   obtain ⟨its,r',pl,hz⟩:=I.tuple hx
   have hlen:=r'.length
   exact len_tuple pl (by simp only [List.size_toArray];omega) ⟨.int xs.length,H,I.tok _,⟨_,by simp only [List.size_toArray];rw [hlen]⟩,q⟩
 | _=>exact (show False from e).elim
end
end L2
namespace L2
open PySem PySem.Spec PyProof.Rows
structure ObjM (h:Heap) (x dx C:Addr) (mA:Str→Option Value):Prop where
 obj:h.get? x=some (PySem.W.instObj C dx)
 ns:h.Ns1 dx mA
 ne:dx≠x
theorem e7 {h:Heap} {dx:Addr} {mA:Str→Option Value} (n:h.Ns1 dx mA):∃ od,h.get? dx=some od∧∀ name,PySem.W.lookIn name od=some (mA name):=by
 obtain ⟨o,es,ep,ho,hd,hk,_,hm⟩:=n
 refine ⟨o,ho,fun name=>?_⟩
 have e:=hm name
 unfold nsFind findBy at e
 rw [← Array.find?_toList] at e
 unfold PySem.W.lookIn
 rw [hd]
 dsimp only
 split
 ·rename_i y q
  rw [q] at e
  exact congrArg some e
 ·rename_i q
  rw [q] at e
  have a:es.toList.any (·.refKey)=false:=by
   rw [List.any_eq_false]
   intro y hy
   obtain ⟨z,t,hkey⟩:=hk y (Array.mem_toList_iff.mp hy)
   simp [DictEntry.refKey,hkey]
  have a':¬ es.toList.any (·.refKey)=true:=by rw [a];exact Bool.false_ne_true
  rw [if_neg a']
  exact congrArg some e
theorem ObjM.look {h:Heap} {x dx C:Addr} {mA:Str→Option Value} (I:ObjM h x dx C mA):∃ od,PySem.W.InstAt h x (PySem.W.instObj C dx) C (some od)∧∀ name,PySem.W.lookIn name od=some (mA name) :=
 let ⟨od,ho,hl⟩:=e7 I.ns
 ⟨od,⟨I.obj,rfl,rfl,ho⟩,hl⟩
section
variable {prog:Program} {w:World} {A:Around} {E:Value→Shared→Prop} {s:Shared} {K:PySem.W.Frag} {x dx C f:Addr} {mA:Str→Option Value} {name:Str} {v:Value}
end
theorem qk.some_of {v:V} {o:Option Value} (r:qk (some v) o):∃ u,o=some u∧jl v u:=by
 cases o with
 | none=>exact (show False from r).elim
 | some u=>exact ⟨u,rfl,r⟩
section
variable {P:Program} {w:World} {H H':Hp} {h h':Heap} {a C dx:Addr} {fs fs':List (Str×V)}
theorem am (hok:HOk P w H h) (e:H a=some (.ins C dx fs)):∃ mA,ObjM h a dx C mA∧(∀ f,qk (fs.lookup f) (mA f))∧PySem.Within mA (fs.map (·.1))∧fs.length≤1000∧H dx=some (.own a):=by
 obtain ⟨d,z,ne,ob,mA,n,r,q⟩:=(show Jg P w H h a (.ins C dx fs) from hok a _ e)
 exact ⟨mA,⟨ob,n,ne⟩,r,q,z,d⟩
end
structure Cls (K:PySem.W.Frag) (C:Addr):Prop where
 pg:PySem.W.plainGet K C Str.empty=true
 hd:PySem.W.hasDictIn K C=true
 po:PySem.W.plainOver K C=true
 sa:PySem.W.findIn K (.ref C) "__setattr__"=some (some (.builtin "object.__setattr__"))
theorem Cls.get {K:PySem.W.Frag} {C:Addr} (c:Cls K C) (f:Str):PySem.W.plainGet K C f=true:=c.pg
section
variable {X:Cx} {pins:List (Addr×Obj)} {σ:St} {H:Hp} {s:Shared} {a C dx:Addr} {fs:List (Str×V)} {f:Str} {v:V} {A:Around} {E:Value→Shared→Prop}
end
section
variable {X:Cx} {o e value:Expr} {f:Str} {pos pos' tpos:Pos} {ta tv:TE}
end
section
variable {X:Cx} {pins:List (Addr×Obj)} {σ:St} {H:Hp} {s:Shared} {A:Around} {E:Value→Shared→Prop} {Q:Value→Shared→Prop} {c:Value} {b:Bool}
inductive TyOf (K:PySem.W.Frag) (H:Hp):V→Value→Prop where
 | non:TyOf K H .non (.type "NoneType")
 | bl (x:Bool):TyOf K H (.bl x) (.type "bool")
 | int (i:Int):TyOf K H (.int i) (.type "int")
 | str (x:Str):TyOf K H (.str x) (.type "str")
 | flt (x:UInt64):TyOf K H (.flt x) (.type "float")
 | lst {a:Addr} {xs:List V} (e:H a=some (.lst xs)):TyOf K H (.ref a) (.type "list")
 | frz {a:Addr} {o:Obj} {xs:List V} (e:H a=some (.frz o (.lst xs))):TyOf K H (.ref a) (.type "list")
 | tup {a:Addr} {xs:List V} (e:H a=some (.tup xs)):TyOf K H (.ref a) (.type "tuple")
 | dK {a:Addr} {kvs:List (Key×V)} (e:H a=some (.dK kvs)):TyOf K H (.ref a) (.type "dict")
 | dT {a:Addr} {kvs:List (List Key×V)} (e:H a=some (.dT kvs)):TyOf K H (.ref a) (.type "dict")
 | ins {a C dx:Addr} {fs:List (Str×V)} (e:H a=some (.ins C dx fs)) (cl:Cls K C) (ha:PySem.W.findIn K (.ref C) "__class__"=some (some (.builtin "object.__class__")))
   (hn:PySem.W.specialIn K (.builtin "object.__class__") "__get__"=some (some (.builtin "getset_descriptor.__get__"))) (htk:PySem.W.takesIn K (.builtin "object.__class__")=some true)
   (hm:PySem.W.mroIn K C (.type "object")=some true):TyOf K H (.ref a) (.ref C)
theorem yj {x:V} {u t:Value} (I:Inv X pins σ H s) (rx:jl x u) (ty:TyOf X.K H x t) (e:PySem.W.kitOne X.K t c=some b) (h:∀ tk,Q (.bool b) { s with toks:=tk}) :
  wpAny (model X.prog X.w) A (call (.builtin "isinstance") [u,c]) Q E s:=by
 cases ty with
 | non=>cases (show u=Value.none from rx);exact PySem.W.kia_one PySem.W.kitx_none I.kIn True.intro e (fun z=>nomatch z) h
 | bl y=>cases (show u=Value.bool y from rx);exact PySem.W.kia_one PySem.W.kitx_bool I.kIn True.intro e (fun z=>nomatch z) h
 | int i=>obtain ⟨t,q⟩:=(show ∃ t,u=Value.int i t from rx);cases q;exact PySem.W.kia_one PySem.W.kitx_int I.kIn True.intro e (fun z=>nomatch z) h
 | str y=>obtain ⟨t,q⟩:=(show ∃ t,u=Value.str y t from rx);cases q;exact PySem.W.kia_one PySem.W.kitx_str I.kIn True.intro e (fun z=>nomatch z) h
 | flt y=>obtain ⟨t,q⟩:=(show ∃ t,u=Value.float y t from rx);cases q;exact PySem.W.kia_one PySem.W.kitx_float I.kIn True.intro e (fun z=>nomatch z) h
 | @lst a xs ea =>
  cases (show u=Value.ref a from rx)
  obtain ⟨_,_,n,_,h1⟩:=(show Jg X.prog X.w H s.heap a (.lst xs) from I.hok a _ ea)
  exact PySem.W.kia_one PySem.W.kitx_list I.kIn ⟨_,h1,rfl⟩ e (fun z=>nomatch z) h
 | @frz a ob xs ea =>
  cases (show u=Value.ref a from rx)
  obtain ⟨_,_,_,n,_,h1⟩:=(show Jg X.prog X.w H s.heap a (.frz ob (.lst xs)) from I.hok a _ ea)
  exact PySem.W.kia_one PySem.W.kitx_list I.kIn ⟨_,h1,rfl⟩ e (fun z=>nomatch z) h
 | @tup a xs ea =>
  cases (show u=Value.ref a from rx)
  obtain ⟨_,_,_,p⟩:=(show Jg X.prog X.w H s.heap a (.tup xs) from I.hok a _ ea)
  obtain ⟨o,h1,h2,_⟩:=p
  exact PySem.W.kia_one PySem.W.kitx_tuple I.kIn ⟨o,h1,h2⟩ e (fun z=>nomatch z) h
 | @dK a kvs ea =>
  cases (show u=Value.ref a from rx)
  obtain ⟨_,_,vs,_,p⟩:=(show Jg X.prog X.w H s.heap a (.dK kvs) from I.hok a _ ea)
  obtain ⟨o,es,ep,h1,h2,_⟩:=p
  exact PySem.W.kia_one PySem.W.kitx_dict I.kIn ⟨o,h1,h2.1⟩ e (fun z=>nomatch z) h
 | @dT a kvs ea =>
  cases (show u=Value.ref a from rx)
  obtain ⟨_,_,xs,_,o,es,ep,h1,h2,_⟩:=(show Jg X.prog X.w H s.heap a (.dT kvs) from I.hok a _ ea)
  exact PySem.W.kia_one PySem.W.kitx_dict I.kIn ⟨o,h1,h2.1⟩ e (fun z=>nomatch z) h
 | @ins a C dx fs ea cl ha hn htk hm =>
  cases (show u=Value.ref a from rx)
  obtain ⟨mA,O,_⟩:=am I.hok ea
  obtain ⟨od,J,_⟩:=O.look
  exact PySem.W.kia_one (PySem.W.kitx_own (cl.get _) cl.hd ha hn htk hm) I.kIn J e (fun z=>nomatch z) h
end
end L2
namespace L2
open PySem PySem.Spec PyProof.Rows
structure Room (k:Nat) (A:Around):Prop where
 hd:A.handled=none
 dp:A.depth + 3 * k + 5 < recursionLimit
 un:A.units + 16 * k + 200 < cLine
theorem Room.mono {j k:Nat} {A:Around} (r:Room k A) (h:j≤k):Room j A:=⟨r.hd,by have:=r.dp;omega,by have:=r.un;omega⟩
theorem Room.deeper {k:Nat} {A:Around} (r:Room (k + 1) A) (env:Env):Room k (A.deeper env) :=
 ⟨r.hd,by have:=r.dp;show A.depth + 1 + 3 * k + 5 < _;omega,by have:=r.un;show A.units + 3 + 16 * k + 200 < _;omega⟩
theorem Room.depth {k:Nat} {A:Around} (r:Room k A):A.depth < recursionLimit:=by have:=r.dp;omega
noncomputable def ab9:TA:=fun _ H Q=>Q [] H
noncomputable def ac6 (ta:TE) (tr:TA):TA:=fun σ H Q=>ta σ H fun x H1=>tr σ H1 fun xs H2=>Q (x::xs) H2
section
variable {X:Cx} {e:Expr} {es:List Expr} {te:TE} {t:TA} {pos:Pos}
theorem Kj:PA X [] ab9:=fun _ _ _ _ H Q I h=>Calls.spliced_nil ⟨[],H,I,.nil,h⟩
theorem Qh (ha:PE X e te) (hr:PA X es t) (hs:starEach (e::es) X.env=(false,eval e X.env)::starEach es X.env:=by rfl):PA X (e::es) (ac6 te t):=by
 intro pos pins s σ H Q I h
 rw [hs]
 show wpAny _ _ (spliced ((false,eval e X.env)::backTo pos (starEach es X.env))) _ _ s
 refine Calls.spliced_cons (thn (ha pins s σ H _ I h) fun u s1 ⟨x,H1,I1,r1,q1⟩=>?_)
 exact thn (hr pos pins s1 σ H1 _ I1 q1) fun us s2 ⟨xs,H2,I2,r2,q2⟩=>⟨x::xs,H2,I2,.cons r1 r2,q2⟩
noncomputable def tTup (t:TA):TE:=fun σ H Q=>t σ H fun xs H1=>xs.length≤sizeLine∧∀ p,H1 p=none→Q (.ref p) (upd H1 p (.tup xs))
noncomputable def tLst (t:TA):TE:=fun σ H Q=>t σ H fun xs H1=>xs.length≤sizeLine∧∀ p,H1 p=none→Q (.ref p) (upd H1 p (.lst xs))
theorem a46 {x1} (h:PA X es t):PE X (.Tuple es x1 pos) (tTup t):=by
 intro pins s σ H Q I hq
 refine wpAny_Tuple_spliced (thn (h pos pins s σ H _ I hq) fun us s1 ⟨xs,H1,I1,r,z,q⟩=>⟨by rw [← r.length];exact z,?_⟩)
 have hf:H1 s1.heap.objs.size=none:=I1.hok.fresh (Nat.le_refl _)
 refine ⟨.ref s1.heap.objs.size,upd H1 s1.heap.objs.size (.tup xs),I1.laid (t':=s1.toks) (fun b u e=>Heap.get?_push_of_some _ e) (Nat.le_refl _) ?_,rfl,q _ hf⟩
 exact ⟨z,us,r,⟨_,Heap.get?_push_size _ rfl,rfl,_,rfl⟩⟩
theorem Kk (h:PA X es t):PE X (.List es pos) (tLst t):=by
 intro pins s σ H Q I hq
 refine wpAny_List_spliced (thn (h pos pins s σ H _ I hq) fun us s1 ⟨xs,H1,I1,r,z,q⟩=>⟨by rw [← r.length];exact z,?_⟩)
 have hf:H1 s1.heap.objs.size=none:=I1.hok.fresh (Nat.le_refl _)
 refine ⟨.ref s1.heap.objs.size,upd H1 s1.heap.objs.size (.lst xs),I1.laid (t':=s1.toks) (fun b u e=>Heap.get?_push_of_some _ e) (Nat.le_refl _) ?_,rfl,q _ hf⟩
 exact ⟨z,us,0,r,Heap.get?_push_size _ rfl⟩
end
noncomputable abbrev Sp:=List V→Hp→VK→XK→Prop
noncomputable abbrev CXT:=List Env→Hp→Shared→XK→Value→Shared→Prop
structure Env0 (P:Program) (w:World) (K:PySem.W.Frag) (mg:Str→Option Value) (base:Heap) (A:Around) (outer:List Env) (s:Shared) (H:Hp):Prop where
 frames:A.frames=some outer
 mod:Mod K mg base
 bs:∀ b o,base.get? b=some o→s.heap.get? b=some o∧H b=none
 bsz:base.objs.size≤s.heap.objs.size
 funs:s.heap.FunFrames base outer
 frf:∀ b∈frs outer,H b=none
 hok:HOk P w H s.heap
 bare:AllBare s.gens
noncomputable def CE (outer:List Env) (P:Program) (w:World) (H:Hp) (s:Shared) (Q:VK) (u:Value) (s':Shared):Prop :=
 ∃ v H',s'.os=s.os∧AllBare s'.gens∧Un (frs outer) [] H H' s.heap s'.heap∧HOk P w H' s'.heap∧jl v u∧Q v H'
noncomputable def CR (CX:CXT) (outer:List Env) (P:Program) (w:World) (H:Hp) (s:Shared) (Q:VK) (E:XK) (r:Result) (s':Shared):Prop :=
 match r with
 | .ok (.ret u)=>CE outer P w H s Q u s'
 | .ok _=>False
 | .error e=>CX outer H s E e s'
structure FnOk (P:Program) (w:World) (K:PySem.W.Frag) (mg:Str→Option Value) (base:Heap) (CX:CXT) (k:Nat) (f:Addr) (fd:FuncData) (ps:List Str) (sp:Sp):Prop where
 len:∀ vs H Q E,sp vs H Q E→vs.length=ps.length
 run:∀ (A:Around) (outer:List Env) (s:Shared) (H:Hp) (args:Args) (us:List Value) (vs:List V) (Q:VK) (E:XK),Room k A→Env0 P w K mg base A outer s H→BindsTo s fd args (ps.zip us)→jq vs us→sp vs H Q E →
  codeAny (model P w) A (.call (.ref f) args) (CR CX outer P w H s Q E) s
section
variable {X:Cx} {pins:List (Addr×Obj)} {σ:St} {H:Hp} {s s':Shared}
theorem Inv.env0 (I:Inv X pins σ H s):Env0 X.prog X.w X.K X.mg X.base X.A X.stack s H :=
 ⟨I.ok.frames,I.ok.mod,I.bs,Nat.le_trans I.ok.bsz I.sz,I.stack,I.stkFree,I.hok,I.bare⟩
theorem Inv.after {Q:VK} {u:Value} (I:Inv X pins σ H s) (h:CE X.stack X.prog X.w H s Q u s'):EP X pins σ Q u s':=by
 obtain ⟨v,H',os,bare,un,hok,r,q⟩:=h
 obtain ⟨hh,g,d,t,os'⟩:=s'
 obtain rfl:os'=s.os:=os
 exact ⟨v,H',I.call (h':=hh) (g':=g) (d':=d) (t':=t) (ch:=[]) un hok bare (fun b z=>absurd z (by simp)),r,q⟩
end
noncomputable def Am (sp:Sp) (dvs:List V) (E:XK) (t:TA):TE:=fun σ H Q=>t σ H fun vs H1=>sp (vs++dvs) H1 Q E
noncomputable def Xs (K:PySem.W.Frag) (fd:FuncData) (ps:List Str) (ds:List Value):Prop :=
 ∀ (s:Shared) (us:List Value),K.In s.heap→(us++ds).length=ps.length→BindsTo s fd ⟨us,[]⟩ (ps.zip (us++ds))
theorem Xs.all {K:PySem.W.Frag} {fd:FuncData} {ps:List Str} (h:∀ us:List Value,us.length=ps.length→bindArgs fd ⟨us,[]⟩=pure (ps.zip us)):Xs K fd ps []:=fun s us _ hl=>by
 rw [List.append_nil] at hl ⊢
 exact .of_eq (h us hl)
noncomputable def ve (CX:CXT) (X:Cx) (E:XK):Prop:=∀ (pins:List (Addr×Obj)) (σ:St) (H:Hp) (s:Shared) (e:Value) (s':Shared),Inv X pins σ H s→CX X.stack H s E e s'→X.xe e s'
section
variable {X:Cx} {CX:CXT} {k:Nat} {f C:Addr} {fd:FuncData} {ps:List Str} {sp:Sp} {dvs:List V} {ds:List Value} {E:XK} {x m:Str} {p pos apos:Pos} {e o:Expr} {es:List Expr} {ta:TE} {t:TA}
theorem de {pins:List (Addr×Obj)} {σ:St} {H:Hp} {s:Shared} {Q:VK} {us:List Value} {vs:List V} (F:FnOk X.prog X.w X.K X.mg X.base CX k f fd ps sp) (hr:Room k X.A) (hb:Xs X.K fd ps ds) (hd:jq dvs ds) (hx:ve CX X E)
  (I:Inv X pins σ H s) (r:jq vs us) (h:sp (vs++dvs) H Q E):wpAny (model X.prog X.w) X.A (call (.ref f) us) (EP X pins σ Q) X.xe s:=by
 have r2:jq (vs++dvs) (us++ds):=r.append hd
 have hl:(us++ds).length=ps.length:=by rw [← r2.length];exact F.len _ _ _ _ h
 refine wpAny_call (codeAny_mono (F.run X.A X.stack s H ⟨us,[]⟩ (us++ds) (vs++dvs) Q E hr I.env0 (hb s us I.kIn hl) r2 h) fun r s' hq=>?_)
 cases r with
 | error e=>exact hx pins σ H s e s' I hq
 | ok fl =>
  cases fl with
  | ret u=>exact I.after hq
  | next=>exact False.elim hq
  | brk=>exact False.elim hq
  | cont=>exact False.elim hq
theorem Bq (F:FnOk X.prog X.w X.K X.mg X.base CX k f fd ps sp) (hr:Room k X.A) (hg:Gl X x) (hm:X.mg x=some (.ref f)) (hk:PySem.W.keepIn X.K (.ref f)=true) (hb:Xs X.K fd ps ds) (hd:jq dvs ds) (hx:ve CX X E)
  (ha:PA X (e::es) t) (hdb:(x == ("__debug__":Str))=false:=by decide) (he:starEach (e::es) X.env=(false,eval e X.env)::starEach es X.env:=by rfl) (hpl:(backTo pos (starEach es X.env)).any (·.1)=false:=by rfl) :
  PE X (.Call (.Name x p) (e::es) [] pos) (Am sp dvs E t):=by
 intro pins s σ H Q I h
 refine wpAny_Call_Name_kw (qz I hg hm ?_ hdb)
 refine PySem.W.callWith_K (h₀:=X.base) I.ok.mod.kin hk (thn (ha pos pins s σ H _ I h) fun us s1 ⟨vs,H1,I1,r,q⟩=>⟨I1.kIn,?_⟩) he hpl
 exact de F hr hb hd hx I1 r q
theorem Dn (F:FnOk X.prog X.w X.K X.mg X.base CX k f fd ps sp) (hr:Room k X.A) (hg:Gl X x) (hm:X.mg x=some (.ref f)) (hk:PySem.W.keepIn X.K (.ref f)=true) (hb:Xs X.K fd ps ds) (hd:jq dvs ds) (hx:ve CX X E)
  (hdb:(x == ("__debug__":Str))=false:=by decide):PE X (.Call (.Name x p) [] [] pos) (Am sp dvs E ab9):=by
 intro pins s σ H Q I h
 refine wpAny_Call_Name_kw (qz I hg hm ?_ hdb)
 exact PySem.W.callWith_K0 I.kIn hk (de (us:=[]) F hr hb hd hx I .nil h)
end
section
variable {X:Cx} {CX:CXT} {k:Nat} {f C:Addr} {fd:FuncData} {ps ks:List Str} {sp:Sp} {E:XK} {x m:Str} {p pos apos kpos:Pos} {e o:Expr} {es:List Expr} {kws:List Keyword} {te ta:TE} {t tk:TA} {nm:Option Str}
variable {g:List Value→List Value→List Value} {gV:List V→List V→List V}
end
structure FnScope (N P:List Str) (sc:Scope):Prop where
 kind:sc.kind=.function
 co:sc.isCoroutine=false
 gen:sc.isGenerator=false
 nd:N.Nodup
 pre:N.take P.length=P
 par:∀ x∈P,sc.names.lookup x=some .local∨sc.names.lookup x=some .cell
 nofree:∀ y∈sc.names,y.2≠.free
theorem we {kindOf:Str→Option NameKind} {x:Str}:∀ {binds:List (Str×Value)} {m:Str→Option Value},(∀ v,(x,v)∉binds)→bindL kindOf binds m x=m x
 | [],_,_=>rfl
 | (n,v)::r,m,h=>by
  unfold bindL
  rw [we fun w hw=>h w (List.mem_cons_of_mem _ hw)]
  split
  ·have:x≠n:=by rintro rfl;exact h v List.mem_cons_self
   simp [this]
  ·rfl
theorem wc {kindOf:Str→Option NameKind} {x:Str}:∀ {binds:List (Str×Value)} {m:Str→Option Value},(∀ v,(x,v)∉binds)→bindC kindOf binds m x=m x
 | [],_,_=>rfl
 | (n,v)::r,m,h=>by
  unfold bindC
  rw [wc fun w hw=>h w (List.mem_cons_of_mem _ hw)]
  split
  ·rfl
  ·have:x≠n:=by rintro rfl;exact h v List.mem_cons_self
   simp [this]
theorem wd {kindOf:Str→Option NameKind} {x:Str} {v:Value}:∀ {P:List Str} {vs:List Value} {i:Nat} {m:Str→Option Value},P.Nodup→P[i]? =some x→vs[i]? =some v→kindOf x=some .local →
  bindL kindOf (P.zip vs) m x=some v
 | [],_,_,_,_,h,_,_=>by simp at h
 | _::_,[],_,_,_,_,h,_=>by simp at h
 | p::P,w::vs,0,m,nd,h1,h2,hk=>by
  simp at h1 h2;subst h1;subst h2
  show bindL kindOf ((p,w)::P.zip vs) m p=_
  unfold bindL
  rw [we fun v hv=>(List.nodup_cons.mp nd).1 (List.of_mem_zip hv).1,if_pos hk]
  simp
 | p::P,w::vs,i + 1,m,nd,h1,h2,hk=>by
  show bindL kindOf ((p,w)::P.zip vs) m x=_
  unfold bindL
  exact wd (i:=i) (List.nodup_cons.mp nd).2 (by simpa using h1) (by simpa using h2) hk
theorem wb {kindOf:Str→Option NameKind} {x:Str} {v:Value}:∀ {P:List Str} {vs:List Value} {i:Nat} {m:Str→Option Value},P.Nodup→P[i]? =some x→vs[i]? =some v→kindOf x≠some .local →
  bindC kindOf (P.zip vs) m x=some v
 | [],_,_,_,_,h,_,_=>by simp at h
 | _::_,[],_,_,_,_,h,_=>by simp at h
 | p::P,w::vs,0,m,nd,h1,h2,hk=>by
  simp at h1 h2;subst h1;subst h2
  show bindC kindOf ((p,w)::P.zip vs) m p=_
  unfold bindC
  rw [wc fun v hv=>(List.nodup_cons.mp nd).1 (List.of_mem_zip hv).1,if_neg hk]
  simp
 | p::P,w::vs,i + 1,m,nd,h1,h2,hk=>by
  show bindC kindOf ((p,w)::P.zip vs) m x=_
  unfold bindC
  exact wb (i:=i) (List.nodup_cons.mp nd).2 (by simpa using h1) (by simpa using h2) hk
noncomputable def start (N:List Str) (vs:List V):St:=vs.map some++List.replicate (N.length - vs.length) none
noncomputable def X9 (CX:CXT) (P:Program) (w:World) (K:PySem.W.Frag) (mg:Str→Option Value) (base:Heap) (N:List Str) (qual:Str) (scope:Scope) (f:Addr) (cd:Value) (A:Around) (outer:List Env) (s:Shared) (H:Hp) (E:XK):Cx where
 prog:=P
 w:=w
 K:=K
 mg:=mg
 base:=base
 A:=A.deeper (envOfC qual scope s.heap.objs.size f cd)
 N:=N
 s₀:=s
 H₀:=H
 env:=envOfC qual scope s.heap.objs.size f cd
 outer:=outer
 stack:=envOfC qual scope s.heap.objs.size f cd::outer
 ex:=[]
 calm:=true
 fn:=fun _=>true
 pn:=[]
 xe:=fun e s'=>wpAny (model P w) (A.deeper (envOfC qual scope s.heap.objs.size f cd)) (leaving (envOfC qual scope s.heap.objs.size f cd) e) (fun _ s''=>CX outer H s E e s'') (fun e' s''=>CX outer H s E e' s'') s'
theorem kl {sc:Scope} {n:Nat} {x:Str} (h:sc.names.lookup x=some .cell):∃ c,(cellsFrom n sc.names []).lookup x=some c:=by
 have q:=PySem.W.cellsFrom_some sc.names n [] (.inl h)
 exact Option.isSome_iff_exists.mp q
theorem ei {CX:CXT} {P:Program} {w:World} {K:PySem.W.Frag} {mg:Str→Option Value} {base:Heap} {N ps:List Str} {qual:Str} {scope:Scope} {f:Addr} {cd:Value} {A:Around} {outer:List Env} {s s1:Shared} {H:Hp} {E:XK} {us:List Value} {vs:List V}
  (S:FnScope N ps scope) (hd:A.handled=none) (e0:Env0 P w K mg base A outer s H) (hl:vs.length=ps.length) (r:jq vs us)
  (x:InCallC s s.heap.objs.size (bindL (envOfC qual scope s.heap.objs.size f cd).kindOf (ps.zip us) fun _=>none) (cellsFrom (s.heap.objs.size + 1) scope.names []) (bindC (envOfC qual scope s.heap.objs.size f cd).kindOf (ps.zip us) fun _=>none) s1) :
  Inv (X9 CX P w K mg base N qual scope f cd A outer s H E) [] (start N vs) H s1:=by
 have hpl:ps.length≤N.length:=by have:=congrArg List.length S.pre;rw [List.length_take] at this;omega
 obtain ⟨h1,tk,rfl,hk⟩:=x.done
 have noA:∀ b:Addr,b∉(X9 CX P w K mg base N qual scope f cd A outer s H E).ex:=fun b z=>absurd (show b∈([]:List Addr) from z) (by simp)
 refine ⟨⟨e0.mod,S.kind,rfl,rfl,Nat.le_refl _,fun y z c h1 h2=>?_,fun y hy=>?_,fun y c _ h=>?_,fun _=>hd,Around.frames_deeper e0.frames,.inr ⟨rfl,rfl⟩,fun b z=>absurd z (noA b),e0.bs,e0.bsz,fun b _ _=>noA b,fun b z=>absurd z (noA b),e0.funs,e0.frf⟩,
  rfl,e0.bare,Un.kept hk,⟨_,x.toInCall.ns,fun i y v h1 h2 h3=>?_⟩,fun y c h=>⟨_,x.cell y c h⟩,e0.hok.fresh (Nat.le_refl _),fun y c h=>?_,fun p hp=>absurd (show p∈([]:List (Addr×Obj)) from hp) (by simp),e0.hok.kept hk,?_⟩
 ·exact name_of_addr x.apart (PySem.mem_of_lookup h1) (PySem.mem_of_lookup h2)
 ·have hy:scope.names.lookup y=some .cell∨scope.names.lookup y=some .free:=hy
  rcases hy with hy | hy
  ·exact kl hy
  ·exact absurd rfl (S.nofree _ (PySem.mem_of_lookup hy))
 ·exact Nat.le_of_lt (x.above y c (PySem.mem_of_lookup h))
 ·have hi:i < vs.length:=by
   unfold start at h2
   by_cases hi:i < vs.length
   ·exact hi
   ·rw [List.getElem?_append_right (by simpa using hi)] at h2
    rw [List.getElem?_replicate] at h2
    split at h2 <;> cases h2
  have ha:vs[i]? =some v:=by
   unfold start at h2
   rw [List.getElem?_append_left (by simpa using hi),List.getElem?_map] at h2
   cases e:vs[i]? with
   | none=>rw [e] at h2;cases h2
   | some a=>rw [e] at h2;cases h2;rfl
  obtain ⟨u,hu,rv⟩:=r.get ha
  have hp:ps[i]? =some y:=by
   rw [← S.pre,List.getElem?_take_of_lt (by omega)];exact h1
  have ndP:ps.Nodup:=by rw [← S.pre];exact S.nd.sublist (List.take_sublist _ _)
  refine ⟨u,rv,?_⟩
  rcases S.par y (List.mem_of_getElem? hp) with k | k
  ·exact .inl ⟨k,wd ndP hp hu k⟩
  ·obtain ⟨c,e⟩:=kl (n:=s.heap.objs.size + 1) k
   refine .inr ⟨.inl k,c,e,?_⟩
   have q:=x.cell y c e
   rw [wb ndP hp hu (by show scope.names.lookup y≠_;rw [k];decide)] at q
   exact q
 ·exact e0.hok.fresh (Nat.le_of_lt (x.above y c (PySem.mem_of_lookup h)))
 ·unfold start
  show _=N.length
  rw [List.length_append,List.length_map,List.length_replicate]
  omega
theorem ai6 {CX:CXT} {P:Program} {w:World} {K:PySem.W.Frag} {mg:Str→Option Value} {base:Heap} {k:Nat} {f:Addr} {name qual:Str} {params:Arguments} {body:List Stmt} {scope:Scope} {dV kV doc pm cdv ct oc:Value} {an od:Option Addr}
  {osl:Array (Option Value)} {N ps:List Str} {sp:Sp} (lk:K.lookup f=some ⟨oc,od,.func (PySem.W.fnOf name qual params body scope dV kV doc pm an cdv ct),osl⟩) (hcd:PySem.W.codeIn K cdv qual=true) (S:FnScope N ps scope)
  (len:∀ vs H Q E,sp vs H Q E→vs.length=ps.length)
  (hbody:∀ (A:Around) (outer:List Env) (s:Shared) (H:Hp) (vs:List V) (Q:VK) (E:XK),Room k (A.deeper (envOfC qual scope s.heap.objs.size f cdv))→sp vs H Q E →
   ∃ t,PSs (X9 CX P w K mg base N qual scope f cdv A outer s H E) body t∧t { nx:=fun _ H'=>Q .non H',rt:=Q} (start N vs) H) :
  FnOk P w K mg base CX (k + 1) f (PySem.W.fnOf name qual params body scope dV kV doc pm an cdv ct) ps sp:=by
 refine ⟨len,fun A outer s H args us vs Q E hr e0 hb r hsp=>?_⟩
 have hl:=len _ _ _ _ hsp
 have KX:K.In s.heap:=e0.mod.kin.keeps fun b o e=>(e0.bs b o e).1
 have lim:s.heap.NoLimit:=e0.mod.nolimit.keeps fun b o e=>(e0.bs b o e).1
 have hkind:∀ y∈ps.zip us,scope.names.lookup y.1=some .local∨(scope.names.lookup y.1=some .cell∧((cellsFrom (s.heap.objs.size + 1) scope.names []).lookup y.1).isSome=true):=fun ⟨n,v⟩ hy=>by
  rcases S.par n (List.of_mem_zip hy).1 with q | q
  ·exact .inl q
  ·exact .inr ⟨q,PySem.W.cellsFrom_some _ _ _ (.inl q)⟩
 refine codeAny_call_function hr.depth (KX _ _ lk) rfl S.co S.gen rfl (PySem.W.codeRec_of KX hcd) (hb _ _ _ _ ?_)
 refine wpAny_newFunctionEnv_cells S.kind hkind fun env he s1 x=>?_
 subst he
 refine ⟨lim.keeps x.toInCall.keep,codeAny_func ?_⟩
 obtain ⟨t,ht,hq⟩:=hbody A outer s H vs Q E (hr.deeper _) hsp
 have I:Inv (X9 CX P w K mg base N qual scope f cdv A outer s H E) [] (start N vs) H s1:=ei S hr.hd e0 hl r x
 refine wpAny_mono (ht [] s1 (start N vs) H _ I hq) (fun fl s' hs=>?_) fun e s' hs=>hs
 have fin:∀ {σ':St} {H':Hp} {v:V} {u:Value},Inv (X9 CX P w K mg base N qual scope f cdv A outer s H E) [] σ' H' s'→jl v u→Q v H'→CE outer P w H s Q u s' :=
  fun {σ' H' v u} J rv q=>⟨v,H',J.os,J.bare,J.base,J.hok,rv,q⟩
 cases fl with
 | ret u =>
  obtain ⟨v,σ',H',J,rv,q⟩:=hs
  exact fin J rv q
 | next =>
  obtain ⟨σ',H',J,q⟩:=hs
  exact fin (v:=V.non) (u:=Value.none) J rfl q
 | brk =>
  obtain ⟨_,_,_,q⟩:=hs
  exact False.elim q
 | cont =>
  obtain ⟨_,_,_,q⟩:=hs
  exact False.elim q
end L2
namespace L2
open PySem PySem.Spec PyProof.Rows
section
variable {X:Cx} {x:Str} {p pos:Pos} {e:Expr} {es:List Expr} {t:TA} {id T:String} {r:List V→Hp→VK→Prop}
noncomputable def tCB (r:List V→Hp→VK→Prop) (t:TA):TE:=fun σ H Q=>t σ H fun vs H1=>r vs H1 Q
theorem Vu (hc:ye X (.builtin id) r) (hg:Gl X x) (hm:X.mg x=none) (hv:bootBuiltins x=some (.builtin id)) (ha:PA X (e::es) t) (hn:x≠"__name__":=by decide) (hdb:(x == ("__debug__":Str))=false:=by decide)
  (he:starEach (e::es) X.env=(false,eval e X.env)::starEach es X.env:=by rfl) (hpl:(backTo pos (starEach es X.env)).any (·.1)=false:=by rfl):PE X (.Call (.Name x p) (e::es) [] pos) (tCB r t):=by
 intro pins s σ H Q I h
 refine wpAny_Call_Name_kw (Y9 I hg hm hv ?_ hn hdb)
 exact PyProof.Rows.callWith_builtin1 (thn (ha pos pins s σ H _ I h) fun us s1 ⟨vs,H1,I1,r1,q1⟩=>hc pins s1 σ H1 vs us Q I1 r1 q1) he hpl
theorem Fj (hc:ye X (.type T) r) (hg:Gl X x) (hm:X.mg x=none) (hv:bootBuiltins x=some (.type T)) (ha:PA X (e::es) t) (hn:x≠"__name__":=by decide) (hdb:(x == ("__debug__":Str))=false:=by decide)
  (he:starEach (e::es) X.env=(false,eval e X.env)::starEach es X.env:=by rfl) (hpl:(backTo pos (starEach es X.env)).any (·.1)=false:=by rfl):PE X (.Call (.Name x p) (e::es) [] pos) (tCB r t):=by
 intro pins s σ H Q I h
 refine wpAny_Call_Name_kw (Y9 I hg hm hv ?_ hn hdb)
 exact PyProof.Rows.callWith_type1 (thn (ha pos pins s σ H _ I h) fun us s1 ⟨vs,H1,I1,r1,q1⟩=>hc pins s1 σ H1 vs us Q I1 r1 q1) he hpl
end
end L2
namespace HT
open PySem PyProof.Rows
section
open PySem.SeqAt
open PySem.AutoSeq1 (wpAny_loadPart')
open PySem.MeetsSeq PySem.MeetsSeq2 PySem.MeetsSeq3
end
section
variable {prog:Program} {w:World} {A:Around} {E:Value→Shared→Prop} {s:Shared}
theorem cat_tup {t b:Addr} {vs ws:List Value} {Q:Value→Shared→Prop} (ht:IsTup s.heap t vs.toArray) (hb:IsTup s.heap b ws.toArray) (hv:vs≠[])
  (h1:ws=[]→Q (.ref t) s) (h2:ws≠[]→Q (.ref s.heap.objs.size) { s with heap:=s.heap.push { cls:=.type "tuple",data:=.seq (vs++ws).toArray}})
  (hsz:vs.length + ws.length≤sizeLine):wpAny (model prog w) A (binaryOp .Add (.ref t) (.ref b)) Q E s:=by
 obtain ⟨⟨cls,dd,data,sl⟩,ho,hc,n,hd⟩:=id ht
 obtain ⟨⟨cls2,dd2,data2,sl2⟩,ho2,hc2,n2,hd2⟩:=id hb
 simp only at hc hd hc2 hd2
 subst hc hd hc2 hd2
 have e:vs.toArray++ws.toArray=(vs++ws).toArray:=by simp
 by_cases hw:ws=[]
 ·exact concat_meets ⟨_,ho,rfl⟩ ⟨_,ho2,rfl⟩ noFill_tuple_add seq_tuple_add PySem.F.slot_tuple_add PySem.F.entry_tuple_add (PySem.F.args_tuple_add_2 _ _)
   (tuple_addW1 t b vs.toArray ws.toArray n n2 dd dd2 sl sl2 (by simpa using hv) (by simp [hw])) ⟨ho,ho2,h1 hw⟩
 ·refine concat_meets ⟨_,ho,rfl⟩ ⟨_,ho2,rfl⟩ noFill_tuple_add seq_tuple_add PySem.F.slot_tuple_add PySem.F.entry_tuple_add (PySem.F.args_tuple_add_2 _ _)
   (tuple_addW2 t b vs.toArray ws.toArray n n2 dd dd2 sl sl2 (by simpa using hv) (by simpa using hw) (by rw [List.size_toArray,List.size_toArray];exact hsz)) ⟨ho,ho2,?_⟩
  rw [e]
  exact h2 hw
noncomputable def sIx (n d:Nat):Option Int→Nat
 | none=>d
 | some v=>if v < 0 then (v + (n:Int)).toNat else min v.toNat n
theorem a33 (n d:Nat) (hd:d≤n) (o:Option Int):sIx n d o≤n:=by
 cases o with
 | none=>exact hd
 | some v =>
  show (if v < 0 then (v + (n:Int)).toNat else min v.toNat n)≤n
  by_cases hv:v < 0
  ·rw [if_pos hv];omega
  ·rw [if_neg hv];exact Nat.min_le_right _ _
theorem fg (v:Int) (n d:Nat):(if v < 0 then max (v + (n:Int)) 0 else min v (n:Int))=((sIx n d (some v):Nat):Int):=by
 show (if v < 0 then max (v + (n:Int)) 0 else min v (n:Int))=(((if v < 0 then (v + (n:Int)).toNat else min v.toNat n):Nat):Int)
 by_cases hv:v < 0
 ·simp only [if_pos hv];omega
 ·simp only [if_neg hv];omega
theorem gm (lo hi:Option Int) (n:Nat):Builtin.Slice.sliceAdjust lo hi 1 (n:Int)=(((sIx n 0 lo:Nat):Int),((sIx n n hi:Nat):Int)):=by
 have h1:¬ ((1:Int) < 0):=by omega
 unfold Builtin.Slice.sliceAdjust
 simp only [h1,if_false]
 refine Prod.ext ?_ ?_
 ·cases lo with
  | none=>rfl
  | some v=>exact fg v n 0
 ·cases hi with
  | none=>rfl
  | some v=>exact fg v n n
theorem Kl (i j:Nat):Builtin.Slice.slicePlaces (i:Int) (j:Int) 1=j - i:=by
 unfold Builtin.Slice.slicePlaces
 have h1:(1:Int) > 0:=by omega
 simp only [h1,if_true,Int.ediv_one]
 split <;> omega
theorem xz {v:Value} {o:Option Int} {Q:Option Int→Shared→Prop} (p:IsPart v o) (h:Q o s):wpAny (model prog w) A (Builtin.Slice.slicePartIndex v) Q E s:=by
 cases p with
 | none=>exact slicePart_none h
 | int i t=>exact slicePart_int h
theorem qf {sl:Addr} {vl vu:Value} {lo hi:Option Int} {n:Nat} {Q:Int×Int×Nat→Shared→Prop} (hs:s.heap.IsSliceOf sl vl vu .none) (pl:IsPart vl lo) (pu:IsPart vu hi)
  (h:Q (((sIx n 0 lo:Nat):Int),1,sIx n n hi - sIx n 0 lo) s):wpAny (model prog w) A (Builtin.Slice.sliceApplied (.ref sl) (pure (n:Int))) Q E s:=by
 obtain ⟨os,hos,hcs,hds⟩:=id hs
 unfold Builtin.Slice.sliceApplied Builtin.Slice.sliceFields
 refine wpAny_bind (wpAny_bind (wpAny_field hos hds (x:=vl) rfl (wpAny_bind (wpAny_field hos hds (x:=vu) rfl (wpAny_bind (wpAny_field hos hds (x:=.none) rfl (wpAny_pure ?_)))))))
 refine wpAny_bind (slicePart_none ?_)
 show wpAny _ _ (if ((1:Int) == 0)=true then _ else _) _ _ s
 rw [if_neg (by decide)]
 refine wpAny_bind (xz pl (wpAny_bind (xz pu (wpAny_bind (wpAny_pure ?_)))))
 show wpAny _ _ (match Builtin.Slice.sliceAdjust lo hi 1 (n:Int) with | (lo,hi)=>pure (lo,(1:Int),Builtin.Slice.slicePlaces lo hi 1)) _ _ s
 rw [gm lo hi n]
 show wpAny _ _ (pure (((sIx n 0 lo:Nat):Int),(1:Int),Builtin.Slice.slicePlaces ((sIx n 0 lo:Nat):Int) ((sIx n n hi:Nat):Int) 1)) _ _ s
 rw [Kl]
 exact wpAny_pure h
theorem Dy (xs:Array Value) (i k:Nat):((List.range k).filterMap fun (m:Nat)=>xs[((i:Int) + (m:Int) * 1).toNat]?).toArray=((xs.toList.drop i).take k).toArray:=by
 have e:(fun (m:Nat)=>xs[((i:Int) + (m:Int) * 1).toNat]?)=fun m=>xs[i + m]?:=by
  funext m
  have:((i:Int) + (m:Int) * 1).toNat=i + m:=by omega
  rw [this]
 rw [e]
 have:=pick_run xs i k
 rw [List.filterMap_map] at this
 have e2:((fun x=>xs[x]?) ∘ fun x=>i + x)=fun m=>xs[i + m]?:=rfl
 rw [e2] at this
 rw [this]
theorem getItem_tuple_cut {t sl:Addr} {items:Array Value} {vl vu:Value} {lo hi:Option Int} {Q:Value→Shared→Prop} (ht:IsTup s.heap t items) (hs:s.heap.IsSliceOf sl vl vu .none) (pl:IsPart vl lo) (pu:IsPart vu hi)
  (hw:¬ (sIx items.size 0 lo=0∧sIx items.size items.size hi=items.size))
  (h:Q (.ref s.heap.objs.size) { s with heap:=s.heap.push { cls:=.type "tuple",data:=.seq ((items.toList.drop (sIx items.size 0 lo)).take (sIx items.size items.size hi - sIx items.size 0 lo)).toArray}})
  (hsz:items.size≤sizeLine):wpAny (model prog w) A (getItem (.ref t) (.ref sl)) Q E s:=by
 have htake:sizeOk (.seq ((items.toList.drop (sIx items.size 0 lo)).take (sIx items.size items.size hi - sIx items.size 0 lo)).toArray):=by
  show ((items.toList.drop (sIx items.size 0 lo)).take (sIx items.size items.size hi - sIx items.size 0 lo)).toArray.size≤sizeLine
  rw [List.size_toArray,List.length_take,List.length_drop,Array.length_toList]
  omega
 have hj:sIx items.size items.size hi≤items.size:=a33 _ _ (Nat.le_refl _) hi
 obtain ⟨os,hos,hcs,hds⟩:=id hs
 have hTs:s.TypeIs (.ref sl) "slice":=⟨os,hos,hcs⟩
 unfold getItem
 try with_reducible refine wpAny_holding ?_
 first | refine wpAny_bind (wpAny_pure ?_) | skip
 refine wpAny_bind (wpAny_sequenceKey ht.typeIs (by decide) ?_)
 refine wpAny_bind (wpAny_callSpecial?_slot (name:=Str.ofString "__getitem__") ht.typeIs PyProof.Rows.slot_tuple_getitem
  (wpAny_call_entry PyProof.Rows.slot_tuple_getitem ht.typeIs entry_tuple_getitem ?_ (args_tuple_getitem _ _)))
 show wpAny _ _ (Builtin.Tuple.tupleItemsOf (.ref t) >>= _) _ _ s
 refine wpAny_bind (tupleItemsOf_ ht ?_)
 refine wpAny_bind (wpAny_typeOf hTs ?_)
 rw [if_pos (by decide)]
 refine wpAny_bind (qf hs pl pu ?_)
 have hno:¬ ((((sIx items.size 0 lo:Nat):Int) == 0 && (1:Int) == 1 && (sIx items.size items.size hi - sIx items.size 0 lo) == items.size)=true):=by
  intro q
  rw [Bool.and_eq_true,Bool.and_eq_true] at q
  have q1:((sIx items.size 0 lo:Nat):Int)=0:=eq_of_beq q.1.1
  have q2:sIx items.size items.size hi - sIx items.size 0 lo=items.size:=eq_of_beq q.2
  exact hw ⟨by omega,by omega⟩
 show wpAny _ _ (if (((sIx items.size 0 lo:Nat):Int) == 0 && (1:Int) == 1 && (sIx items.size items.size hi - sIx items.size 0 lo) == items.size)=true then _ else _) _ _ s
 rw [if_neg hno,Dy]
 first
  | exact wpAny_bind (m:=Builtin.Tuple.tupleExact _) (wpAny_newObj_type (wpAny_pure ⟨_,rfl,wpAny_pure h⟩) htake)
  | exact wpAny_bind (m:=Builtin.Tuple.tupleExact _) (wpAny_newObj_type (wpAny_bind (wpAny_pure (wpAny_pure ⟨_,rfl,wpAny_pure h⟩))) htake)
  | exact wpAny_bind (wpAny_bind (m:=Builtin.Tuple.tupleExact _) (wpAny_newObj_type (wpAny_pure (wpAny_pure ⟨_,rfl,wpAny_pure h⟩)) htake))
  | exact wpAny_bind (wpAny_bind (m:=Builtin.Tuple.tupleExact _) (wpAny_newObj_type (wpAny_pure ⟨_,rfl,wpAny_pure h⟩) htake))
end
end HT
namespace L2
open PySem PySem.Spec PyProof.Rows
noncomputable abbrev TO:=St→Hp→(Option Int→Hp→Prop)→Prop
noncomputable def PO (X:Cx) (e:Option Expr) (t:TO):Prop :=
 ∀ (pins:List (Addr×Obj)) (s:Shared) (σ:St) (H:Hp) (Q:Option Int→Hp→Prop),Inv X pins σ H s→t σ H Q →
  wpAny (model X.prog X.w) X.A (evalPart e X.env) (fun u s'=>∃ o H',Inv X pins σ H' s'∧IsPart u o∧Q o H') X.xe s
noncomputable def bu:TO:=fun _ H Q=>Q none H
noncomputable def ab7 (t:TE):TO:=fun σ H Q=>t σ H fun x H1=>∃ i,x=.int i∧Q (some i) H1
section
variable {X:Cx} {e:Expr} {te:TE} {lo hi:Option Expr} {tl th:TO} {pos p2:Pos}
theorem By:PO X none bu:=by
 intro pins s σ H Q I h
 rw [evalPart_none]
 exact wpAny_pure ⟨none,H,I,.none,h⟩
theorem Bz (h:PE X e te):PO X (some e) (ab7 te):=by
 intro pins s σ H Q I hw
 rw [evalPart_some]
 refine thn (h pins s σ H _ I hw) fun u s1 ⟨x,H1,I1,r1,q1⟩=>?_
 obtain ⟨i,rfl,q⟩:=q1
 obtain ⟨t,rfl⟩:=r1
 exact ⟨some i,H1,I1,.int i t,q⟩
noncomputable def SlR (X:Cx) (r:V→Option Int→Option Int→Hp→VK→Prop):Prop :=
 ∀ (pins:List (Addr×Obj)) (s:Shared) (σ:St) (H:Hp) (x:V) (v vl vu:Value) (lo hi:Option Int) (sl:Addr) (Q:VK),Inv X pins σ H s→jl x v→s.heap.IsSliceOf sl vl vu .none→IsPart vl lo→IsPart vu hi→r x lo hi H Q →
  ∃ T id,typeLookup (.type T) "__getitem__"=pure (some (.builtin id))∧s.TypeIs v T∧wpAny (model X.prog X.w) X.A (getItem v (.ref sl)) (EP X pins σ Q) X.xe s
theorem SlR.or {r r':V→Option Int→Option Int→Hp→VK→Prop} (h:SlR X r) (h':SlR X r'):SlR X (fun x lo hi H Q=>r x lo hi H Q∨r' x lo hi H Q):=by
 intro pins s σ H x v vl vu lo hi sl Q I rx hs pl pu q
 rcases q with q | q
 ·exact h pins s σ H x v vl vu lo hi sl Q I rx hs pl pu q
 ·exact h' pins s σ H x v vl vu lo hi sl Q I rx hs pl pu q
noncomputable def tSl (r:V→Option Int→Option Int→Hp→VK→Prop) (te:TE) (tl th:TO):TE:=fun σ H Q=>te σ H fun x H1=>tl σ H1 fun l H2=>th σ H2 fun u H3=>r x l u H3 Q
theorem Dv {r:V→Option Int→Option Int→Hp→VK→Prop} (hr:SlR X r) (he:PE X e te) (hl:PO X lo tl) (hu:PO X hi th):PE X (.Subscript e (.Slice lo hi none p2) pos) (tSl r te tl th):=by
 intro pins s σ H Q I h
 refine Subscript_ (thn (he pins s σ H _ I h) fun v s1 ⟨x,H1,I1,r1,q1⟩=>?_)
 refine wpAny_Slice (thn (hl pins s1 σ H1 _ I1 q1) fun vl s2 ⟨l,H2,I2,pl,q2⟩=>thn (hu pins s2 σ H2 _ I2 q2) fun vu s3 ⟨u,H3,I3,pu,q3⟩=>?_)
 rw [evalPart_none]
 refine wpAny_pure ?_
 have I4:Inv X pins σ H3 { s3 with heap:=s3.heap.push { cls:=.type "slice",data:=.fields #[vl,vu,.none]}}:=I3.kept (t':=s3.toks) fun b ob q=>Heap.get?_push_of_some _ q
 obtain ⟨T,id,hT,ht,hg⟩:=hr pins { s3 with heap:=s3.heap.push { cls:=.type "slice",data:=.fields #[vl,vu,.none]}} σ H3 x v vl vu l u s3.heap.objs.size Q I4 r1 (Heap.IsSliceOf.new ..) pl pu q3
 show wpAny (model X.prog X.w) X.A (subscriptTail e (.Slice lo hi none p2) v (.ref s3.heap.objs.size)) (EP X pins σ Q) X.xe { s3 with heap:=s3.heap.push { cls:=.type "slice",data:=.fields #[vl,vu,.none]}}
 exact tail_any (ops:=[.ref s3.heap.objs.size,v]) ht hT hg (by with_unfolding_all rfl)
noncomputable def kn (xs:List V) (lo hi:Option Int):List V:=(xs.drop (HT.sIx xs.length 0 lo)).take (HT.sIx xs.length xs.length hi - HT.sIx xs.length 0 lo)
theorem Qq (xs:List V) (lo hi:Option Int):(kn xs lo hi).length≤xs.length:=by
 unfold kn
 rw [List.length_take,List.length_drop]
 omega
noncomputable def rSlT (K:PySem.W.Frag):V→Option Int→Option Int→Hp→VK→Prop:=fun x lo hi H Q=>∃ a xs,x=.ref a∧SqT K H a xs ∧
 ¬ (HT.sIx xs.length 0 lo=0∧HT.sIx xs.length xs.length hi=xs.length)∧∀ p,H p=none→Q (.ref p) (upd H p (.tup (kn xs lo hi)))
theorem a30:SlR X (rSlT X.K):=by
 intro pins s σ H x v vl vu lo hi sl Q I rx hs pl pu h
 obtain ⟨a,xs,rfl,hx,hw,q⟩:=h
 cases rx
 obtain ⟨its,r,ht,hz⟩:=I.tuple hx
 have hlen:its.toArray.size=xs.length:=by rw [List.size_toArray];exact r.length.symm
 refine ⟨"tuple",_,PyProof.Rows.slot_tuple_getitem.lookup,ht.typeIs,?_⟩
 refine HT.getItem_tuple_cut ht hs pl pu (by rw [hlen];exact hw) ?_ (by rw [hlen];exact hz)
 rw [hlen]
 refine ⟨.ref s.heap.objs.size,_,I.laid (t':=s.toks) (o:=.tup (kn xs lo hi)) (fun b ob q=>Heap.get?_push_of_some _ q) (Nat.le_refl _) ?_,rfl,q _ (I.hok.fresh (Nat.le_refl _))⟩
 exact ⟨Nat.le_trans (Qq xs lo hi) hz,_,(r.drop (HT.sIx xs.length 0 lo)).take (HT.sIx xs.length xs.length hi - HT.sIx xs.length 0 lo),IsTup.new _ _⟩
noncomputable def ae2 (K:PySem.W.Frag):R2:=fun x y H Q=>∃ a b xs ys,x=.ref a∧y=.ref b∧SqT K H a xs∧SqT K H b ys∧xs≠[]∧xs.length + ys.length≤sizeLine ∧
 (ys=[]→Q (.ref a) H)∧(ys≠[]→∀ p,H p=none→Q (.ref p) (upd H p (.tup (xs++ys))))
theorem jq.nil_iff {xs:List V} {us:List Value} (r:jq xs us):us=[]↔xs=[]:=by
 cases r with
 | nil=>simp
 | cons _ _=>simp
theorem Bl:OpR X (binaryOp .Add) (ae2 X.K):=by
 intro pins s σ H x y v u Q I rx ry h
 obtain ⟨a,b,xs,ys,rfl,rfl,ha,hb,hx,hz,q1,q2⟩:=h
 cases rx
 cases ry
 obtain ⟨its,r1,p1,_⟩:=I.tuple ha
 obtain ⟨its2,r2,p2,_⟩:=I.tuple hb
 refine HT.cat_tup p1 p2 (fun z=>hx (r1.nil_iff.mp z)) (fun z=>⟨.ref a,H,I,rfl,q1 (r2.nil_iff.mp z)⟩) (fun z=>?_) (by rw [← r1.length,← r2.length];exact hz)
 refine ⟨.ref s.heap.objs.size,_,I.laid (t':=s.toks) (o:=.tup (xs++ys)) (fun b ob q=>Heap.get?_push_of_some _ q) (Nat.le_refl _) ?_,rfl,q2 (fun w=>z (r2.nil_iff.mpr w)) _ (I.hok.fresh (Nat.le_refl _))⟩
 exact ⟨by rw [List.length_append];exact hz,_,r1.append r2,IsTup.new _ _⟩
end
end L2
namespace L2
open PySem PySem.Spec PyProof.Rows
noncomputable def ixN (n:Nat) (i:Int):Option Nat:=if 0≤i then (if i < n then some i.toNat else none) else if -(n:Int)≤i then some (i + n).toNat else none
noncomputable def atI {α:Type} (xs:List α) (i:Int):Option α:=(ixN xs.length i).bind fun j=>xs[j]?
theorem f6 {n:Nat} {i:Int} {j:Nat} (h:ixN n i=some j):seqIndex? i n=some j∧j < n∧ -(n:Int)≤i∧i < n:=by
 unfold ixN at h
 by_cases h0:0≤i
 ·rw [if_pos h0] at h
  by_cases h1:i < n
  ·rw [if_pos h1] at h
   have e:i.toNat=j:=Option.some.inj h
   exact ⟨by rw [seqIndex_of h0 h1,e],by omega,by omega,h1⟩
  ·rw [if_neg h1] at h;cases h
 ·rw [if_neg h0] at h
  by_cases h1:-(n:Int)≤i
  ·rw [if_pos h1] at h
   have e:(i + n).toNat=j:=Option.some.inj h
   exact ⟨by rw [seqIndex_neg (by omega) h1,e],by omega,h1,by omega⟩
  ·rw [if_neg h1] at h;cases h
theorem vi {α:Type} {xs:List α} {i:Int} {v:α} (h:atI xs i=some v):∃ j,seqIndex? i xs.length=some j∧xs[j]? =some v∧j < xs.length∧ -(xs.length:Int)≤i∧i < xs.length:=by
 unfold atI at h
 cases e:ixN xs.length i with
 | none=>rw [e] at h;cases h
 | some j =>
  rw [e] at h
  obtain ⟨h1,h2,h3,h4⟩:=f6 e
  exact ⟨j,h1,h,h2,h3,h4⟩
noncomputable def F7 (b:Expr):Prop:=∀ o i,subscripted b false o i=operate [o,i] (getItem o i)
noncomputable def IxR (X:Cx) (r:R2):Prop :=
 ∀ (value slice:Expr) (pins:List (Addr×Obj)) (s:Shared) (σ:St) (H:Hp) (x y:V) (v u:Value) (Q:VK),Inv X pins σ H s→jl x v→jl y u→r x y H Q →
  subscripted slice false v u=operate [v,u] (getItem v u)→wpAny (model X.prog X.w) X.A (subscriptTail value slice v u) (EP X pins σ Q) X.xe s
noncomputable def MtR (X:Cx) (id:String) (r:V→List V→Hp→VK→Prop):Prop :=
 ∀ (pins:List (Addr×Obj)) (s:Shared) (σ:St) (H:Hp) (x:V) (xs:List V) (v:Value) (us:List Value) (Q:VK),Inv X pins σ H s→jl x v→jq xs us→r x xs H Q →
  wpAny (model X.prog X.w) X.A (call (.builtin id) (v::us)) (EP X pins σ Q) X.xe s
section
variable {X:Cx} {a b:Expr} {ta tb:TE} {pos:Pos}
theorem IxR.or {r r':R2} (h:IxR X r) (h':IxR X r'):IxR X (fun x y H Q=>r x y H Q∨r' x y H Q):=by
 intro value slice pins s σ H x y v u Q I rx ry q hs
 rcases q with q | q
 ·exact h value slice pins s σ H x y v u Q I rx ry q hs
 ·exact h' value slice pins s σ H x y v u Q I rx ry q hs
theorem af0 {r:R2} (hr:IxR X r) (ha:PE X a ta) (hb:PE X b tb) (hs:F7 b):PE X (.Subscript a b pos) (tOp r ta tb):=by
 intro pins s σ H Q I h
 exact Subscript_ (ab0 ha hb I h fun v u s2 x y H2 I2 rx ry q=>hr a b pins s2 σ H2 x y v u Q I2 rx ry q (hs _ _))
noncomputable def ae0 (K:PySem.W.Frag):R2:=fun x y H Q=>∃ p xs i v,x=.ref p∧y=.int i∧SqL K H p xs∧atI xs i=some v∧Q v H
noncomputable def ad8 (K:PySem.W.Frag):R2:=fun x y H Q=>∃ p xs i v,x=.ref p∧y=.int i∧SqT K H p xs∧atI xs i=some v∧Q v H
noncomputable def ad9:R2:=fun x y H Q=>∃ z i c,x=.str z∧y=.int i∧z.length≤sizeLine∧atI z.cps.toList i=some c∧Q (.str ⟨#[c]⟩) H
theorem aq:IxR X (ae0 X.K):=by
 intro value slice pins s σ H x y v u Q I rx ry h hs
 obtain ⟨p,xs,i,z,rfl,rfl,hq,he,q⟩:=h
 cases rx
 obtain ⟨t,rfl⟩:=ry
 obtain ⟨its,r,pl,hz⟩:=I.list hq
 obtain ⟨j,h1,h2,h3,h4,h5⟩:=vi he
 obtain ⟨w,ew,rw'⟩:=r.get h2
 have hl:=r.length
 have hn:=Q3
 have fin:EP X pins σ Q w s:=⟨z,H,I,rw',q⟩
 by_cases h0:0≤i
 ·have hj:i.toNat=j:=by
   rw [seqIndex_of h0 h5] at h1
   exact Option.some.inj h1
  exact item_listR pl.isList h0 (by omega) (by rw [hj];simpa using ew) fin hs
 ·have hj:(i + (its.toArray.size:Int)).toNat=j:=by
   rw [seqIndex_neg (by omega) h4] at h1
   rw [List.size_toArray,← hl]
   exact Option.some.inj h1
  exact subscriptTail_builtinR (x:=w) pl.isList.typeIs slot_list_getitem.lookup
   (wpAny_getItem_list_neg (Q:=fun r s'=>r=w∧EP X pins σ Q r s') pl.isList (by omega) (by rw [List.size_toArray] <;> omega) (by omega) (by rw [hj];simpa using ew) ⟨rfl,fin⟩) hs
theorem a89:IxR X (ad8 X.K):=by
 intro value slice pins s σ H x y v u Q I rx ry h hs
 obtain ⟨p,xs,i,z,rfl,rfl,hq,he,q⟩:=h
 cases rx
 obtain ⟨t,rfl⟩:=ry
 obtain ⟨its,r,pl,hz⟩:=I.tuple hq
 obtain ⟨j,h1,h2,h3,h4,h5⟩:=vi he
 obtain ⟨w,ew,rw'⟩:=r.get h2
 have hl:=r.length
 have hn:=Q3
 have fin:EP X pins σ Q w s:=⟨z,H,I,rw',q⟩
 exact subscriptTail_builtinR (x:=w) pl.typeIs slot_tuple_getitem.lookup
  (getItem_tuple (j:=j) (Q:=fun r s'=>r=w∧EP X pins σ Q r s') pl (by omega) (by omega) (by rw [List.size_toArray,← hl];exact h1) (by simpa using ew) ⟨rfl,fin⟩) hs
theorem a90:IxR X ad9:=by
 intro value slice pins s σ H x y v u Q I rx ry h hs
 obtain ⟨z,i,c,rfl,rfl,hz,he,q⟩:=h
 obtain ⟨t,rfl⟩:=rx
 obtain ⟨t',rfl⟩:=ry
 obtain ⟨j,h1,h2,h3,h4,h5⟩:=vi he
 have hl:z.cps.toList.length=z.length:=by simp [Str.length]
 rw [hl] at h1 h4 h5
 have hn:=Q3
 exact tail_any (typeIs_str s z t) slot_str_getitem.lookup (getItem_str (c:=c) (by
  have e1:decide (i < -(2 ^ 63:Int))=false:=decide_eq_false (by omega)
  have e2:decide (i ≥ 2 ^ 63)=false:=decide_eq_false (by omega)
  rw [e1,e2,Bool.or_false]) (by rw [h1];simpa using h2) ⟨.str ⟨#[c]⟩,H,I.tok _,⟨_,rfl⟩,q⟩) hs
noncomputable def rIx (K:PySem.W.Frag):R2:=fun x y H Q=>ae0 K x y H Q∨ad8 K x y H Q∨ad9 x y H Q
theorem a91:IxR X (rIx X.K):=aq.or (a89.or a90)
theorem Ka (its:List Value) (n j:Nat) (u:Value):Obj.mapSeq (·.setIfInBounds j u) { cls:=.type "list",data:=.seq its.toArray n}={ cls:=.type "list",data:=.seq (its.set j u).toArray n}:=by
 simp [Obj.mapSeq]
theorem Inv.lst {pins:List (Addr×Obj)} {σ:St} {H:Hp} {s:Shared} {p:Addr} {xs:List V} (I:Inv X pins σ H s) (h:H p=some (.lst xs)) :
  ∃ (its:List Value) (n:Nat),jq xs its∧s.heap.get? p=some { cls:=.type "list",data:=.seq its.toArray n}∧xs.length≤sizeLine:=by
 obtain ⟨z,its,n,r,e⟩:=I.hok p _ h
 exact ⟨its,n,r,e,z⟩
theorem Inv.lstUpd {pins:List (Addr×Obj)} {σ:St} {H:Hp} {s:Shared} {p:Addr} {xs ys:List V} {its its':List Value} {n n':Nat} {f:Obj→Obj} (I:Inv X pins σ H s) (h:H p=some (.lst xs))
  (ho:s.heap.get? p=some { cls:=.type "list",data:=.seq its.toArray n}) (hf:f { cls:=.type "list",data:=.seq its.toArray n}={ cls:=.type "list",data:=.seq its'.toArray n'}) (r:jq ys its') (hz:ys.length≤sizeLine) (t:Nat) :
  Inv X pins σ (upd H p (.lst ys)) { s with heap:=s.heap.update p f,toks:=t}:=by
 have e:(s.heap.update p f).get? p=some { cls:=.type "list",data:=.seq its'.toArray n'}:=by
  rw [Heap.get?_update_self f ho (by rw [hf] <;> rfl),hf]
 refine I.write (x:=p) (e:=p) (by rw [h];trivial) (.inl rfl) (fun b u hb q=>(Heap.get?_update_other _ _ (Ne.symm hb)).trans q) ⟨_,e⟩ ?_
 exact ⟨hz,its',n',r,e⟩
noncomputable def ad7:V→V→V→Hp→(Hp→Prop)→Prop:=fun o i v H Q=>∃ p xs k j,o=.ref p∧i=.int k∧H p=some (.lst xs)∧ixN xs.length k=some j∧Q (upd H p (.lst (xs.set j v)))
theorem dl:aj6 X ad7:=by
 intro pins s σ H o i v ov iv u Q I ro ri rv h
 obtain ⟨p,xs,k,j,rfl,rfl,hp,hj,q⟩:=h
 cases ro
 obtain ⟨t,rfl⟩:=ri
 obtain ⟨its,n,r,ho,hz⟩:=I.lst hp
 obtain ⟨h1,h2,h3,h4⟩:=f6 hj
 have hl:=r.length
 have hn:=Q3
 have I':Inv X pins σ (upd H p (.lst (xs.set j v))) { s with heap:=s.heap.update p (Obj.mapSeq (·.setIfInBounds j u))} :=
  I.lstUpd hp ho (Ka its n j u) (r.set rv j) (by rw [List.length_set];exact hz) s.toks
 by_cases h0:0≤k
 ·have hk:k.toNat=j:=by
   rw [seqIndex_of h0 h4] at h1
   exact Option.some.inj h1
  exact PySem.W.ki_setAt ho h0 (by omega) (by rw [List.size_toArray,← hl];exact h4) (by rw [hk];exact ⟨_,I',q⟩)
 ·have hk:(k + (its.toArray.size:Int)).toNat=j:=by
   rw [seqIndex_neg (by omega) h3] at h1
   rw [List.size_toArray,← hl]
   exact Option.some.inj h1
  exact PySem.W.ki_setBack ho (by omega) (by rw [List.size_toArray,← hl];exact h3) (by omega) (by rw [hk];exact ⟨_,I',q⟩)
theorem W5 (lo hi:Option Int) (n:Nat):(sliceBounds lo hi none n).1=((HT.sIx n 0 lo:Nat):Int)∧(sliceBounds lo hi none n).2.1=((HT.sIx n n hi:Nat):Int)∧(sliceBounds lo hi none n).2.2=1:=by
 refine ⟨?_,?_,rfl⟩
 ·cases lo with
  | none=>simp [sliceBounds,HT.sIx]
  | some i =>
   simp only [sliceBounds,HT.sIx,Option.getD_none,show (1:Int) > 0 by decide,if_true]
   by_cases h:i < 0
   ·simp only [h,if_true] <;> omega
   ·simp only [h,if_false] <;> omega
 ·cases hi with
  | none=>simp [sliceBounds,HT.sIx]
  | some i =>
   simp only [sliceBounds,HT.sIx,Option.getD_none,show (1:Int) > 0 by decide,if_true]
   by_cases h:i < 0
   ·simp only [h,if_true] <;> omega
   ·simp only [h,if_false] <;> omega
theorem Xp (its:List Value) (lo hi:Option Int):slicePick its.toArray lo hi none=((its.drop (HT.sIx its.length 0 lo)).take (HT.sIx its.length its.length hi - HT.sIx its.length 0 lo)).toArray:=by
 obtain ⟨h1,h2,h3⟩:=W5 lo hi its.toArray.size
 unfold slicePick
 rw [h1,h2,h3]
 simp only [sliceRange_one,pick_run,List.size_toArray] <;> rfl
noncomputable def rSlL (K:PySem.W.Frag):V→Option Int→Option Int→Hp→VK→Prop:=fun x lo hi H Q=>∃ a xs,x=.ref a∧SqL K H a xs∧∀ p,H p=none→Q (.ref p) (upd H p (.lst (kn xs lo hi)))
theorem bf:SlR X (rSlL X.K):=by
 intro pins s σ H x v vl vu lo hi sl Q I rx hs pl pu h
 obtain ⟨a,xs,rfl,hx,q⟩:=h
 cases rx
 obtain ⟨its,r,ht,hz⟩:=I.list hx
 have hlen:=r.length
 refine ⟨"list",_,slot_list_getitem.lookup,ht.isList.typeIs,?_⟩
 refine wpAny_getItem_list_slice ht.isList hs pl pu .none (by simp) ?_ (by rw [List.size_toArray] <;> omega)
 rw [Xp,← hlen]
 refine ⟨.ref s.heap.objs.size,_,I.laid (t':=s.toks) (o:=.lst (kn xs lo hi)) (fun b ob q=>Heap.get?_push_of_some _ q) (Nat.le_refl _) ?_,rfl,q _ (I.hok.fresh (Nat.le_refl _))⟩
 exact ⟨Nat.le_trans (Qq xs lo hi) hz,_,0,(r.drop (HT.sIx xs.length 0 lo)).take (HT.sIx xs.length xs.length hi - HT.sIx xs.length 0 lo),Heap.get?_push_size _ rfl⟩
theorem vp:ye X (.type "list") (fun xs H Q=>∃ p ys,xs=[.ref p]∧(SqL X.K H p ys∨SqT X.K H p ys)∧∀ l,H l=none→Q (.ref l) (upd H l (.lst ys))):=by
 intro pins s σ H xs us Q I r h
 obtain ⟨p,ys,rfl,hq,q⟩:=h
 obtain ⟨u,rfl,rx⟩:=Zk r
 cases rx
 have fin:∀ (its:List Value),jq ys its→ys.length≤sizeLine→∀ (h':Heap) (c':Nat),(∀ b o',s.heap.get? b=some o'→h'.get? b=some o') →
   h'.get? s.heap.objs.size=some { cls:=.type "list",dict:=none,data:=.seq its.toArray c',slots:=#[]}→EP X pins σ Q (.ref s.heap.objs.size) { s with heap:=h'}:=fun its r' hz h' c' kp e =>
  ⟨.ref s.heap.objs.size,_,I.laid (t':=s.toks) kp (Nat.le_refl _) (show Jg X.prog X.w _ h' _ (.lst ys) from ⟨hz,its,c',r',e⟩),rfl,q _ (I.hok.fresh (Nat.le_refl _))⟩
 rcases hq with hq | hq
 ·obtain ⟨its,r',pl,hz⟩:=I.list hq
  have hlen:=r'.length
  obtain ⟨o,ho,hc,n,hd⟩:=pl.isList
  exact call_list_seq p (.inl rfl) ho hc hd (fun h' c' kp e=>fin its r' hz h' c' kp e) (by simp only [List.size_toArray] <;> omega)
 ·obtain ⟨its,r',pl,hz⟩:=I.tuple hq
  have hlen:=r'.length
  obtain ⟨o,ho,hc,n,hd⟩:=pl
  exact call_list_seq p (.inr rfl) ho hc hd (fun h' c' kp e=>fin its r' hz h' c' kp e) (by simp only [List.size_toArray] <;> omega)
noncomputable def tyV (K:PySem.W.Frag) (T:String) (x:V) (H:Hp):Prop:=match x with
 | .str _=>T="str"
 | .int _=>T="int"
 | .ref p=>(T="list"∧∃ xs,SqL K H p xs)∨(T="tuple"∧∃ o,K.lookup p=some o∧o.cls=.type "tuple"∧o.dict=none) ∨
   (T="dict"∧((∃ kvs,H p=some (.dK kvs))∨∃ kvs,H p=some (.dT kvs)))∨(T="set"∧∃ S n,H p=some (.set S n))
 | _=>False
theorem a23 {pins:List (Addr×Obj)} {σ:St} {H:Hp} {s:Shared} {T:String} {x:V} {v:Value} (I:Inv X pins σ H s) (r:jl x v) (ty:tyV X.K T x H) :
  s.TypeIs v T∧∀ a,v=.ref a→∃ ob,s.heap.get? a=some ob∧ob.dict=none:=by
 cases x with
 | str z =>
  obtain ⟨t,rfl⟩:=r
  cases (show T="str" from ty)
  exact ⟨typeIs_str s z t,fun _ e=>nomatch e⟩
 | int i =>
  obtain ⟨t,rfl⟩:=r
  cases (show T="int" from ty)
  exact ⟨typeIs_int s i t,fun _ e=>nomatch e⟩
 | ref p =>
  cases r
  rcases ty with ⟨rfl,xs,hq⟩ | ⟨rfl,o,hk,hc,hd⟩ | ⟨rfl,hk⟩ | ⟨rfl,S,n,hk⟩
  ·obtain ⟨its,_,pl,_⟩:=I.list hq
   refine ⟨pl.isList.typeIs,fun a e=>?_⟩
   cases e
   obtain ⟨o,n,e,c,hd,_⟩:=pl
   exact ⟨o,e,hd⟩
  ·refine ⟨⟨o,I.kIn p o hk,hc⟩,fun a e=>?_⟩
   cases e
   exact ⟨o,I.kIn _ o hk,hd⟩
  ·have z:∃ o,s.heap.get? p=some o∧o.ExactDict:=by
    rcases hk with ⟨kvs,hk⟩ | ⟨kvs,hk⟩
    ·obtain ⟨_,_,_,_,o,_,_,e,ex,_⟩:=I.hok p _ hk
     exact ⟨o,e,ex⟩
    ·obtain ⟨_,_,_,_,o,_,_,e,ex,_⟩:=I.hok p _ hk
     exact ⟨o,e,ex⟩
   obtain ⟨o,e,ex⟩:=z
   refine ⟨⟨o,e,ex.1⟩,fun a e2=>?_⟩
   cases e2
   exact ⟨o,e,ex.2.1⟩
  ·obtain ⟨o,_,_,_,e,ex,_⟩:=I.hok p _ hk
   refine ⟨⟨o,e,ex.1⟩,fun a e2=>?_⟩
   cases e2
   exact ⟨o,e,ex.2.1⟩
 | _=>exact False.elim ty
noncomputable def tBM (K:PySem.W.Frag) (T:String) (r:V→List V→Hp→VK→Prop) (to:TE) (t:TA):TE:=fun σ H Q=>to σ H fun x H1=>tyV K T x H1∧t σ H1 fun xs H2=>r x xs H2 Q
variable {o e:Expr} {es:List Expr} {to:TE} {t:TA} {name:Str} {apos cpos:Pos} {T id:String} {r:V→List V→Hp→VK→Prop}
theorem af1 (pa:PlainAttrs T) (slot:Slot T name id) (hty:typeOf (.builtin id)=pure (.type "method_descriptor")) (hm:MtR X id r) (ho:PE X o to) (ha:PA X (e::es) t)
  (hbase:attributeBase o name X.env (eval o X.env)=eval o X.env:=by rfl)
  (hfew:((backTo cpos (starEach (e::es) X.env)).all (fun x=> !x.1) && (backToKw cpos (keywordEach [] X.env)).all (fun x=>x.1.isSome)
   && decide ((e::es).length + ([]:List Keyword).length + (if ([]:List Keyword).isEmpty then 0 else 1) < 30))=true:=by rfl)
  (hline:(apos.endLine == cpos.line)=true:=by rfl) (hs:starEach (e::es) X.env=(false,eval e X.env)::starEach es X.env:=by rfl) (hplain:(backTo cpos (starEach es X.env)).any (·.1)=false:=by rfl) :
  PE X (.Call (.Attribute o name apos) (e::es) [] cpos) (tBM X.K T r to t):=by
 intro pins s σ H Q I h
 refine wpAny_Call_method_late hbase hfew hline rfl (thn (ho pins s σ H _ I h) fun v s1 ⟨x,H1,I1,r1,ty,q1⟩=>?_)
 obtain ⟨h1,h2⟩:=a23 I1 r1 ty
 refine ⟨T,id,pa,slot,hty,h1,h2,?_⟩
 have hA:=ha cpos pins s1 σ H1 _ I1 q1
 rw [hs] at hA ⊢
 refine Calls.callWith_builtin (by show (false || (backTo cpos (starEach es X.env)).any (·.1))=false;rw [hplain] <;> rfl) (Calls.evalArgs_plain ?_)
 exact thn hA fun us s2 ⟨vs,H2,I2,r2,q2⟩=>hm pins s2 σ H2 x vs v us Q I2 r1 r2 q2
end
end L2
namespace L2
open PySem PySem.Spec PyProof.Rows
noncomputable def MtM (X:Cx) (id:String) (r:V→List V→Hp→VK→Prop):Prop :=
 ∀ (pins:List (Addr×Obj)) (s:Shared) (σ:St) (H:Hp) (x:V) (xs:List V) (v:Value) (us:List Value) (Q:VK),Inv X pins σ H s→jl x v→jq xs us→r x xs H Q →
  wpAny (model X.prog X.w) X.A (call (.builtin id) (v::us)) (EP X pins σ Q) X.xe s
theorem jq.one:∀ {x:V} {us:List Value},jq [x] us→∃ u,us=[u]∧jl x u
 | _,_,.cons r .nil=>⟨_,rfl,r⟩
theorem jq.rep {xs:List V} {us:List Value} (h:jq xs us):∀ k:Nat,jq (List.replicate k xs).flatten (List.replicate k us).flatten
 | 0=>.nil
 | k + 1=>by
  rw [List.replicate_succ,List.replicate_succ,List.flatten_cons,List.flatten_cons]
  exact jq.append h (jq.rep h k)
theorem wp (its:List Value):∀ (k:Nat) (acc:List Value),
  List.foldl (fun x1 x2=>x1++x2) acc.toArray (List.replicate k its.toArray)=(acc++(List.replicate k its).flatten).toArray
 | 0,acc=>by simp
 | k + 1,acc=>by
  have e:acc.toArray++its.toArray=(acc++its).toArray:=by simp
  have e2:(acc++its)++(List.replicate k its).flatten=acc++(List.replicate (k + 1) its).flatten:=by
   rw [List.replicate_succ,List.flatten_cons,List.append_assoc]
  rw [← e2,← wp its k (acc++its),← e,List.replicate_succ,List.foldl_cons]
section
variable {X:Cx} {pins:List (Addr×Obj)} {σ:St} {H:Hp} {s:Shared} {l b:Addr} {xs ys zs:List V}
theorem Inv.lset {its its':List Value} {n:Nat} {f:Array Value→Array Value} {t':Nat} (I:Inv X pins σ H s) (hH:H l=some (.lst xs))
  (e:s.heap.get? l=some { cls:=.type "list",data:=.seq its.toArray n}) (hf:f its.toArray=its'.toArray) (hv:jq ys its') (hz:ys.length≤sizeLine) :
  Inv X pins σ (upd H l (.lst ys)) { s with heap:=s.heap.update l (Obj.mapSeq f),toks:=t'}:=by
 have q:=PySem.IsL.update e f
 rw [hf] at q
 refine I.write (x:=l) (e:=l) (by rw [hH];exact trivial) (.inl rfl) (fun b' u hb hu=>(Heap.get?_update_other s.heap (Obj.mapSeq f) (Ne.symm hb)).trans hu) ⟨_,q⟩ ?_
 exact ⟨hz,its',_,hv,q⟩
theorem Inv.lnew {its:List Value} {t':Nat} (I:Inv X pins σ H s) (hv:jq ys its) (hz:ys.length≤sizeLine) :
  Inv X pins σ (upd H s.heap.objs.size (.lst ys)) { s with heap:=s.heap.push { cls:=.type "list",data:=.seq its.toArray},toks:=t'} :=
 I.laid (fun _ _ q=>Heap.get?_push_of_some _ q) (Nat.le_refl _) ⟨hz,its,0,hv,Heap.get?_push_size _ rfl⟩
theorem Inv.fresh (I:Inv X pins σ H s):H s.heap.objs.size=none:=I.hok.fresh (Nat.le_refl _)
theorem Inv.lstM (I:Inv X pins σ H s) (hH:H l=some (.lst xs)):xs.length≤sizeLine∧∃ (its:List Value) (n:Nat),jq xs its∧xs.length=its.length∧s.heap.get? l=some { cls:=.type "list",data:=.seq its.toArray n}:=by
 obtain ⟨z,its,n,r,e⟩:=I.hok l _ hH
 exact ⟨z,its,n,r,r.length,e⟩
theorem Dh {n:Nat} (h:n≤sizeLine):Builtin.List.listTooLong n=false:=by
 unfold Builtin.List.listTooLong
 exact decide_eq_false (by omega)
end
section
variable {X:Cx}
noncomputable def B1:V→List V→Hp→VK→Prop:=fun x vs H Q=>∃ l xs y,x=.ref l∧vs=[y]∧H l=some (.lst xs)∧xs.length < sizeLine∧Q .non (upd H l (.lst (xs++[y])))
theorem wx:MtM X "list.append" B1:=by
 intro pins s σ H x vs v us Q I rx rv h
 obtain ⟨l,xs,y,rfl,rfl,hH,hz,q⟩:=h
 cases rx
 obtain ⟨u,rfl,ru⟩:=rv.one
 obtain ⟨z,its,n,r,hl,e⟩:=I.lstM hH
 refine call_meets F.slot_list_append ⟨_,e,rfl⟩ F.entry_list_append (F.args_list_append_2 _ _) (PySem.list_append l its.toArray n u (by rw [List.size_toArray];omega)) ⟨e,?_⟩
 refine ⟨.non,_,I.lset (its':=its++[u]) hH e (by simp) (r.append (.cons ru .nil)) ?_,rfl,q⟩
 rw [List.length_append,List.length_singleton]
 omega
noncomputable def rRep:R2:=fun x y H Q=>∃ l k xs,x=.ref l∧y=.int k∧H l=some (.lst xs)∧ -(2 ^ 63)≤k∧k < 2 ^ 63∧xs.length * k.toNat≤sizeLine ∧
 ∀ p,H p=none→Q (.ref p) (upd H p (.lst (List.replicate k.toNat xs).flatten))
theorem av {α:Type} (xs:List α) (k:Nat):(List.replicate k xs).flatten.length=k * xs.length:=by
 induction k with
 | zero=>simp
 | succ k ih=>rw [List.replicate_succ,List.flatten_cons,List.length_append,ih,Nat.succ_mul,Nat.add_comm]
theorem a61:OpR X (binaryOp .Mult) rRep:=by
 intro pins s σ H x y v u Q I rx ry h
 obtain ⟨l,k,xs,rfl,rfl,hH,h1,h2,hz,q⟩:=h
 cases rx
 obtain ⟨t,rfl⟩:=ry
 obtain ⟨z,its,n,r,hl,e⟩:=I.lstM hH
 have hlen:its.toArray.size * k.toNat≤sizeLine:=by rw [List.size_toArray,← hl];exact hz
 have hcap:¬ its.toArray.size * k.toNat > (2 ^ 63 - 1) / 8:=by
  have:(sizeLine:Nat)≤(2 ^ 63 - 1) / 8:=by decide
  omega
 have hfit:¬ (!Builtin.List.listFitsIndex k)=true:=by
  rw [fitsIndex_both h1 h2]
  exact Bool.false_ne_true
 have hlong:¬ Builtin.List.listTooLong (its.toArray.size * k.toNat)=true:=by
  rw [Dh hlen]
  exact Bool.false_ne_true
 have hnew:List.foldl (fun x1 x2=>x1++x2) #[] (List.replicate (if its.toArray.isEmpty=true then 0 else k.toNat) its.toArray)=(List.replicate k.toNat its).flatten.toArray:=by
  have f0:∀ m:Nat,List.foldl (fun x1 x2=>x1++x2) #[] (List.replicate m its.toArray)=(List.replicate m its).flatten.toArray:=fun m=>by
   have:=wp its m []
   rw [List.nil_append] at this
   exact this
  rw [f0]
  cases its with
  | nil=>simp
  | cons a r'=>rw [if_neg (by simp)]
 refine wpAny_binaryOp_repeat_ref (T:="list") (U:="int") (by decide) ⟨_,e,rfl⟩ (fun s'=>typeIs_int s' k t) noFill_list_mul F.fills_int_mul F.slot_int_rmul repeat_list F.slot_int_index.lookup
  (call_meets F.slot_int_rmul (typeIs_int s k t) F.entry_int_rmul (F.args_int_rmul_2 _ _) (int___rmul___int_list k t l its.toArray n)
   ⟨e,rfl,⟨_,e,rfl⟩,call_meets F.slot_list_mul ⟨_,e,rfl⟩ F.entry_list_mul (F.args_list_mul_2 _ _) (AutoListH.list___mul___list_int_3 l its.toArray n k t hfit hcap hlong) ⟨e,?_⟩⟩)
 rw [hnew]
 exact ⟨.ref _,_,I.lnew (t':=s.toks) (r.rep k.toNat) (by rw [av,Nat.mul_comm];exact hz),rfl,q _ I.fresh⟩
end
section
variable {prog:Program} {w:World} {A:Around} {E:Value→Shared→Prop} {s:Shared}
set_option maxRecDepth 100000 in
end
section
variable {X:Cx}
end
end L2
namespace L2
open PySem PySem.Spec PyProof.Rows
section
variable {κ:Type} [DecidableEq κ]
noncomputable def yy (kvs:List (κ×V)) (k:κ):Option V:=(kvs.find? fun kv=>decide (kv.1=k)).map (·.2)
noncomputable def Y2 (kvs:List (κ×V)) (k:κ) (v:V):List (κ×V) :=
 if (kvs.any fun kv=>decide (kv.1=k))=true then kvs.map (fun kv=>if kv.1=k then (kv.1,v) else kv) else kvs++[(k,v)]
theorem Zj {p:κ×V} {r:List (κ×V)} {k:κ} (e:p.1=k):yy (p::r) k=some p.2:=by simp [yy,List.find?_cons,e]
theorem Zi {p:κ×V} {r:List (κ×V)} {k:κ} (e:¬ p.1=k):yy (p::r) k=yy r k:=by simp [yy,List.find?_cons,e]
theorem Zh (k:κ):∀ kvs:List (κ×V),(kvs.any fun kv=>decide (kv.1=k))=(yy kvs k).isSome
 | []=>rfl
 | p::r=>by
  rw [List.any_cons]
  by_cases e:p.1=k
  ·simp only [Zj e,decide_eq_true e,Bool.true_or,Option.isSome_some]
  ·rw [Zi e,decide_eq_false e,Bool.false_or];exact Zh k r
theorem zv (kvs:List (κ×V)) (k:κ) (v:V):(Y2 kvs k v).length≤kvs.length + 1:=by
 unfold Y2
 split
 ·rw [List.length_map];omega
 ·rw [List.length_append,List.length_cons,List.length_nil];omega
theorem D4 {kvs:List (κ×V)} {k:κ} (v:V) (h:yy kvs k=none):Y2 kvs k v=kvs++[(k,v)]:=by
 unfold Y2
 rw [Zh,h]
 exact if_neg (by decide)
theorem qk.isSome_eq {o:Option V} {u:Option Value} (r:qk o u):o.isSome=u.isSome:=by
 cases o with
 | none=>cases u with
  | none=>rfl
  | some _=>exact (show False from r).elim
 | some _=>cases u with
  | none=>exact (show False from r).elim
  | some _=>rfl
theorem qk.getD {o:Option V} {u:Option Value} {d:V} {d':Value} (r:qk o u) (rd:jl d d'):jl (o.getD d) (u.getD d'):=by
 cases o with
 | none=>cases u with
  | none=>exact rd
  | some _=>exact (show False from r).elim
 | some _=>cases u with
  | none=>exact (show False from r).elim
  | some _=>exact r
theorem KV.val {kvs:List (κ×V)} {vs:List (κ×Value)} (r:KV kvs vs) (k:κ):qk (yy kvs k) (valueAt vs k):=by
 unfold KV at r
 induction r with
 | nil=>exact True.intro
 | @cons p q ps qs h t ih =>
  obtain ⟨h1,h2⟩:=h
  by_cases e:p.1=k
  ·have e':q.1=k:=h1.symm.trans e
   have b:valueAt (q::qs) k=some q.2:=by simp [valueAt,List.find?_cons,e']
   rw [Zj e,b];exact h2
  ·have e':¬ q.1=k:=fun z=>e (h1.trans z)
   have b:valueAt (q::qs) k=valueAt qs k:=by simp [valueAt,List.find?_cons,e']
   rw [Zi e,b];exact ih
theorem KV.any {kvs:List (κ×V)} {vs:List (κ×Value)} (r:KV kvs vs) (k:κ):(kvs.any fun kv=>decide (kv.1=k))=vs.any fun kv=>decide (kv.1=k):=by
 unfold KV at r
 induction r with
 | nil=>rfl
 | cons h t ih=>rw [List.any_cons,List.any_cons,ih,h.1]
theorem KV.repl {kvs:List (κ×V)} {vs:List (κ×Value)} (r:KV kvs vs) (k:κ) {y:V} {u:Value} (ry:jl y u) :
  KV (kvs.map fun kv=>if kv.1=k then (kv.1,y) else kv) (vs.map fun kv=>if kv.1=k then (kv.1,u) else kv):=by
 unfold KV at r ⊢
 induction r with
 | nil=>exact .nil
 | @cons p q ps qs h t ih =>
  rw [List.map_cons,List.map_cons]
  refine .cons ?_ ih
  obtain ⟨h1,h2⟩:=h
  by_cases e:p.1=k
  ·rw [if_pos e,if_pos (h1.symm.trans e)];exact ⟨h1,ry⟩
  ·rw [if_neg e,if_neg (fun z=>e (h1.trans z))];exact ⟨h1,h2⟩
theorem KV.put {kvs:List (κ×V)} {vs:List (κ×Value)} (r:KV kvs vs) (k:κ) {y:V} {u:Value} (ry:jl y u):KV (Y2 kvs k y) (stored vs k u):=by
 unfold Y2 stored
 rw [r.any k]
 by_cases e:(vs.any fun kv=>decide (kv.1=k))=true
 ·rw [if_pos e,if_pos e];exact r.repl k ry
 ·rw [if_neg e,if_neg e];exact Paired.snoc r ⟨rfl,ry⟩
theorem KV.length {kvs:List (κ×V)} {vs:List (κ×Value)} (r:KV kvs vs):kvs.length=vs.length:=Paired.length r
end
theorem Yp {P:Program} {w:World} {k:Key} {u:Value} (r:jl (kV k) u):(jh P w).is k u=true:=by
 cases k with
 | inl i=>obtain ⟨t,e⟩:=(show ∃ t,u=Value.int i t from r);subst e;exact Vl P w i t
 | inr x=>obtain ⟨t,e⟩:=(show ∃ t,u=Value.str x t from r);subst e;exact Vm P w x t
theorem wt {P:Program} {w:World}:∀ {ks:List Key} {us:List Value},jq (ks.map kV) us→ItemsAre (jh P w) ks us
 | [],_,r=>by rw [List.map_nil] at r;cases r;exact .nil
 | k::ks,_,r=>by
  rw [List.map_cons] at r
  cases r with
  | cons h t=>exact .cons (Yp h) (wt t)
noncomputable abbrev KT (H:Hp):List (List Key×V)→List (List Key×Addr×Value)→Prop:=Paired fun p q=>p.1=q.1∧H q.2.1=some (.tup (p.1.map kV))∧jl p.2 q.2.2
theorem KT.val {H:Hp} {kvs:List (List Key×V)} {xs:List (List Key×Addr×Value)} (r:KT H kvs xs) (k:List Key):qk (yy kvs k) ((atKey xs k).map (·.2)):=by
 induction r with
 | nil=>exact True.intro
 | @cons p q ps qs h t ih =>
  obtain ⟨h1,_,h2⟩:=h
  by_cases e:p.1=k
  ·have e':q.1=k:=h1.symm.trans e
   have b:atKey (q::qs) k=some q.2:=by simp [atKey,List.find?_cons,e']
   rw [Zj e,b];exact h2
  ·have e':¬ q.1=k:=fun z=>e (h1.trans z)
   have b:atKey (q::qs) k=atKey qs k:=by simp [atKey,List.find?_cons,e']
   rw [Zi e,b];exact ih
theorem KT.repl {H:Hp} {kvs:List (List Key×V)} {xs:List (List Key×Addr×Value)} (r:KT H kvs xs) (k:List Key) {y:V} {u:Value} (ry:jl y u) :
  KT H (kvs.map fun kv=>if kv.1=k then (kv.1,y) else kv) (xs.map (putAt k u)):=by
 induction r with
 | nil=>exact .nil
 | @cons p q ps qs h t ih =>
  rw [List.map_cons,List.map_cons]
  refine .cons ?_ ih
  obtain ⟨h1,h2,h3⟩:=h
  unfold putAt
  by_cases e:p.1=k
  ·rw [if_pos e,if_pos (h1.symm.trans e)];exact ⟨h1,h2,ry⟩
  ·rw [if_neg e,if_neg (fun z=>e (h1.trans z))];exact ⟨h1,h2,h3⟩
theorem KT.put {H:Hp} {kvs:List (List Key×V)} {xs:List (List Key×Addr×Value)} (r:KT H kvs xs) (k:List Key) {b:Addr} {y:V} {u:Value} (hb:H b=some (.tup (k.map kV))) (ry:jl y u) :
  KT H (Y2 kvs k y) (storedH xs k b u):=by
 have e:(kvs.any fun kv=>decide (kv.1=k))=(atKey xs k).isSome:=by
  rw [Zh,(r.val k).isSome_eq,Option.isSome_map]
 unfold Y2 storedH
 rw [e]
 by_cases q:(atKey xs k).isSome=true
 ·rw [if_pos q,if_pos q];exact r.repl k ry
 ·rw [if_neg q,if_neg q];exact Paired.snoc r ⟨rfl,hb,ry⟩
theorem KT.keeps {H H':Hp} {kvs:List (List Key×V)} {xs:List (List Key×Addr×Value)} (r:KT H kvs xs) (ht:∀ b ys,H b=some (.tup ys)→H' b=some (.tup ys)):KT H' kvs xs :=
 Paired.mapP r fun _ _ z=>⟨z.1,ht _ _ z.2.1,z.2.2⟩
section
variable {P:Program} {w:World} {H:Hp} {h:Heap} {a:Addr}
theorem Ah {u:HO} (ok:HOk P w H h) (e:Rd H a u):Jg P w H h a u:=e.ok ok
theorem X8 {kvs:List (Key×V)} (ok:HOk P w H h) (e:Rd H a (.dK kvs)):kvs.length≤sizeLine∧(a == sysModules)=false∧∃ vs,KV kvs vs∧h.DictOf (jh P w) a vs :=
 show Jg P w H h a (.dK kvs) from Ah ok e
theorem a08 {kvs:List (Key×V)} (ok:HOk P w H h) (e:H a=some (.dK kvs)):kvs.length≤sizeLine∧(a == sysModules)=false∧∃ vs,KV kvs vs∧h.DictOf (jh P w) a vs:=X8 ok (.inl e)
theorem Q6 {ks:List Key} (ok:HOk P w H h) (e:H a=some (.tup (ks.map kV))):(tupleKind (jh P w)).is h ks a:=by
 obtain ⟨_,its,r,o,h1,h2,n,h3⟩:=(show Jg P w H h a (.tup (ks.map kV)) from ok a _ e)
 exact ⟨o,its.toArray,n,h1,h2,h3,by simpa using wt r⟩
theorem X5 {kvs:List (List Key×V)} (ok:HOk P w H h) (e:Rd H a (.dT kvs)):kvs.length≤sizeLine∧(a == sysModules)=false ∧
  ∃ xs,KT H kvs xs∧h.DictOfH (tupleKind (jh P w)) a xs:=by
 obtain ⟨z,y,xs,r,o,es,ep,h1,h2,h3,h4,h5⟩:=(show Jg P w H h a (.dT kvs) from Ah ok e)
 refine ⟨z,y,xs,r,o,es,ep,h1,h2,h3,h4,fun x hx=>?_,h5⟩
 have all:∀ {l:List (List Key×V)} {m:List (List Key×Addr×Value)},KT H l m→∀ x∈m,(tupleKind (jh P w)).is h x.1 x.2.1:=by
  intro l m q
  induction q with
  | nil=>intro x hx;exact nomatch hx
  | @cons p q ps qs hq t ih =>
   intro x hx
   rcases List.mem_cons.mp hx with e | hx
   ·subst e
    exact Q6 ok (by rw [← hq.1];exact hq.2.1)
   ·exact ih x hx
 exact all r x hx
theorem ai9 {kvs:List (List Key×V)} (ok:HOk P w H h) (e:H a=some (.dT kvs)):kvs.length≤sizeLine∧(a == sysModules)=false ∧
  ∃ xs,KT H kvs xs∧h.DictOfH (tupleKind (jh P w)) a xs:=X5 ok (.inl e)
end
noncomputable def Yv (H:Hp) (a:Addr) (y:V) (r:Option V):Prop :=
 (∃ kvs k,Rd H a (.dK kvs)∧y=kV k∧r=yy kvs k)∨∃ kvs k b,Rd H a (.dT kvs)∧y=.ref b∧H b=some (.tup (k.map kV))∧r=yy kvs k
noncomputable def b8 (H:Hp) (a:Addr) (y v:V) (H':Hp):Prop :=
 (∃ kvs k,H a=some (.dK kvs)∧y=kV k∧kvs.length < sizeLine∧H'=upd H a (.dK (Y2 kvs k v))) ∨
 ∃ kvs k b,H a=some (.dT kvs)∧y=.ref b∧H b=some (.tup (k.map kV))∧kvs.length < sizeLine∧H'=upd H a (.dT (Y2 kvs k v))
theorem Yv.k {H:Hp} {a:Addr} {kvs:List (Key×V)} {k:Key} (e:H a=some (.dK kvs)):Yv H a (kV k) (yy kvs k):=.inl ⟨kvs,k,.inl e,rfl,rfl⟩
theorem b8.k {H:Hp} {a:Addr} {kvs:List (Key×V)} {k:Key} {v:V} (e:H a=some (.dK kvs)) (hl:kvs.length < sizeLine):b8 H a (kV k) v (upd H a (.dK (Y2 kvs k v))):=.inl ⟨kvs,k,e,rfl,hl,rfl⟩
section
variable {X:Cx} {pins:List (Addr×Obj)} {σ:St} {H:Hp} {s:Shared} {a:Addr} {y v:V} {u r:Value} {o:Option V} {A:Around} {E:Value→Shared→Prop}
theorem Inv.big (I:Inv X pins σ H s):sysModules < s.heap.objs.size:=by
 have h:mainGlobals < s.heap.objs.size:=(I.mod.glob.keeps I.bk).lt
 exact Nat.lt_trans (by decide) h
theorem E6 {Q:Value→Shared→Prop} (hu:A.units + 1 < cLine) (I:Inv X pins σ H s) (g:Yv H a y (some v)) (ry:jl y u) (h:∀ w' s',Inv X pins σ H s'→jl v w'→Q w' s') :
  wpAny (model X.prog X.w) A (getItem (.ref a) u) Q E s:=by
 rcases g with ⟨kvs,k,e,ey,l⟩ | ⟨kvs,k,b,e,ey,eb,l⟩
 ·subst ey
  obtain ⟨z,hd,vs,rel,dd⟩:=X8 I.hok e
  obtain ⟨w',hw,rw'⟩:=qk.some_of (v:=v) (o:=valueAt vs k) (by rw [l];exact rel.val k)
  exact wpAny_getItem_of (Yp ry) dd.mapOf hw (h w' _ (I.tok _) rw')
 ·subst ey
  cases (show u=Value.ref b from ry)
  obtain ⟨z,hd,xs,rel,dd⟩:=X5 I.hok e
  obtain ⟨w',hw,rw'⟩:=qk.some_of (v:=v) (o:=(atKey xs k).map (·.2)) (by rw [l];exact rel.val k)
  obtain ⟨p,hp,hp2⟩:=Option.map_eq_some_iff.mp hw
  refine wpAny_getItem_heap (tupleKind_room_in1 hu) (Q6 I.hok eb) dd hp ?_
  rw [hp2]
  exact h w' _ (I.tok _) rw'
theorem d_in {Q:Value→Shared→Prop} (hu:A.units + 1 < cLine) (I:Inv X pins σ H s) (g:Yv H a y o) (ry:jl y u) (h:∀ s',Inv X pins σ H s'→Q (.bool o.isSome) s') :
  wpAny (model X.prog X.w) A (compareOp .In u (.ref a)) Q E s:=by
 rcases g with ⟨kvs,k,e,ey,l⟩ | ⟨kvs,k,b,e,ey,eb,l⟩
 ·subst ey
  obtain ⟨z,hd,vs,rel,dd⟩:=X8 I.hok e
  refine wpAny_in_of (Yp ry) hd dd.mapOf ?_
  rw [← (rel.val k).isSome_eq,← l]
  exact h _ (I.tok _)
 ·subst ey
  cases (show u=Value.ref b from ry)
  obtain ⟨z,hd,xs,rel,dd⟩:=X5 I.hok e
  refine wpAny_in_heap (tupleKind_room_in1 hu) (Q6 I.hok eb) hd dd ?_
  have q:=(rel.val k).isSome_eq
  rw [Option.isSome_map] at q
  rw [← q,← l]
  exact h _ (I.tok _)
theorem A4 {Q:Value→Shared→Prop} (hu:A.units + 1 < cLine) (I:Inv X pins σ H s) (g:Yv H a y o) (ry:jl y u) (h:∀ s',Inv X pins σ H s'→Q (.bool (!o.isSome)) s') :
  wpAny (model X.prog X.w) A (compareOp .NotIn u (.ref a)) Q E s:=by
 rcases g with ⟨kvs,k,e,ey,l⟩ | ⟨kvs,k,b,e,ey,eb,l⟩
 ·subst ey
  obtain ⟨z,hd,vs,rel,dd⟩:=X8 I.hok e
  refine wpAny_notIn_of (Yp ry) hd dd.mapOf ?_
  rw [← (rel.val k).isSome_eq,← l]
  exact h _ (I.tok _)
 ·subst ey
  cases (show u=Value.ref b from ry)
  obtain ⟨z,hd,xs,rel,dd⟩:=X5 I.hok e
  refine wpAny_notIn_heap (tupleKind_room_in1 hu) (Q6 I.hok eb) hd dd ?_
  have q:=(rel.val k).isSome_eq
  rw [Option.isSome_map] at q
  rw [← q,← l]
  exact h _ (I.tok _)
theorem vw {h':Heap} {t':Nat} {ob:HO} (I:Inv X pins σ H s) (mu:Mut (H a)) (hs:Heap.SameBut a s.heap h') (he:∃ q,h'.get? a=some q) (new:Jg X.prog X.w (upd H a ob) h' a ob) :
  Inv X pins σ (upd H a ob) { s with heap:=h',toks:=t'} :=
 I.write (x:=a) (e:=a) mu (.inl rfl) (fun b q hb z=>(hs.2 b hb).trans z) he new
theorem dk_new {P:Program} {w:World} {H':Hp} {h':Heap} {kvs:List (Key×V)} {vs:List (Key×Value)} (z:kvs.length≤sizeLine) (hd:(a == sysModules)=false) (rel:KV kvs vs) (dd:h'.DictOf (jh P w) a vs) :
  Jg P w H' h' a (.dK kvs):=⟨z,hd,vs,rel,dd⟩
theorem E5 {H':Hp} {Q:Unit→Shared→Prop} (hu:A.units + 1 < cLine) (I:Inv X pins σ H s) (g:b8 H a y v H') (ry:jl y u) (rv:jl v r) (h:∀ s',Inv X pins σ H' s'→Q () s') :
  wpAny (model X.prog X.w) A (setItem (.ref a) u r) Q E s:=by
 rcases g with ⟨kvs,k,e,ey,l,eH⟩ | ⟨kvs,k,b,e,ey,eb,l,eH⟩
 ·subst ey eH
  obtain ⟨z,hd,vs,rel,dd⟩:=a08 I.hok e
  have hz:vs.length≤sizeLine:=by rw [← rel.length];exact z
  have hl:(Y2 kvs k v).length≤sizeLine:=by have:=zv kvs k v;omega
  refine wpAny_setItem_pairs (hsz:=hz) (Yp ry) dd fun h' dd' hs=>h _ ?_
  have he:∃ q,h'.get? a=some q:=let ⟨q,_,_,hq,_⟩:=dd';⟨q,hq⟩
  exact vw I (by rw [e];exact True.intro) hs he (dk_new hl hd (rel.put k rv) dd')
 ·subst ey eH
  cases (show u=Value.ref b from ry)
  obtain ⟨z,hd,xs,rel,dd⟩:=ai9 I.hok e
  have hz:xs.length≤sizeLine:=by rw [← Paired.length rel];exact z
  have hl:(Y2 kvs k v).length≤sizeLine:=by have:=zv kvs k v;omega
  refine wpAny_setItem_heap (hsz:=hz) (tupleKind_room_in1 hu) (Q6 I.hok eb) dd fun h' dd' hs=>h _ ?_
  obtain ⟨q,es,ep,hq,h2,h3,h4,_,h5⟩:=dd'
  refine vw I (by rw [e];exact True.intro) hs ⟨q,hq⟩ ⟨hl,hd,_,(rel.put k eb rv).keeps fun c ys ec=>?_,q,es,ep,hq,h2,h3,h4,h5⟩
  rw [j9 (ag4 ec e (fun z=>nomatch z))]
  exact ec
end
section
variable {X:Cx} {pins:List (Addr×Obj)} {σ:St} {H:Hp} {s:Shared} {a:Addr} {kvs:List (Key×V)} {k:Key} {u:Value} {A:Around} {E:Value→Shared→Prop}
end
noncomputable def Aw (i:Expr):Prop:=∀ ov iv,subscripted i false ov iv=operate [ov,iv] (getItem ov iv)
theorem G3 {prog:Program} {w:World} {A:Around} {E:Value→Shared→Prop} {s:Shared} {env:Env} {value slice:Expr} {pos:Pos} {T id:String} {Q:Value→Shared→Prop}
  (hl:typeLookup (.type T) "__getitem__"=pure (some (.builtin id))) (hs:Aw slice)
  (h:wpAny (model prog w) A (eval value env) (fun o s₁=>wpAny (model prog w) A (eval slice env) (fun i s₂=>s₂.TypeIs o T∧wpAny (model prog w) A (getItem o i) Q E s₂) E s₁) E s) :
  wpAny (model prog w) A (eval (.Subscript value slice pos) env) Q E s:=by
 refine Subscript_ (wpAny_mono h (fun o s₁ h₁=>wpAny_mono h₁ (fun i s₂ h₂=>?_) fun _ _ x=>x) fun _ _ x=>x)
 obtain ⟨hT,h₂⟩:=h₂
 unfold subscriptTail
 refine wpAny_bind ?_
 rw [getitemInPython_of_ne hT.not_modules]
 refine wpAny_bind (wpAny_specialOf hT hl ?_)
 have fin:wpAny (model prog w) A (subscripted slice false o i) (fun r s₃=>wpAny (model prog w) A (letTemporaryGo value o r >>= fun _=>pure r) Q E s₃) E s₂:=by
  rw [hs o i]
  exact wpAny_operating (wpAny_mono h₂ (fun r s₃ h₃=>wpAny_bind (wpAny_letTemporaryGo (wpAny_pure h₃))) fun _ _ x=>x)
 first
  | exact wpAny_pure (wpAny_bind fin)
  | exact wpAny_bind (wpAny_pure (wpAny_bind fin))
  | exact wpAny_bind fin
theorem ko {X:Cx} {pins:List (Addr×Obj)} {σ:St} {H:Hp} {s:Shared} {a:Addr} {y:V} {o:Option V} (I:Inv X pins σ H s) (g:Yv H a y o):s.TypeIs (.ref a) "dict":=by
 rcases g with ⟨kvs,k,e,_,_⟩ | ⟨kvs,k,b,e,_,_,_⟩
 ·obtain ⟨_,_,vs,_,dd⟩:=X8 I.hok e
  exact dd.typeIs
 ·obtain ⟨_,_,xs,_,dd⟩:=X5 I.hok e
  exact dd.typeIs
noncomputable def ac4 (td ty:TE):TE:=fun σ H Q=>td σ H fun x H1=>ty σ H1 fun y H2=>∃ a v,x=.ref a∧Yv H2 a y (some v)∧Q v H2
noncomputable def tDIn (ty td:TE):TE:=fun σ H Q=>ty σ H fun y H1=>td σ H1 fun x H2=>∃ a o,x=.ref a∧Yv H2 a y o∧Q (.bl o.isSome) H2
noncomputable def bq (ty td:TE):TE:=fun σ H Q=>ty σ H fun y H1=>td σ H1 fun x H2=>∃ a o,x=.ref a∧Yv H2 a y o∧Q (.bl (!o.isSome)) H2
noncomputable def ad5 (td ty tv:TE):TS:=fun D σ H=>tv σ H fun v H1=>td σ H1 fun x H2=>ty σ H2 fun y H3=>∃ a H4,x=.ref a∧b8 H3 a y v H4∧D.nx σ H4
section
variable {X:Cx} {o i e value:Expr} {pos pos' tpos:Pos} {td ty tv:TE}
theorem Bs (hu:X.A.units + 1 < cLine) (ho:PE X o td) (hi:PE X i ty) (hs:Aw i):PE X (.Subscript o i pos) (ac4 td ty):=by
 intro pins s σ H Q I h
 refine G3 PySem.F.slot_dict_getitem.lookup hs (thn (ho pins s σ H _ I h) fun u s1 ⟨x,H1,I1,rx,q1⟩=>thn (hi pins s1 σ H1 _ I1 q1) fun iv s2 ⟨y,H2,I2,ry,a,v,ex,g,q2⟩=>?_)
 subst ex
 obtain rfl:u=Value.ref a:=rx
 exact ⟨ko I2 g,E6 hu I2 g ry fun w' s3 I3 rw'=>⟨v,H2,I3,rw',q2⟩⟩
theorem a53 (hu:X.A.units + 1 < cLine) (hi:PE X i ty) (ho:PE X o td):PC X .In i o (tDIn ty td):=by
 intro pins s σ H Q I h
 refine thn (hi pins s σ H _ I h) fun iv s1 ⟨y,H1,I1,ry,q1⟩=>thn (ho pins s1 σ H1 _ I1 q1) fun u s2 ⟨x,H2,I2,rx,a,ov,ex,g,q2⟩=>?_
 subst ex
 obtain rfl:u=Value.ref a:=rx
 exact d_in hu I2 g ry fun s3 I3=>⟨.bl ov.isSome,H2,I3,rfl,q2⟩
theorem Fi (hu:X.A.units + 1 < cLine) (hi:PE X i ty) (ho:PE X o td):PC X .NotIn i o (bq ty td):=by
 intro pins s σ H Q I h
 refine thn (hi pins s σ H _ I h) fun iv s1 ⟨y,H1,I1,ry,q1⟩=>thn (ho pins s1 σ H1 _ I1 q1) fun u s2 ⟨x,H2,I2,rx,a,ov,ex,g,q2⟩=>?_
 subst ex
 obtain rfl:u=Value.ref a:=rx
 exact A4 hu I2 g ry fun s3 I3=>⟨.bl (!ov.isSome),H2,I3,rfl,q2⟩
theorem B8 (hu:X.A.units + 1 < cLine) (ho:PE X o td) (hi:PE X i ty) (hv:PE X value tv) (hs:swapsWith value (some (.Subscript o i pos')) pos.line X.env=pure false) :
  PS X (.Assign [.Subscript o i pos'] value pos) (ad5 td ty tv):=by
 intro pins s σ H D I h
 refine wpAny_Assign_Subscript (thn (hv pins s σ H _ I h) fun r s1 ⟨v,H1,I1,rv,q1⟩=>thn (ho pins s1 σ H1 _ I1 q1) fun u s2 ⟨x,H2,I2,rx,q2⟩=>thn (hi pins s2 σ H2 _ I2 q2) fun iv s3 ⟨y,H3,I3,ry,a,H4,ex,g,q3⟩=>?_) hs
 subst ex
 obtain rfl:u=Value.ref a:=rx
 exact E5 hu I3 g ry rv fun s4 I4=>⟨σ,H4,I4,q3⟩
end
theorem kq {P:Program} {w:World} {H:Hp} (h:Heap) (hb:sysModules < h.objs.size):Jg P w H (h.push { cls:=.type "dict",data:=.dict #[]}) h.objs.size (.dK []) :=
 ⟨Nat.zero_le _,beq_eq_false_iff_ne.mpr (Ne.symm (Nat.ne_of_lt hb)),[],.nil,Heap.DictOf.new h⟩
noncomputable def a28:TE:=fun _ H Q=>∀ p,H p=none→Q (.ref p) (upd H p (.dK []))
section
variable {X:Cx} {pos:Pos}
theorem Dr:PE X (.Dict [] [] pos) a28:=fun pins s σ H Q I h =>
 wpAny_Dict_empty ⟨.ref s.heap.objs.size,_,I.laid (a:=s.heap.objs.size) (o:=.dK []) (t':=s.toks) (fun _ _ q=>Heap.get?_push_of_some _ q) (Nat.le_refl _) (kq s.heap I.big),rfl,h _ (I.hok.fresh (Nat.le_refl _))⟩
end
noncomputable def W4:List (TE×TE)→St→Hp→(List (V×V)→Hp→Prop)→Prop
 | [],_,H,Q=>Q [] H
 | (tk,tv)::r,σ,H,Q=>tk σ H fun x H1=>tv σ H1 fun y H2=>W4 r σ H2 fun ps H3=>Q ((x,y)::ps) H3
noncomputable abbrev VV:List (V×V)→List (Value×Value)→Prop:=Paired fun p q=>jl p.1 q.1∧jl p.2 q.2
noncomputable def PPs (X:Cx) (pos:Pos) (keys:List (Option Expr)) (values:List Expr) (trs:List (TE×TE)):Prop :=
 ∀ (pins:List (Addr×Obj)) (s:Shared) (σ:St) (H:Hp) (Q:List (V×V)→Hp→Prop),Inv X pins σ H s→W4 trs σ H Q →
  wpAny (model X.prog X.w) X.A (evalPairs (pairTrees keys values X.env pos)) (fun vs s'=>∃ ps H',Inv X pins σ H' s'∧VV ps vs∧Q ps H') X.xe s
theorem B9 {X:Cx} {pos:Pos}:PPs X pos [] [] []:=fun pins s σ H Q I h=>pairTrees_nil_walk ⟨[],H,I,.nil,h⟩
theorem D9 {X:Cx} {pos:Pos} {k v:Expr} {ks:List (Option Expr)} {vs:List Expr} {tk tv:TE} {trs:List (TE×TE)} (hk:PE X k tk) (hv:PE X v tv) (hr:PPs X pos ks vs trs) :
  PPs X pos (some k::ks) (v::vs) ((tk,tv)::trs):=fun pins s σ H Q I h =>
 pairTrees_cons_walk (thn (hk pins s σ H _ I h) fun u s1 ⟨x,H1,I1,rx,q1⟩=>thn (hv pins s1 σ H1 _ I1 q1) fun w2 s2 ⟨y,H2,I2,ry,q2⟩ =>
  thn (hr pins s2 σ H2 _ I2 q2) fun ws s3 ⟨ps,H3,I3,rel,q3⟩=>⟨(x,y)::ps,H3,I3,.cons ⟨rx,ry⟩ rel,q3⟩)
noncomputable def zw (kvs more:List (Key×V)):List (Key×V):=more.foldl (fun acc kv=>Y2 acc kv.1 kv.2) kvs
theorem KV.merge:∀ {more:List (Key×V)} {rs:List (Key×Value)} {kvs:List (Key×V)} {vs:List (Key×Value)},KV more rs→KV kvs vs→KV (zw kvs more) (merged vs rs):=by
 intro more rs kvs vs r
 unfold KV at r
 induction r generalizing kvs vs with
 | nil=>intro q;exact q
 | @cons p q ps qs h t ih =>
  intro r0
  have e:KV (Y2 kvs p.1 p.2) (stored vs q.1 q.2):=by
   have:=r0.put p.1 h.2
   rw [← h.1];exact this
  exact ih e
theorem Z6:∀ (more kvs:List (Key×V)),(zw kvs more).length≤kvs.length + more.length
 | [],kvs=>by show kvs.length≤kvs.length + 0;omega
 | p::r,kvs=>by
  have h1:=Z6 r (Y2 kvs p.1 p.2)
  have h2:=zv kvs p.1 p.2
  show (zw (Y2 kvs p.1 p.2) r).length≤_
  rw [List.length_cons];omega
theorem Xx {P:Program} {w:World}:∀ {kvs:List (Key×V)} {ws:List (Value×Value)},VV (kvs.map fun kv=>(kV kv.1,kv.2)) ws→∃ rs,Carries (jh P w) ws rs∧KV kvs rs
 | [],_,r=>by rw [List.map_nil] at r;cases r;exact ⟨[],True.intro,.nil⟩
 | p::kvs,_,r=>by
  rw [List.map_cons] at r
  cases r with
  | @cons a b as bs h t =>
   obtain ⟨rs,c,q⟩:=Xx (P:=P) (w:=w) t
   obtain ⟨b1,b2⟩:=b
   exact ⟨(p.1,b2)::rs,⟨Yp h.1,rfl,c⟩,.cons ⟨rfl,h.2⟩ q⟩
noncomputable def ac3 (trs:List (TE×TE)):TE:=fun σ H Q=>∀ p,H p=none→W4 trs σ (upd H p (.dK [])) fun ps H2=>H2 p=some (.dK [])∧∃ kvs:List (Key×V),ps=kvs.map (fun kv=>(kV kv.1,kv.2))∧kvs.length≤15∧Q (.ref p) (upd H2 p (.dK (zw [] kvs)))
theorem Bt {X:Cx} {pos:Pos} {keys:List (Option Expr)} {values:List Expr} {trs:List (TE×TE)} (h:PPs X pos keys values trs) (hall:keys.all (·.isSome)=true) (hl:keys.length=values.length) (h0:keys≠[])
  (h15:keys.length≤15):PE X (.Dict keys values pos) (ac3 trs):=by
 intro pins s σ H Q I q
 have hn:=I.hok.fresh (Nat.le_refl s.heap.objs.size)
 have I1:=I.laid (a:=s.heap.objs.size) (o:=.dK []) (h':=s.heap.push { cls:=.type "dict",data:=.dict #[]}) (t':=s.toks) (fun _ _ q=>Heap.get?_push_of_some _ q) (Nat.le_refl _) (kq s.heap I.big)
 refine wpAny_Dict_walk (knd:=jh X.prog X.w) hall hl h0 h15 (thn (h pins _ σ _ _ I1 (q _ hn)) fun ws s2 ⟨ps,H2,I2,rel,e,kvs,ep,lk,q2⟩=>?_)
 subst ep
 obtain ⟨rs,c,rk⟩:=Xx (P:=X.prog) (w:=X.w) rel
 obtain ⟨z,hd,vs0,r0,dd⟩:=a08 I2.hok e
 cases r0
 refine ⟨rs,c,dd,fun h' dd' hs=>⟨.ref s.heap.objs.size,_,?_,rfl,q2⟩⟩
 have hz:(zw [] kvs).length≤sizeLine:=by
  have h1:=Z6 kvs []
  rw [List.length_nil] at h1
  rw [sizeLine_eq];omega
 have he:∃ q,h'.get? s.heap.objs.size=some q:=let ⟨q,_,_,hq,_⟩:=dd';⟨q,hq⟩
 exact vw I2 (by rw [e];exact True.intro) hs he (dk_new hz hd (rk.merge .nil) dd')
structure M2 (X:Cx) (o:Expr) (m:Str) (apos:Pos) (e f:Expr) (cpos:Pos):Prop where
 base:attributeBase o m X.env (eval o X.env)=eval o X.env
 few:((backTo cpos (starEach [e,f] X.env)).all (fun x=> !x.1) && (backToKw cpos (keywordEach [] X.env)).all (fun x=>x.1.isSome)
  && decide (([e,f]:List Expr).length + ([]:List Keyword).length + (if ([]:List Keyword).isEmpty then 0 else 1) < 30))=true
 line:(apos.endLine == cpos.line)=true
 trees:backTo cpos (starEach [e,f] X.env)=[(false,eval e X.env),(false,eval f X.env)]
noncomputable def IsD (H:Hp) (a:Addr):Prop:=(∃ kvs,Rd H a (.dK kvs))∨∃ kvs,Rd H a (.dT kvs)
theorem a93 {X:Cx} {pins:List (Addr×Obj)} {σ:St} {H:Hp} {s:Shared} {a:Addr} (I:Inv X pins σ H s) (d:IsD H a) :
  s.TypeIs (.ref a) "dict"∧(∀ b,Value.ref a=.ref b→∃ ob,s.heap.get? b=some ob∧ob.dict=none)∧(a == sysModules)=false:=by
 rcases d with ⟨kvs,e⟩ | ⟨kvs,e⟩
 ·obtain ⟨_,hd,vs,_,dd⟩:=X8 I.hok e
  refine ⟨dd.typeIs,fun b q=>?_,hd⟩
  cases q
  obtain ⟨ob,_,_,h1,h2,_⟩:=dd
  exact ⟨ob,h1,h2.2.1⟩
 ·obtain ⟨_,hd,xs,_,dd⟩:=X5 I.hok e
  refine ⟨dd.typeIs,fun b q=>?_,hd⟩
  cases q
  obtain ⟨ob,_,_,h1,h2,_⟩:=dd
  exact ⟨ob,h1,h2.2.1⟩
section
variable {X:Cx} {pins:List (Addr×Obj)} {σ:St} {H:Hp} {s:Shared} {a:Addr} {y d:V} {u r:Value} {o:Option V} {A:Around} {E:Value→Shared→Prop}
theorem aa4 {Q:Value→Shared→Prop} (hu:A.units + 1 < cLine) (I:Inv X pins σ H s) (g:Yv H a y o) (ry:jl y u) (rd:jl d r) (h:∀ w' s',Inv X pins σ H s'→jl (o.getD d) w'→Q w' s') :
  wpAny (model X.prog X.w) A (call (.builtin "dict.get") [.ref a,u,r]) Q E s:=by
 rcases g with ⟨kvs,k,e,ey,l⟩ | ⟨kvs,k,b,e,ey,eb,l⟩
 ·subst ey
  obtain ⟨z,hd,vs,rel,dd⟩:=X8 I.hok e
  refine call_meetsIn PySem.F.slot_dict_get dd.typeIs PySem.F.entry_dict_get (PySem.F.args_dict_get_3 _ _ _) (meets_dict_get_default (jh X.prog X.w) a (Yp ry) hd r) ⟨_,dd.mapOf,h _ _ (I.tok _) ?_⟩
  rw [l]
  exact (rel.val k).getD rd
 ·subst ey
  cases (show u=Value.ref b from ry)
  obtain ⟨z,hd,xs,rel,dd⟩:=X5 I.hok e
  refine call_meetsIn PySem.F.slot_dict_get dd.typeIs PySem.F.entry_dict_get (PySem.F.args_dict_get_3 _ _ _) (meetsH_dict_get_default (tupleKind (jh X.prog X.w)) a b hd r) ⟨tupleKind_room_in1 hu,k,xs,Q6 I.hok eb,dd,h _ _ (I.tok _) ?_⟩
  rw [l]
  exact (rel.val k).getD rd
end
noncomputable def a29 (td ty tx:TE):TE:=fun σ H Q=>td σ H fun x H1=>∃ a,x=.ref a∧IsD H1 a∧ty σ H1 fun y H2=>tx σ H2 fun z H3=>∃ o,Yv H3 a y o∧Q (o.getD z) H3
section
variable {X:Cx} {o e f:Expr} {apos cpos:Pos} {td ty tx:TE}
theorem Dq (hu:X.A.units + 1 < cLine) (ho:PE X o td) (he:PE X e ty) (hf:PE X f tx) (m:M2 X o "get" apos e f cpos):PE X (.Call (.Attribute o "get" apos) [e,f] [] cpos) (a29 td ty tx):=by
 intro pins s σ H Q I h
 refine wpAny_Call_method m.base m.few m.line PySem.F.plainAttrs_dict PySem.F.slot_dict_get PySem.F.type_dict_get (thn (ho pins s σ H _ I h) fun u s1 ⟨x,H1,I1,rx,a,ex,d,q1⟩=>?_)
 subst ex
 obtain rfl:u=Value.ref a:=rx
 obtain ⟨t1,t2,_⟩:=a93 I1 d
 refine ⟨t1,t2,?_⟩
 rw [m.trees]
 refine Calls.callWith_builtin rfl (Calls.evalArgs_plain (Calls.spliced_cons (thn (he pins s1 σ H1 _ I1 q1) fun iv s2 ⟨y,H2,I2,ry,q2⟩ =>
  Calls.spliced_cons (thn (hf pins s2 σ H2 _ I2 q2) fun fv s3 ⟨z,H3,I3,rz,ov,g,q3⟩=>Calls.spliced_nil ?_))))
 exact aa4 hu I3 g ry rz fun w' s4 I4 rw'=>⟨_,H3,I4,rw',q3⟩
end
section
variable {X:Cx} {pins:List (Addr×Obj)} {σ:St} {H:Hp} {s:Shared} {a:Addr} {kvs:List (Key×V)} {A:Around} {E:Value→Shared→Prop}
end
section
variable {X:Cx} {pins:List (Addr×Obj)} {σ:St} {H:Hp} {s:Shared} {a:Addr} {y:V} {u:Value} {A:Around} {E:Value→Shared→Prop}
end
end L2
namespace Att
open PySem PySem.W PySem.Calls PyProof.Rows
theorem Qn {P:Params} {h:Heap}:∀ (ns:List Int) (vs:List Value),WellAll P h vs (ns.map WData.int)→IntsAre vs ns:=by
 intro ns
 induction ns with
 | nil =>
  intro vs w
  rw [List.map_nil] at w
  cases w
  exact .nil
 | cons n ns ih =>
  intro vs w
  rw [List.map_cons] at w
  cases w with
  | cons a b =>
   cases a
   exact .cons _ _ (ih _ b)
theorem Fo {l:OpenLaw} {n:Nat} (hn:l.most=some n) {P:Params} {h:Heap} {args:List WData} {vals:List Value}
  (hpre:l.row.toRowW.claim.pre args=true) (hwl:WellAll P h vals args) :
  ∃ a vs ns,vals=[Value.ref a]∧args=[WData.list (ns.map WData.int)]∧h.get? a=some { cls:=.type "list",data:=.seq vs.toArray}∧IntsAre vs ns∧ns.length≤n:=by
 have hsh:WShape.hasAll [] args [.list .int]=true:=(pre_splitW hpre).1
 have hc:l.pre.holds [] { args:=args}=true:=(pre_splitW hpre).2
 obtain ⟨d,r,rfl,h1,h2⟩:=hasAllW_cons hsh
 obtain rfl:=hasAllW_nil h2
 obtain ⟨xs,rfl,h3⟩:=hasW_list h1
 obtain ⟨ns,rfl⟩:=items_int h3
 have hlen:ns.length≤n:=by
  unfold OpenLaw.pre at hc
  have h4:(WTm.not (.lt (.lit (.int (n:Int))) (.len (.arg 0)))).holds [] { args:=[.list (ns.map .int)]}=true:=by
   have h4:=(holds_andW hc).1
   rw [hn] at h4
   exact h4
  have h5:=condW_of h4 (w_not (w_lt w_lit (w_len_list (w_arg rfl))))
  rw [List.length_map] at h5
  refine Nat.le_of_not_lt fun q=>?_
  have q':(n:Int) < ((ns.length:Nat):Int):=by omega
  first
   | (rw [decide_eq_true q'] at h5;exact absurd h5 (by decide))
   | (simp at h5;omega)
 cases hwl with
 | cons w1 w2 =>
  cases w2
  cases w1 with
  | list ho hall=>exact ⟨_,_,ns,rfl,rfl,ho,Qn ns _ hall,hlen⟩
theorem Fl (l:OpenLaw) (args:List WData):l.row.toRowW.claim.post args (.bool true) args=true :=
 postW_of (r:=l.row.toRowW) (X:=(true == true))
  (show WShape.has [] (.bool true) .bool=true by first | rfl | decide | simp [WShape.has,WShape.arms,WShape.armsAll])
  (show (WTm.eq .res (.lit (.bool true))).value [] { args:=args,res:=some (.bool true),after:=args}=some (.bool (true == true)) from w_eq_bool (w_res rfl) w_lit) rfl
theorem attach_call {l:OpenLaw} {n:Nat} {q:Program} {loose:List Str} {XP:(Str→Option Value)→Heap→Prop} {YP:World→Heap→Prop} {d:DefRec}
  (hn:l.most=some n) (hdf:d.params.defaults=[])
  (call:∀ (w:World) (s₀ s₁:Shared) (mg mb:Str→Option Value) (fa:Addr) (o:Obj) (pm cd doc:Value) (a:Addr) (vs:List Value) (ns:List Int),
   Ground q loose [] XP w s₀ mg mb s₁.heap→YP w s₁.heap →
   s₁.heap.get? fa=some o→o.data=.func (docDef d.name d.params d.body d.scope pm cd doc)→s₁.heap.CodeRec cd d.name→mg d.name=some (.ref fa) →
   s₁.heap.get? a=some { cls:=.type "list",data:=.seq vs.toArray}→IntsAre vs ns→ns.length≤n→s₁.gens= #[] →
   codeAny (model l.prog w) callerA (.call (.ref fa) ⟨[.ref a],[]⟩) (fun r s'=>r=.ok (.ret (.bool true))∧OldK s₁.heap s'.heap∧s'.os=s₁.os∧AllBare s'.gens) s₁) :
  WalkO q loose XP YP l.row.toRowW d [] (fun f vs=>PySem.call f vs):=by
 intro w s₀ s₁ mg mb G Y fa o pm cd doc dV kV ho hd hcd hD hmg hg args vals as hpre hlay hrd hwl hlo
 obtain rfl:dV=.none:=Dflts.none hD hdf
 obtain rfl:kV=.none:=Dflts.noKw hD
 obtain ⟨a,vs,ns,rfl,rfl,hobj,hints,hlen⟩:=Fo hn hpre hwl
 refine enter_call (codeAny_mono (call w s₀ s₁ mg mb fa o pm cd doc a vs ns G Y ho (fd_plain hd) hcd hmg hobj hints hlen hg) fun r s' hq=>?_)
 obtain ⟨rfl,h2,h3,h4⟩:=hq
 exact ⟨.inl ⟨.bool true,.bool true,[],rfl,fun _=>rfl,.bool true,Fl l _,fun _=>⟨List.Pairwise.nil,fun _ hm=>(nomatch hm)⟩⟩,h2,h3,h4⟩
section
variable {prog:Program} {w:World} {A:Around} {E:Value→Shared→Prop} {s:Shared} {K:Frag}
end
end Att
namespace L2
open PySem PySem.Spec PyProof.Rows
theorem Xh:∀ {vs:List Value} {ns:List Int},IntsAre vs ns→jq (ns.map V.int) vs
 | _,_,.nil=>.nil
 | _,_,.cons n t h=>.cons ⟨t,rfl⟩ (Xh h)
noncomputable def ab6 (H:Hp):Prop:=∀ b,H b=none∨∃ o xs,H b=some (.frz o (.lst xs))
theorem cm {P:Program} {w:World} {K:PySem.W.Frag} {mg mb:Str→Option Value} {CX:CXT} {k:Nat} {fa a:Addr} {fd:FuncData} {x:Str} {sp:Sp} {s₁:Shared} {vs:List Value} {ns:List Int}
  (KX:K.In s₁.heap) (hns:s₁.heap.Ns mainGlobals mg) (hb:s₁.heap.Ns builtinsNs mb) (hbb:∀ x:Str,x≠"__name__"→mb x=bootBuiltins x) (hlim:s₁.heap.NoLimit) (hg:s₁.gens= #[])
  (ha:s₁.heap.get? a=some { cls:=.type "list",data:=.seq vs.toArray}) (hi:IntsAre vs ns) (hl:ns.length≤sizeLine) (hr:Room k callerA)
  (F:∀ base:Heap,K.In base→base.Ns mainGlobals mg→FnOk P w K mg base CX k fa fd [x] sp) (hbind:∀ (s:Shared) (u:Value),BindsTo s fd ⟨[u],[]⟩ [(x,u)])
  (hsp:∀ H:Hp,ab6 H→SqL K H a (ns.map V.int)→sp [.ref a] H (fun v _=>v=.bl true) fun _ _ _=>False)
  (hCX:∀ H e s',CX [] H s₁ (fun _ _ _=>False) e s'→False) :
  codeAny (model P w) callerA (.call (.ref fa) ⟨[.ref a],[]⟩) (fun r s'=>r=.ok (.ret (.bool true))∧OldK s₁.heap s'.heap∧s'.os=s₁.os∧AllBare s'.gens) s₁:=by
 have rv:=Xh hi
 have lenV:=hi.length
 have core:∀ H:Hp,ab6 H→SqL K H a (ns.map V.int)→HOk P w H s₁.heap→(∀ b,H b≠none→b=a)→(H a≠none→K.lookup a=none) →
   codeAny (model P w) callerA (.call (.ref fa) ⟨[.ref a],[]⟩) (fun r s'=>r=.ok (.ret (.bool true))∧OldK s₁.heap s'.heap∧s'.os=s₁.os∧AllBare s'.gens) s₁:=by
  intro H hO hS hok hA hK
  have base_of:∀ {b:Addr} {o:Obj},s₁.heap.get? b=some o→H b=none→(Wc s₁.heap H).get? b=some o:=fun e n=>C1 e n
  have noA:∀ {b:Addr} {o:Obj} {es:Array DictEntry} {ep:Nat},s₁.heap.get? b=some o→o.data=.dict es ep→H b=none:=fun {b o es ep} e d=>by
   cases q:H b with
   | none=>rfl
   | some u =>
    have e':b=a:=hA b (by rw [q];simp)
    subst e'
    rw [ha] at e;cases e
    have d':Data.seq vs.toArray _=Data.dict es ep:=d
    cases d'
  have nsK:∀ {b:Addr} {m:Str→Option Value},s₁.heap.Ns b m→(Wc s₁.heap H).Ns b m:=fun {b m} ⟨o,es,ep,e,d,r⟩=>⟨o,es,ep,base_of e (noA e d),d,r⟩
  have hKb:K.In (Wc s₁.heap H):=fun b o e=>base_of (KX b o e) (by
   cases q:H b with
   | none=>rfl
   | some u =>
    have e':b=a:=hA b (by rw [q];simp)
    subst e'
    rw [hK (by rw [q];simp)] at e;cases e)
  have hM:Mod K mg (Wc s₁.heap H):=⟨hKb,nsK hns,⟨mb,nsK hb,hbb⟩,let ⟨mc,h1,h2⟩:=hlim;⟨mc,nsK h1,h2⟩⟩
  have e0:Env0 P w K mg (Wc s₁.heap H) callerA [] s₁ H:=⟨rfl,hM,fun b o e=>Bd e,Nat.le_of_eq (eg _ _),trivial,fun b hb=>absurd (show b∈([]:List Addr) from hb) (by simp),hok,.of_eq hg⟩
  refine codeAny_mono ((F _ hKb (nsK hns)).run callerA [] s₁ H ⟨[.ref a],[]⟩ [.ref a] [.ref a] _ _ hr e0 (hbind s₁ (.ref a)) (.cons rfl .nil) (hsp H hO hS)) fun r s' h=>?_
  cases r with
  | error e=>exact (hCX H e s' h).elim
  | ok fl =>
   cases fl with
   | next=>exact False.elim h
   | brk=>exact False.elim h
   | cont=>exact False.elim h
   | ret u =>
    obtain ⟨v,H',os,bare,un,hok',r',q⟩:=h
    have q':v=.bl true:=q
    subst q'
    obtain rfl:u=Value.bool true:=r'
    refine ⟨rfl,OldK.of_keep fun b o e=>?_,os,bare⟩
    cases q:H b with
    | none=>exact un.keep b o e q (by intro z;exact absurd (show b∈([]:List Addr) from z) (by simp)) (by simp)
    | some u =>
     rcases hO b with z | ⟨ob,xs,z⟩
     ·rw [q] at z;cases z
     ·have z2:=un.frzs b ob _ z
      obtain ⟨e1,_⟩:=hok b _ z
      obtain ⟨e2,_⟩:=hok' b _ z2
      rw [e] at e1;cases e1
      exact e2
 cases hk:K.lookup a with
 | some o =>
  have e:=KX a o hk
  rw [ha] at e
  cases e
  refine core (fun _=>none) (fun _=>.inl rfl) (.inr ⟨_,vs.toArray,_,hk,rfl,rfl,rfl,by rw [List.size_toArray,lenV];exact hl,by simpa using rv⟩) (fun b u z=>by have z':(none:Option HO)=some u:=z;cases z') (fun b z=>absurd rfl z) fun z=>absurd rfl z
 | none =>
  refine core (fun b=>if b=a then some (.frz { cls:=.type "list",data:=.seq vs.toArray} (.lst (ns.map V.int))) else none) (fun b=>?_) (.inl (.inr ⟨{ cls:=.type "list",data:=.seq vs.toArray},if_pos rfl⟩)) (fun b u z=>?_) (fun b z=>?_) fun _=>hk
  ·by_cases hb:b=a
   ·exact .inr ⟨_,_,if_pos hb⟩
   ·exact .inl (if_neg hb)
  ·by_cases hb:b=a
   ·have z':=(if_pos hb).symm.trans z
    cases z'
    subst hb
    exact ⟨ha,by rw [List.length_map];exact hl,vs,_,rv,ha⟩
   ·have z':=(if_neg hb).symm.trans z
    cases z'
  ·by_cases hb:b=a
   ·exact hb
   ·exact absurd (if_neg hb) z
end L2
namespace L2
open PySem PySem.Spec PyProof.Rows
theorem walk_of {l:PySem.W.OpenLaw} {n k:Nat} {q:Program} {loose:List Str} {XP:(Str→Option Value)→Heap→Prop} {YP:World→Heap→Prop} {d:DefRec} {K:Params→PySem.W.Frag} {CX:World→CXT} {sp:World→Sp} {x:Str}
  (hn:l.most=some n) (hn2:n≤sizeLine) (hdf:d.params.defaults=[]) (hr:Room k callerA)
  (hY:∀ (w:World) (h:Heap),YP w h→(K w.params).In h)
  (F:∀ (w:World) (mg:Str→Option Value) (fa:Addr) (h:Heap),(K w.params).In h→h.Ns mainGlobals mg→mg d.name=some (.ref fa) →
   ∃ fd:FuncData,(∀ (s:Shared) (u:Value),BindsTo s fd ⟨[u],[]⟩ [(x,u)]) ∧
    ∀ base:Heap,(K w.params).In base→base.Ns mainGlobals mg→FnOk l.prog w (K w.params) mg base (CX w) k fa fd [x] (sp w))
  (hsp:∀ (w:World) (H:Hp) (a:Addr) (ns:List Int),ns.length≤n→ab6 H→SqL (K w.params) H a (ns.map V.int)→sp w [.ref a] H (fun v _=>v=.bl true) fun _ _ _=>False)
  (hCX:∀ (w:World) (H:Hp) (s:Shared) (e:Value) (s':Shared),CX w [] H s (fun _ _ _=>False) e s'→False) :
  PySem.W.WalkO q loose XP YP l.row.toRowW d [] (fun f vs=>PySem.call f vs):=by
 refine Att.attach_call hn hdf fun w s₀ s₁ mg mb fa o pm cd doc a vs ns G Y ho hd hcd hmg hobj hints hlen hg=>?_
 have KX:=hY w _ Y
 obtain ⟨fd,hb,hF⟩:=F w mg fa _ KX G.T.g hmg
 exact cm KX G.T.g G.T.b G.T.builtins G.T.nolimit hg hobj hints (Nat.le_trans hlen hn2) hr hF hb (fun H hO hS=>hsp w H a ns hlen hO hS) fun H e s'=>hCX w H s₁ e s'
end L2
namespace L2
open PySem PySem.Spec PyProof.Rows
noncomputable def defArgs (s:Stmt):Arguments:=match s with
 | .FunctionDef _ a _ _ _ _ _ _ _ _=>a
 | _=>{ posonlyargs:=[],args:=[],vararg:=none,kwonlyargs:=[],kw_defaults:=[],kwarg:=none,defaults:=[]}
noncomputable def defBody (s:Stmt):List Stmt:=match s with
 | .FunctionDef _ _ b _ _ _ _ _ _ _=>b
 | _=>[]
noncomputable def defScope (s:Stmt):Scope:=match s with
 | .FunctionDef _ _ _ _ _ _ sc _ _ _=>sc
 | _=>{ kind:=.function,names:=[],isGenerator:=false,isCoroutine:=false}
noncomputable abbrev CX0:CXT:=fun _ _ _ _ _ _=>False
noncomputable abbrev E0:XK:=fun _ _ _=>False
theorem Af {X:Cx}:ve CX0 X E0:=fun _ _ _ _ _ _ _ h=>h.elim
structure Fun (K:PySem.W.Frag) (x qual:Str) (st:Stmt) (f:Addr) (fd:FuncData):Prop where
 ex:∃ (oc:Value) (od:Option Addr) (kV doc pm:Value) (an:Option Addr) (cdv ct:Value) (osl:Array (Option Value)),
  fd=PySem.W.fnOf x qual (defArgs st) (defBody st) (defScope st) .none kV doc pm an cdv ct∧K.lookup f=some ⟨oc,od,.func fd,osl⟩∧PySem.W.codeIn K cdv qual=true
 kp:PySem.W.keepIn K (.ref f)=true
section
variable {P:Program} {w:World} {K:PySem.W.Frag} {mg:Str→Option Value} {base:Heap}
theorem Fun.ok {x qual:Str} {st:Stmt} {f:Addr} {fd:FuncData} {N ps:List Str} {k:Nat} {sp:Sp} (F:Fun K x qual st f fd) (S:FnScope N ps (defScope st)) (len:∀ vs H Q E,sp vs H Q E→vs.length=ps.length)
  (hbody:∀ (cdv:Value) (A:Around) (outer:List Env) (s:Shared) (H:Hp) (vs:List V) (Q:VK) (E:XK),Room k (A.deeper (envOfC qual (defScope st) s.heap.objs.size f cdv))→sp vs H Q E →
   ∃ t,PSs (X9 CX0 P w K mg base N qual (defScope st) f cdv A outer s H E).nox (defBody st) t∧t { nx:=fun _ H'=>Q .non H',rt:=Q} (start N vs) H):FnOk P w K mg base CX0 (k + 1) f fd ps sp:=by
 obtain ⟨oc,od,kV,doc,pm,an,cdv,ct,osl,rfl,lk,hcd⟩:=F.ex
 refine ai6 lk hcd S len fun A outer s H vs Q E hr hsp=>?_
 obtain ⟨t,h,q⟩:=hbody cdv A outer s H vs Q E hr hsp
 exact ⟨t,h.nox,q⟩
theorem a96 {x qual:Str} {st:Stmt} {f:Addr} {oc:Value} {od an:Option Addr} {osl:Array (Option Value)} {kV doc pm cdv ct:Value} (l:K.lookup f=some ⟨oc,od,.func (PySem.W.fnOf x qual (defArgs st) (defBody st) (defScope st) .none kV doc pm an cdv ct),osl⟩)
  (c:PySem.W.codeIn K cdv qual=true) (k:PySem.W.keepIn K (.ref f)=true):Fun K x qual st f (PySem.W.fnOf x qual (defArgs st) (defBody st) (defScope st) .none kV doc pm an cdv ct):=⟨⟨oc,od,kV,doc,pm,an,cdv,ct,osl,rfl,l,c⟩,k⟩
end
section
variable {X:Cx}
theorem pv (i:Nat) {x:Str} {pos:Pos} (hN:X.N[i]? =some x:=by rfl) (hv:Vis X.env.scope x:=by first | exact Or.inl rfl | exact Or.inr (Or.inl rfl) | exact Or.inr (Or.inr rfl)) (hd:(x == ("__debug__":Str))=false:=by decide)
  (hcd:(x == ("__classdict__":Str))=false:=by decide):PE X (.Name x pos) (a27 i):=Dw hN hv hd hcd
end
noncomputable def jr (H H':Hp):Prop:=∀ b o,H b=some o→H' b=some o
theorem jr.refl (H:Hp):jr H H:=fun _ _ h=>h
theorem jr.trans {H H1 H2:Hp} (a:jr H H1) (b:jr H1 H2):jr H H2:=fun c o h=>b c o (a c o h)
theorem jr.seq {K:PySem.W.Frag} {H H':Hp} {a:Addr} {xs:List V} (e:jr H H') (h:SqL K H a xs):SqL K H' a xs:=by
 rcases h with (h | ⟨o,h⟩) | h
 ·exact .inl (.inl (e _ _ h))
 ·exact .inl (.inr ⟨o,e _ _ h⟩)
 ·exact .inr h
end L2
set_option Elab.async false
set_option linter.all false
set_option maxRecDepth 100000
set_option maxHeartbeats 4000000
namespace M
open PySem PySem.Spec PyProof.Rows L2
noncomputable abbrev DK:=Sum Int (List Nat)
inductive D where
 | non | bl (b:Bool) | int (i:Int) | str (x:List Nat) | tup (xs:List D) | lst (xs:List D) | dic (ks:List DK) (vs:List D) | ref (k:Nat)
noncomputable def dk:DK→Key
 | .inl i=>.inl i
 | .inr x=>.inr ⟨x.toArray⟩
inductive Cell where
 | lst (ds:List D) | dic (ks:List DK) (vs:List D) | dead
 | exn (c:Str) (j:Nat) | xdc (nm:Str) (d:D) | obj (c:Str) (ns:List Str) (ds:List D)
noncomputable abbrev Mu:=List Cell
structure Exc where
 c:Nat
 d:D
inductive Res (α:Type) where
 | ok (a:α) (μ:Mu)
 | exc (x:Exc) (μ:Mu)
 | bad
noncomputable def Res.bind {α β:Type}:Res α→(α→Mu→Res β)→Res β
 | .ok a μ,f=>f a μ
 | .exc x μ,_=>.exc x μ
 | .bad,_=>.bad
noncomputable def ofO {α:Type} (μ:Mu):Option α→Res α
 | some a=>.ok a μ
 | none=>.bad
@[simp] theorem bind_ok {α β:Type} (a:α) (μ:Mu) (f:α→Mu→Res β):(Res.ok a μ).bind f=f a μ:=rfl
@[simp] theorem ofO_some {α:Type} (μ:Mu) (a:α):ofO μ (some a)=.ok a μ:=rfl
noncomputable def j4 (μ:Mu):D→D
 | .ref k=>match μ[k]? with
  | some (.lst ds)=>.lst ds
  | some (.dic ks vs)=>.dic ks vs
  | _=>.ref k
 | d=>d
@[simp] theorem deref_int (μ:Mu) (i:Int):j4 μ (.int i)=.int i:=rfl
@[simp] theorem deref_dic (μ:Mu) (x:List DK) (y:List D):j4 μ (.dic x y)=.dic x y:=rfl
noncomputable abbrev En:=List (Option D)
noncomputable abbrev MX:=En→Mu→Res D
noncomputable abbrev MB:=En→Mu→Res Bool
noncomputable abbrev MAs:=En→Mu→Res (List D)
inductive Out where
 | nx (ρ:En) | rt (d:D) | bk (ρ:En) | ct (ρ:En)
noncomputable abbrev MSt:=En→Mu→Res Out
mutual
noncomputable def Rep (K:PySem.W.Frag) (F:Hp) (α:List Addr):D→V→Prop
 | .non,v=>v=.non
 | .bl b,v=>v=.bl b
 | .int i,v=>v=.int i
 | .str x,v=>v=.str ⟨x.toArray⟩
 | .tup ds,v=>∃ a vs,v=.ref a∧SqT K F a vs∧Reps K F α ds vs
 | .lst ds,v=>∃ a vs,v=.ref a∧SqL K F a vs∧Reps K F α ds vs
 | .dic ks ds,v=>∃ a vs,v=.ref a∧F a=some (.dK ((ks.map dk).zip vs))∧ks.length=ds.length∧Reps K F α ds vs
 | .ref k,v=>∃ a,α[k]? =some a∧v=.ref a
noncomputable def Reps (K:PySem.W.Frag) (F:Hp) (α:List Addr):List D→List V→Prop
 | [],vs=>vs=[]
 | d::ds,vs=>∃ v r,vs=v::r∧Rep K F α d v∧Reps K F α ds r
end
structure Ext (α:List Addr) (F:Hp) (α':List Addr) (F':Hp):Prop where
 fr:jr F F'
 al:∀ (k:Nat) (a:Addr),α[k]? =some a→α'[k]? =some a
theorem Ext.refl (α:List Addr) (F:Hp):Ext α F α F:=⟨jr.refl F,fun _ _ h=>h⟩
theorem Ext.trans {α α1 α2:List Addr} {F F1 F2:Hp} (a:Ext α F α1 F1) (b:Ext α1 F1 α2 F2):Ext α F α2 F2:=⟨a.fr.trans b.fr,fun k x h=>b.al k x (a.al k x h)⟩
theorem jr.tup {K:PySem.W.Frag} {H H':Hp} {a:Addr} {xs:List V} (e:jr H H') (h:SqT K H a xs):SqT K H' a xs:=by
 rcases h with (h | ⟨o,h⟩) | h
 ·exact .inl (.inl (e _ _ h))
 ·exact .inl (.inr ⟨o,e _ _ h⟩)
 ·exact .inr h
section
variable {K:PySem.W.Frag} {F F' H H':Hp} {α α':List Addr}
mutual
theorem Rep.mono (e:Ext α F α' F'):∀ {d:D} {v:V},Rep K F α d v→Rep K F' α' d v
 | .non,_,h=>h
 | .bl _,_,h=>h
 | .int _,_,h=>h
 | .str _,_,h=>h
 | .tup ds,v,h=>by
  unfold Rep at h ⊢
  obtain ⟨a,vs,hv,hs,hr⟩:=h
  exact ⟨a,vs,hv,jr.tup e.fr hs,Reps.mono e hr⟩
 | .lst ds,v,h=>by
  unfold Rep at h ⊢
  obtain ⟨a,vs,hv,hs,hr⟩:=h
  exact ⟨a,vs,hv,e.fr.seq hs,Reps.mono e hr⟩
 | .dic ks ds,v,h=>by
  unfold Rep at h ⊢
  obtain ⟨a,vs,hv,hs,hl,hr⟩:=h
  exact ⟨a,vs,hv,e.fr _ _ hs,hl,Reps.mono e hr⟩
 | .ref k,v,h=>by
  unfold Rep at h ⊢
  obtain ⟨a,ha,hv⟩:=h
  exact ⟨a,e.al k a ha,hv⟩
theorem Reps.mono (e:Ext α F α' F'):∀ {ds:List D} {vs:List V},Reps K F α ds vs→Reps K F' α' ds vs
 | [],_,h=>h
 | d::ds,vs,h=>by
  unfold Reps at h ⊢
  obtain ⟨v,r,hv,h1,h2⟩:=h
  exact ⟨v,r,hv,Rep.mono e h1,Reps.mono e h2⟩
end
theorem Reps.length:∀ {ds:List D} {vs:List V},Reps K F α ds vs→ds.length=vs.length
 | [],vs,h=>by unfold Reps at h;subst h;rfl
 | d::ds,vs,h=>by
  unfold Reps at h
  obtain ⟨v,r,hv,_,h2⟩:=h
  subst hv
  simp [Reps.length h2]
theorem Reps.get:∀ {ds:List D} {vs:List V} {i:Nat} {d:D},Reps K F α ds vs→ds[i]? =some d→∃ v,vs[i]? =some v∧Rep K F α d v
 | [],_,_,_,_,e=>by simp at e
 | d::ds,vs,0,d',h,e=>by
  unfold Reps at h
  obtain ⟨v,r,hv,h1,_⟩:=h
  subst hv
  simp at e
  subst e
  exact ⟨v,rfl,h1⟩
 | d::ds,vs,i + 1,d',h,e=>by
  unfold Reps at h
  obtain ⟨v,r,hv,_,h2⟩:=h
  subst hv
  obtain ⟨u,hu,hr⟩:=Reps.get (i:=i) (d:=d') h2 (by simpa using e)
  exact ⟨u,by simpa using hu,hr⟩
theorem Reps.append:∀ {ds es:List D} {vs us:List V},Reps K F α ds vs→Reps K F α es us→Reps K F α (ds++es) (vs++us)
 | [],_,_,_,h,h'=>by unfold Reps at h;subst h;exact h'
 | d::ds,es,vs,us,h,h'=>by
  unfold Reps at h
  obtain ⟨v,r,hv,h1,h2⟩:=h
  subst hv
  show Reps K F α (d::(ds++es)) (v::(r++us))
  unfold Reps
  exact ⟨v,_,rfl,h1,Reps.append h2 h'⟩
theorem j6:Reps K F α [] []:=by unfold Reps;rfl
theorem j2 {d:D} {ds:List D} {v:V} {vs:List V} (h:Rep K F α d v) (h':Reps K F α ds vs):Reps K F α (d::ds) (v::vs):=by unfold Reps;exact ⟨v,vs,rfl,h,h'⟩
theorem Reps.one {d:D} {vs:List V} (h:Reps K F α [d] vs):∃ v,vs=[v]∧Rep K F α d v:=by
 unfold Reps at h
 obtain ⟨v,r,hv,h1,h2⟩:=h
 unfold Reps at h2
 subst h2
 exact ⟨v,hv,h1⟩
theorem Reps.two {d e:D} {vs:List V} (h:Reps K F α [d,e] vs):∃ v u,vs=[v,u]∧Rep K F α d v∧Rep K F α e u:=by
 unfold Reps at h
 obtain ⟨v,r,hv,h1,h2⟩:=h
 obtain ⟨u,hr,h3⟩:=h2.one
 subst hr
 exact ⟨v,u,hv,h1,h3⟩
theorem Reps.take:∀ {ds:List D} {vs:List V} (n:Nat),Reps K F α ds vs→Reps K F α (ds.take n) (vs.take n)
 | _,_,0,_=>by simp;exact j6
 | [],vs,n + 1,h=>by unfold Reps at h;subst h;exact j6
 | d::ds,vs,n + 1,h=>by
  unfold Reps at h
  obtain ⟨v,r,hv,h1,h2⟩:=h
  subst hv
  simp only [List.take_succ_cons]
  exact j2 h1 (Reps.take n h2)
theorem Reps.drop:∀ {ds:List D} {vs:List V} (n:Nat),Reps K F α ds vs→Reps K F α (ds.drop n) (vs.drop n)
 | _,_,0,h=>h
 | [],vs,n + 1,h=>by unfold Reps at h;subst h;exact j6
 | d::ds,vs,n + 1,h=>by
  unfold Reps at h
  obtain ⟨v,r,hv,h1,h2⟩:=h
  subst hv
  exact Reps.drop n h2
theorem Reps.set {d:D} {v:V} (h':Rep K F α d v):∀ {ds:List D} {vs:List V} (n:Nat),Reps K F α ds vs→Reps K F α (ds.set n d) (vs.set n v)
 | [],vs,n,h=>by unfold Reps at h;subst h;exact j6
 | e::ds,vs,0,h=>by
  unfold Reps at h
  obtain ⟨u,r,hv,h1,h2⟩:=h
  subst hv
  exact j2 h' h2
 | e::ds,vs,n + 1,h=>by
  unfold Reps at h
  obtain ⟨u,r,hv,h1,h2⟩:=h
  subst hv
  exact j2 h1 (Reps.set h' n h2)
end
noncomputable def cA (K:PySem.W.Frag) (x:Str):Addr:=match PySem.W.nsIn K mainGlobals x with
 | some (some (.ref C))=>C
 | _=>0
noncomputable def excP (a:Addr) (C:Value) (dx:Option Addr):Heap→Prop:=fun h=>∃ vs sl,h.get? a=some ⟨C,dx,.fields vs,sl⟩
noncomputable def Uq (K:PySem.W.Frag) (α:List Addr) (F H:Hp) (a:Addr):Cell→Prop
 | .lst ds=>F a=none∧∃ vs,H a=some (.lst vs)∧Reps K F α ds vs
 | .dic ks ds=>F a=none∧∃ vs,H a=some (.dK ((ks.map dk).zip vs))∧ks.length=ds.length∧Reps K F α ds vs
 | .dead=>True
 | .exn C j=>F a=none∧∃ dx,α[j]? =some dx∧H a=some (.ext (excP a (.ref (cA K C)) (some dx)))
 | .xdc nm d=>F a=none∧∃ v,H a=some (.xd [(nm,v)])∧Rep K F α d v
 | .obj C ns ds=>F a=none∧∃ dx vs,H a=some (.ins (cA K C) dx (ns.zip vs))∧ns.length=ds.length∧Reps K F α ds vs
theorem Uq.live {K:PySem.W.Frag} {α:List Addr} {F H:Hp} {a:Addr} {c:Cell} (h:Uq K α F H a c) (hd:c≠.dead):F a=none∧∃ o,H a=some o:=by
 cases c with
 | dead=>exact absurd rfl hd
 | lst ds=>exact ⟨h.1,let ⟨_,_,z,_⟩:=h;⟨_,z⟩⟩
 | dic ks ds=>exact ⟨h.1,let ⟨_,_,z,_⟩:=h;⟨_,z⟩⟩
 | exn C j=>exact ⟨h.1,let ⟨_,_,_,z⟩:=h;⟨_,z⟩⟩
 | xdc nm d=>exact ⟨h.1,let ⟨_,_,z,_⟩:=h;⟨_,z⟩⟩
 | obj C ns ds=>exact ⟨h.1,let ⟨_,_,_,z,_⟩:=h;⟨_,z⟩⟩
theorem Uq.go {K:PySem.W.Frag} {α α':List Addr} {F H F' H':Hp} {a:Addr} {c:Cell} (h:Uq K α F H a c) (e:Ext α F α' F') (hf:c≠.dead→F' a=F a) (hh:c≠.dead→H' a=H a):Uq K α' F' H' a c:=by
 cases c with
 | dead=>trivial
 | lst ds=>obtain ⟨h1,vs,h2,h3⟩:=h;exact ⟨by rw [hf (by simp)];exact h1,vs,by rw [hh (by simp)];exact h2,h3.mono e⟩
 | dic ks ds=>obtain ⟨h1,vs,h2,hl,h3⟩:=h;exact ⟨by rw [hf (by simp)];exact h1,vs,by rw [hh (by simp)];exact h2,hl,h3.mono e⟩
 | exn C j=>obtain ⟨h1,dx,h2,h3⟩:=h;exact ⟨by rw [hf (by simp)];exact h1,dx,e.al _ _ h2,by rw [hh (by simp)];exact h3⟩
 | xdc nm d=>obtain ⟨h1,v,h2,h3⟩:=h;exact ⟨by rw [hf (by simp)];exact h1,v,by rw [hh (by simp)];exact h2,h3.mono e⟩
 | obj C ns ds=>obtain ⟨h1,dx,vs,h2,hl,h3⟩:=h;exact ⟨by rw [hf (by simp)];exact h1,dx,vs,by rw [hh (by simp)];exact h2,hl,h3.mono e⟩
structure ZS where
 z:Hp
 a0:List Addr
 f0:Hp
noncomputable def ZS.up (Z:ZS) (p:Addr) (o:HO):ZS:={ Z with z:=upd Z.z p o}
theorem yw {Z:ZS} {p b:Addr} {o:HO} (h:b≠p):(Z.up p o).z b=Z.z b:=j9 h
theorem Jb {Z:ZS} {p:Addr} {o:HO}:(Z.up p o).z p=some o:=js
structure RH (K:PySem.W.Frag) (Z:ZS) (α:List Addr) (F H:Hp) (μ:Mu):Prop where
 sub:jr F H
 len:α.length=μ.length
 cell:∀ (k:Nat) (a:Addr) (c:Cell),α[k]? =some a→μ[k]? =some c→Uq K α F H a c
 zs:jr Z.z H
 zf:∀ (a:Addr) (o:HO),Z.z a=some o→F a=none
 zc:∀ (k:Nat) (a:Addr) (c:Cell),α[k]? =some a→μ[k]? =some c→c≠.dead→Z.z a=none
 dis:∀ (j k:Nat) (a:Addr) (c c':Cell),α[j]? =some a→α[k]? =some a→μ[j]? =some c→μ[k]? =some c'→c≠.dead→c'≠.dead→j=k
 ext:Ext Z.a0 Z.f0 α F
structure RS (K:PySem.W.Frag) (Z:ZS) (α:List Addr) (F H:Hp) (σ:L2.St) (ρ:En) (μ:Mu):Prop where
 hp:RH K Z α F H μ
 len:ρ.length=σ.length
 sl:∀ (i:Nat) (d:D),ρ[i]? =some (some d)→∃ v,σ[i]? =some (some v)∧Rep K F α d v
theorem RS.to {K:PySem.W.Frag} {Z:ZS} {α α':List Addr} {F H F' H':Hp} {σ:L2.St} {ρ:En} {μ μ':Mu} (r:RS K Z α F H σ ρ μ) (h:RH K Z α' F' H' μ') (e:Ext α F α' F'):RS K Z α' F' H' σ ρ μ' :=
 ⟨h,r.len,fun i d hd=>let ⟨v,h1,h2⟩:=r.sl i d hd;⟨v,h1,h2.mono e⟩⟩
theorem Ye {F H:Hp} {p:Addr} {o:HO} (hs:jr F H) (hp:H p=none):jr F (upd F p o):=fun b u e=>by
 have:b≠p:=fun z=>by subst z;rw [hs _ _ e] at hp;cases hp
 rw [j9 this];exact e
theorem RH.lay {K:PySem.W.Frag} {Z:ZS} {α:List Addr} {F H:Hp} {μ:Mu} {p:Addr} (o:HO) (r:RH K Z α F H μ) (hp:H p=none):RH K Z α (upd F p o) (upd H p o) μ:=by
 have sF:=Ye (o:=o) r.sub hp
 have ex:Ext α F α (upd F p o):=⟨sF,fun _ _ h=>h⟩
 refine ⟨fun b u e=>?_,r.len,fun k a c ha hc=>?_,fun b u e=>?_,fun b u e=>?_,r.zc,r.dis,r.ext.trans ex⟩
 ·by_cases hb:b=p
  ·subst hb;rw [js] at e ⊢;exact e
  ·rw [j9 hb] at e ⊢;exact r.sub b u e
 ·have h:=r.cell k a c ha hc
  have ne:c≠.dead→a≠p:=fun hd=>let ⟨_,_,z⟩:=h.live hd;jt z hp
  exact h.go ex (fun hd=>j9 (ne hd)) fun hd=>j9 (ne hd)
 ·rw [j9 (jt (r.zs b u e) hp)];exact r.zs b u e
 ·rw [j9 (jt (r.zs b u e) hp)];exact r.zf b u e
theorem RH.layExt {K:PySem.W.Frag} {Z:ZS} {α:List Addr} {F H:Hp} {μ:Mu} {p:Addr} (o:HO) (r:RH K Z α F H μ) (hp:H p=none):Ext α F α (upd F p o):=⟨Ye r.sub hp,fun _ _ h=>h⟩
noncomputable def Pk (K:PySem.W.Frag) (α:List Addr) (F H:Hp):D→V→Prop
 | .lst ds,v=>∃ a vs,v=.ref a∧SqL K H a vs∧Reps K F α ds vs
 | .dic ks ds,v=>∃ a vs,v=.ref a∧H a=some (.dK ((ks.map dk).zip vs))∧ks.length=ds.length∧Reps K F α ds vs
 | d,v=>Rep K F α d v
theorem RH.pk {K:PySem.W.Frag} {Z:ZS} {α:List Addr} {F H:Hp} {μ:Mu} {d:D} {v:V} (r:RH K Z α F H μ) (h:Rep K F α d v):Pk K α F H (j4 μ d) v:=by
 cases d with
 | non=>exact h
 | bl b=>exact h
 | int i=>exact h
 | str x=>exact h
 | tup ds=>exact h
 | lst ds =>
  unfold Rep at h
  obtain ⟨a,vs,hv,hs,hr⟩:=h
  exact ⟨a,vs,hv,r.sub.seq hs,hr⟩
 | dic ks ds =>
  unfold Rep at h
  obtain ⟨a,vs,hv,hs,hl,hr⟩:=h
  exact ⟨a,vs,hv,r.sub _ _ hs,hl,hr⟩
 | ref k =>
  have h0:=h
  unfold Rep at h
  obtain ⟨a,ha,hv⟩:=h
  cases e:μ[k]? with
  | none=>rw [show j4 μ (.ref k)=.ref k by simp only [j4,e]];exact h0
  | some c =>
   have hc:=r.cell k a c ha e
   cases c with
   | lst ds =>
    obtain ⟨_,vs,h2,h3⟩:=hc
    rw [show j4 μ (.ref k)=.lst ds by simp only [j4,e]]
    exact ⟨a,vs,hv,SqL.of h2,h3⟩
   | dic ks ds =>
    obtain ⟨_,vs,h2,hl,h3⟩:=hc
    rw [show j4 μ (.ref k)=.dic ks ds by simp only [j4,e]]
    exact ⟨a,vs,hv,h2,hl,h3⟩
   | _=>rw [show j4 μ (.ref k)=.ref k by simp only [j4,e]];exact h0
structure EXT where
 P:ZS→Exc→Mu→Prop
 mono:∀ (Z:ZS) (p:Addr) (o:HO) (x:Exc) (μ:Mu),Z.z p=none→P Z x μ→P (Z.up p o) x μ
noncomputable def GE (K:PySem.W.Frag) (EX:EXT) (Z:ZS) (α:List Addr) (F:Hp) (Q:VK):Res D→Prop
 | .ok d μ'=>∀ v α' F' H',RH K Z α' F' H' μ'→Ext α F α' F'→Rep K F' α' d v→Q v H'
 | .exc x μ'=>EX.P Z x μ'
 | .bad=>False
noncomputable def GB (K:PySem.W.Frag) (EX:EXT) (Z:ZS) (α:List Addr) (F:Hp) (Q:Bool→Hp→Prop):Res Bool→Prop
 | .ok b μ'=>∀ α' F' H',RH K Z α' F' H' μ'→Ext α F α' F'→Q b H'
 | .exc x μ'=>EX.P Z x μ'
 | .bad=>False
noncomputable def GA (K:PySem.W.Frag) (EX:EXT) (Z:ZS) (α:List Addr) (F:Hp) (Q:List V→Hp→Prop):Res (List D)→Prop
 | .ok ds μ'=>∀ vs α' F' H',RH K Z α' F' H' μ'→Ext α F α' F'→Reps K F' α' ds vs→Q vs H'
 | .exc x μ'=>EX.P Z x μ'
 | .bad=>False
noncomputable def GS (K:PySem.W.Frag) (EX:EXT) (Z:ZS) (α:List Addr) (F:Hp) (N:Ends):Res Out→Prop
 | .ok (.nx ρ') μ'=>∀ σ' α' F' H',RS K Z α' F' H' σ' ρ' μ'→Ext α F α' F'→N.nx σ' H'
 | .ok (.bk ρ') μ'=>∀ σ' α' F' H',RS K Z α' F' H' σ' ρ' μ'→Ext α F α' F'→N.bk σ' H'
 | .ok (.ct ρ') μ'=>∀ σ' α' F' H',RS K Z α' F' H' σ' ρ' μ'→Ext α F α' F'→N.ct σ' H'
 | .ok (.rt d) μ'=>∀ v α' F' H',RH K Z α' F' H' μ'→Ext α F α' F'→Rep K F' α' d v→N.rt v H'
 | .exc x μ'=>EX.P Z x μ'
 | .bad=>False
noncomputable def ME (X:Cx) (EX:EXT) (e:Expr) (m:MX):Prop:=∃ t:TE,PE X e t∧∀ Z α F H σ ρ μ Q,RS X.K Z α F H σ ρ μ→GE X.K EX Z α F Q (m ρ μ)→t σ H Q
noncomputable def MT (X:Cx) (EX:EXT) (e:Expr) (m:MB):Prop:=∃ t:TT,PT X e t∧∀ Z α F H σ ρ μ Q,RS X.K Z α F H σ ρ μ→GB X.K EX Z α F Q (m ρ μ)→t σ H Q
noncomputable def MW (X:Cx) (EX:EXT) (e:Expr) (m:MB):Prop:=∃ t:TT,PW X e t∧∀ Z α F H σ ρ μ Q,RS X.K Z α F H σ ρ μ→GB X.K EX Z α F Q (m ρ μ)→t σ H Q
noncomputable def MA (X:Cx) (EX:EXT) (es:List Expr) (m:MAs):Prop:=∃ t:TA,PA X es t∧(∀ Z α F H σ ρ μ Q,RS X.K Z α F H σ ρ μ→GA X.K EX Z α F Q (m ρ μ)→t σ H Q)∧∀ ρ μ ds μ',m ρ μ=.ok ds μ'→ds.length=es.length
noncomputable def MS (X:Cx) (EX:EXT) (st:Stmt) (m:MSt):Prop:=∃ t:TS,PS X st t∧∀ Z α F H σ ρ μ N,RS X.K Z α F H σ ρ μ→GS X.K EX Z α F N (m ρ μ)→t N σ H
noncomputable def MSs (X:Cx) (EX:EXT) (st:List Stmt) (m:MSt):Prop:=∃ t:TS,PSs X st t∧∀ Z α F H σ ρ μ N,RS X.K Z α F H σ ρ μ→GS X.K EX Z α F N (m ρ μ)→t N σ H
theorem GE.ext {K:PySem.W.Frag} {EX:EXT} {Z:ZS} {α α1:List Addr} {F F1:Hp} {Q:VK} {r:Res D} (e:Ext α F α1 F1) (h:GE K EX Z α F Q r):GE K EX Z α1 F1 Q r:=by
 cases r with
 | ok d μ=>exact fun v α' F' H' R e' q=>h v α' F' H' R (e.trans e') q
 | exc x μ=>exact h
 | bad=>exact h
theorem GB.ext {K:PySem.W.Frag} {EX:EXT} {Z:ZS} {α α1:List Addr} {F F1:Hp} {Q:Bool→Hp→Prop} {r:Res Bool} (e:Ext α F α1 F1) (h:GB K EX Z α F Q r):GB K EX Z α1 F1 Q r:=by
 cases r with
 | ok d μ=>exact fun α' F' H' R e'=>h α' F' H' R (e.trans e')
 | exc x μ=>exact h
 | bad=>exact h
theorem GS.ext {K:PySem.W.Frag} {EX:EXT} {Z:ZS} {α α1:List Addr} {F F1:Hp} {N:Ends} {r:Res Out} (e:Ext α F α1 F1) (h:GS K EX Z α F N r):GS K EX Z α1 F1 N r:=by
 cases r with
 | ok o μ =>
  cases o with
  | nx ρ=>exact fun σ' α' F' H' R e'=>h σ' α' F' H' R (e.trans e')
  | bk ρ=>exact fun σ' α' F' H' R e'=>h σ' α' F' H' R (e.trans e')
  | ct ρ=>exact fun σ' α' F' H' R e'=>h σ' α' F' H' R (e.trans e')
  | rt d=>exact fun v α' F' H' R e' q=>h v α' F' H' R (e.trans e') q
 | exc x μ=>exact h
 | bad=>exact h
theorem GE.step {K:PySem.W.Frag} {EX:EXT} {Z:ZS} {α:List Addr} {F:Hp} {r:Res D} {β:Type} {f:D→Mu→Res β} {G:Res β→Prop} {Q:VK} (h:G (r.bind f)) (hx:∀ x μ,G (.exc x μ)→EX.P Z x μ) (hb:¬ G .bad)
  (hk:∀ d μ' v α' F' H',RH K Z α' F' H' μ'→Ext α F α' F'→Rep K F' α' d v→G (f d μ')→Q v H'):GE K EX Z α F Q r:=by
 cases r with
 | ok d μ=>exact fun v α' F' H' R e q=>hk d μ v α' F' H' R e q h
 | exc x μ=>exact hx _ _ h
 | bad=>exact hb h
theorem GB.step {K:PySem.W.Frag} {EX:EXT} {Z:ZS} {α:List Addr} {F:Hp} {r:Res Bool} {β:Type} {f:Bool→Mu→Res β} {G:Res β→Prop} {Q:Bool→Hp→Prop} (h:G (r.bind f)) (hx:∀ x μ,G (.exc x μ)→EX.P Z x μ) (hb:¬ G .bad)
  (hk:∀ d μ' α' F' H',RH K Z α' F' H' μ'→Ext α F α' F'→G (f d μ')→Q d H'):GB K EX Z α F Q r:=by
 cases r with
 | ok d μ=>exact fun α' F' H' R e=>hk d μ α' F' H' R e h
 | exc x μ=>exact hx _ _ h
 | bad=>exact hb h
theorem GA.step {K:PySem.W.Frag} {EX:EXT} {Z:ZS} {α:List Addr} {F:Hp} {r:Res (List D)} {β:Type} {f:List D→Mu→Res β} {G:Res β→Prop} {Q:List V→Hp→Prop} (h:G (r.bind f)) (hx:∀ x μ,G (.exc x μ)→EX.P Z x μ) (hb:¬ G .bad)
  (hk:∀ d μ' v α' F' H',RH K Z α' F' H' μ'→Ext α F α' F'→Reps K F' α' d v→G (f d μ')→Q v H'):GA K EX Z α F Q r:=by
 cases r with
 | ok d μ=>exact fun v α' F' H' R e q=>hk d μ v α' F' H' R e q h
 | exc x μ=>exact hx _ _ h
 | bad=>exact hb h
theorem GA.stepE {K:PySem.W.Frag} {EX:EXT} {Z:ZS} {α:List Addr} {F:Hp} {r:Res (List D)} {β:Type} {f:List D→Mu→Res β} {G:Res β→Prop} {Q:List V→Hp→Prop} (h:G (r.bind f)) (hx:∀ x μ,G (.exc x μ)→EX.P Z x μ) (hb:¬ G .bad)
  (hk:∀ d μ' v α' F' H',r=.ok d μ'→RH K Z α' F' H' μ'→Ext α F α' F'→Reps K F' α' d v→G (f d μ')→Q v H'):GA K EX Z α F Q r:=by
 cases r with
 | ok d μ=>exact fun v α' F' H' R e q=>hk d μ v α' F' H' rfl R e q h
 | exc x μ=>exact hx _ _ h
 | bad=>exact hb h
end M
set_option Elab.async false
set_option linter.all false
set_option maxRecDepth 100000
set_option maxHeartbeats 4000000
namespace M
open PySem PySem.Spec PyProof.Rows L2
section
variable {X:Cx} {EX:EXT} {e a b c:Expr} {pos:Pos} {m ma mb mc:MX} {es rest:List Expr}
noncomputable def mVar (i:Nat):MX:=fun ρ μ=>match ρ[i]? with
 | some (some d)=>.ok d μ
 | _=>.bad
noncomputable def mC (d:D):MX:=fun _ μ=>.ok d μ
theorem c6 {i:Nat} {x:Str} (hN:X.N[i]? =some x) (hv:Vis X.env.scope x) (hd:(x == ("__debug__":Str))=false) (hcd:(x == ("__classdict__":Str))=false):ME X EX (.Name x pos) (mVar i):=by
 refine ⟨a27 i,Dw hN hv hd hcd,fun Z α F H σ ρ μ Q R g=>?_⟩
 unfold mVar at g
 cases e:ρ[i]? with
 | none=>rw [e] at g;exact g.elim
 | some o =>
  cases o with
  | none=>rw [e] at g;exact g.elim
  | some d =>
   rw [e] at g
   obtain ⟨v,h1,h2⟩:=R.sl i d e
   exact ⟨v,h1,g v α F H R.hp (Ext.refl _ _) h2⟩
theorem cw {v:V} {d:D} (h:PE X e (tC v)) (r:∀ (F:Hp) (α:List Addr),Rep X.K F α d v):ME X EX e (mC d) :=
 ⟨_,h,fun Z α F H σ ρ μ Q R g=>g v α F H R.hp (Ext.refl _ _) (r F α)⟩
theorem me_int {i j}:ME X EX (.Constant (.int i) j pos) (mC (.int i)):=cw Dt fun _ _=>by unfold Rep;rfl
theorem Yq {i j}:ME X EX (.Constant (.bool i) j pos) (mC (.bl i)):=cw af2 fun _ _=>by unfold Rep;rfl
theorem c8 {j}:ME X EX (.Constant .none j pos) (mC .non):=cw a50 fun _ _=>by unfold Rep;rfl
theorem me_str {x:Str} {cs:List Nat} {j} (h:x=⟨cs.toArray⟩):ME X EX (.Constant (.str x) j pos) (mC (.str cs)):=cw a47 fun _ _=>by unfold Rep;rw [h]
noncomputable abbrev G2:=D→D→Option D
noncomputable def mBin (g:G2) (ma mb:MX):MX:=fun ρ μ=>(ma ρ μ).bind fun x μ1=>(mb ρ μ1).bind fun y μ2=>ofO μ2 (g (j4 μ2 x) (j4 μ2 y))
noncomputable def ue (K:PySem.W.Frag) (r:R2) (g:G2):Prop:=∀ Z α F H μ a b c x y Q,RH K Z α F H μ→Pk K α F H a x→Pk K α F H b y→g a b=some c →
 (∀ v F' H',RH K Z α F' H' μ→jr F F'→Rep K F' α c v→Q v H')→r x y H Q
noncomputable def OpM (X:Cx) (f:Value→Value→Sem Value) (g:G2):Prop:=∃ r,OpR X f r∧ue X.K r g
noncomputable def U9 (X:Cx) (EX:EXT) (t:TE) (m:MX):Prop:=∀ Z α F H σ ρ μ Q,RS X.K Z α F H σ ρ μ→GE X.K EX Z α F Q (m ρ μ)→t σ H Q
theorem y7 {ta tb:TE} {r:R2} {g:G2} (sa:U9 X EX ta ma) (sb:U9 X EX tb mb) (ho:ue X.K r g):U9 X EX (tOp r ta tb) (mBin g ma mb):=by
 intro Z α F H σ ρ μ Q R gd
 refine sa Z α F H σ ρ μ _ R (GE.step (G:=GE X.K EX Z α F Q) gd (fun _ _ h=>h) (fun h=>h) fun d1 μ1 v1 α1 F1 H1 R1 e1 p1 g1=>?_)
 refine sb Z α1 F1 H1 σ ρ μ1 _ (R.to R1 e1) (GE.step (G:=GE X.K EX Z α F Q) g1 (fun _ _ h=>h) (fun h=>h) fun d2 μ2 v2 α2 F2 H2 R2 e2 p2 g2=>?_)
 cases hg:g (j4 μ2 d1) (j4 μ2 d2) with
 | none=>rw [hg] at g2;exact g2.elim
 | some c =>
  rw [hg] at g2
  exact ho Z α2 F2 H2 μ2 _ _ c v1 v2 Q R2 (R2.pk (p1.mono e2)) (R2.pk p2) hg fun v F' H' R' sf rp=>g2 v α2 F' H' R' (e1.trans (e2.trans ⟨sf,fun _ _ h=>h⟩)) rp
theorem me_bin {op:Operator} {g:G2} (ho:OpM X (binaryOp op) g) (ha:ME X EX a ma) (hb:ME X EX b mb):ME X EX (.BinOp a op b pos) (mBin g ma mb):=by
 obtain ⟨r,h1,h2⟩:=ho
 obtain ⟨ta,pa,sa⟩:=ha
 obtain ⟨tb,pb,sb⟩:=hb
 exact ⟨_,Du h1 pa pb,y7 sa sb h2⟩
theorem me_cmp {op:CmpOp} {g:G2} (ho:OpM X (compareOp op) g) (ha:ME X EX a ma) (hb:ME X EX b mb) (hm:behindInMarks op b=false):ME X EX (.Compare a [op] [b] pos) (mBin g ma mb):=by
 obtain ⟨r,h1,h2⟩:=ho
 obtain ⟨ta,pa,sa⟩:=ha
 obtain ⟨tb,pb,sb⟩:=hb
 exact ⟨_,Br h1 pa pb hm,y7 sa sb h2⟩
noncomputable def asB (d:D):Option Bool:=match d with
 | .bl b=>some b
 | _=>none
noncomputable def mTest (m:MX):MB:=fun ρ μ=>(m ρ μ).bind fun d μ1=>ofO μ1 (asB d)
noncomputable def aj8 (X:Cx) (EX:EXT) (t:TT) (m:MB):Prop:=∀ Z α F H σ ρ μ Q,RS X.K Z α F H σ ρ μ→GB X.K EX Z α F Q (m ρ μ)→t σ H Q
theorem Uh {t:TE} (h:U9 X EX t m):aj8 X EX (fun σ H Q=>t σ H fun x H'=>∃ k,x=.bl k∧Q k H') (mTest m):=by
 intro Z α F H σ ρ μ Q R g
 refine h Z α F H σ ρ μ _ R (GE.step (G:=GB X.K EX Z α F Q) g (fun _ _ h=>h) (fun h=>h) fun d μ1 v α1 F1 H1 R1 e1 p g1=>?_)
 cases d with
 | bl k=>unfold Rep at p;exact ⟨k,p,g1 α1 F1 H1 R1 e1⟩
 | _=>exact g1.elim
theorem mt_cmp {op:CmpOp} {g:G2} (ho:OpM X (compareOp op) g) (ha:ME X EX a ma) (hb:ME X EX b mb) (hm:behindInMarks op b=false):MT X EX (.Compare a [op] [b] pos) (mTest (mBin g ma mb)):=by
 obtain ⟨r,h1,h2⟩:=ho
 obtain ⟨ta,pa,sa⟩:=ha
 obtain ⟨tb,pb,sb⟩:=hb
 exact ⟨_,B4 h1 pa pb hm,Uh (y7 sa sb h2)⟩
noncomputable def y0 (g g':G2) (ma mb mc:MX):MX:=fun ρ μ=>(ma ρ μ).bind fun x μ1=>(mb ρ μ1).bind fun y μ2=>(ofO μ2 ((g (j4 μ2 x) (j4 μ2 y)).bind asB)).bind fun k μ3 =>
 match k with
 | true=>(mc ρ μ3).bind fun z μ4=>ofO μ4 (g' (j4 μ4 y) (j4 μ4 z))
 | false=>.ok (.bl false) μ3
theorem xf {ta tb tc:TE} {r r':R2} {g g':G2} (sa:U9 X EX ta ma) (sb:U9 X EX tb mb) (sc:U9 X EX tc mc) (ho:ue X.K r g) (ho':ue X.K r' g') :
  U9 X EX (Kv r r' ta tb tc) (y0 g g' ma mb mc):=by
 intro Z α F H σ ρ μ Q R gd
 refine sa Z α F H σ ρ μ _ R (GE.step (G:=GE X.K EX Z α F Q) gd (fun _ _ h=>h) (fun h=>h) fun d1 μ1 v1 α1 F1 H1 R1 e1 p1 g1=>?_)
 refine sb Z α1 F1 H1 σ ρ μ1 _ (R.to R1 e1) (GE.step (G:=GE X.K EX Z α F Q) g1 (fun _ _ h=>h) (fun h=>h) fun d2 μ2 v2 α2 F2 H2 R2 e2 p2 g2=>?_)
 cases hg:g (j4 μ2 d1) (j4 μ2 d2) with
 | none=>rw [hg] at g2;exact g2.elim
 | some c =>
  rw [hg] at g2
  cases c with
  | bl k =>
   refine ho Z α2 F2 H2 μ2 _ _ (.bl k) v1 v2 _ R2 (R2.pk (p1.mono e2)) (R2.pk p2) hg fun v F' H' R' sf rp=>?_
   unfold Rep at rp
   refine ⟨k,rp,?_⟩
   have e3:Ext α2 F2 α2 F':=⟨sf,fun _ _ h=>h⟩
   cases k with
   | false=>exact g2 _ α2 F' H' R' (e1.trans (e2.trans e3)) (by unfold Rep;rfl)
   | true =>
    refine sc Z α2 F' H' σ ρ μ2 _ (R.to R' (e1.trans (e2.trans e3))) (GE.step (G:=GE X.K EX Z α F Q) g2 (fun _ _ h=>h) (fun h=>h) fun d4 μ4 v4 α4 F4 H4 R4 e4 p4 g4=>?_)
    cases hg':g' (j4 μ4 d2) (j4 μ4 d4) with
    | none=>rw [hg'] at g4;exact g4.elim
    | some c' =>
     rw [hg'] at g4
     exact ho' Z α4 F4 H4 μ4 _ _ c' v2 v4 Q R4 (R4.pk (p2.mono (e3.trans e4))) (R4.pk p4) hg' fun v F' H' R' sf rp=>g4 v α4 F' H' R' (e1.trans (e2.trans (e3.trans (e4.trans ⟨sf,fun _ _ h=>h⟩)))) rp
  | _=>exact g2.elim
theorem xl {op op':CmpOp} {g g':G2} (ho:OpM X (compareOp op) g) (ho':OpM X (compareOp op') g') (ha:ME X EX a ma) (hb:ME X EX b mb) (hc:ME X EX c mc)
  (hm:lastMarks [op,op'] [b,c]=false):ME X EX (.Compare a [op,op'] [b,c] pos) (y0 g g' ma mb mc):=by
 obtain ⟨r,h1,h2⟩:=ho
 obtain ⟨r',h1',h2'⟩:=ho'
 obtain ⟨ta,pa,sa⟩:=ha
 obtain ⟨tb,pb,sb⟩:=hb
 obtain ⟨tc,pc,sc⟩:=hc
 exact ⟨_,Do h1 h1' pa pb pc hm,xf sa sb sc h2 h2'⟩
theorem Dd {op op':CmpOp} {g g':G2} (ho:OpM X (compareOp op) g) (ho':OpM X (compareOp op') g') (ha:ME X EX a ma) (hb:ME X EX b mb) (hc:ME X EX c mc)
  (hm:lastMarks [op,op'] [b,c]=false):MT X EX (.Compare a [op,op'] [b,c] pos) (mTest (y0 g g' ma mb mc)):=by
 obtain ⟨r,h1,h2⟩:=ho
 obtain ⟨r',h1',h2'⟩:=ho'
 obtain ⟨ta,pa,sa⟩:=ha
 obtain ⟨tb,pb,sb⟩:=hb
 obtain ⟨tc,pc,sc⟩:=hc
 exact ⟨_,D7 h1 h1' pa pb pc hm,Uh (xf sa sb sc h2 h2')⟩
noncomputable def isN (d:D):Bool:=match d with
 | .non=>true
 | _=>false
noncomputable def ax (m:MX):MX:=fun ρ μ=>(m ρ μ).bind fun d μ1=>.ok (.bl (isN d)) μ1
noncomputable def Qr (m:MX):MX:=fun ρ μ=>(m ρ μ).bind fun d μ1=>.ok (.bl (!isN d)) μ1
theorem f7 {K:PySem.W.Frag} {F:Hp} {α:List Addr} {d:D} {v:V} (h:Rep K F α d v):decide (v=.non)=isN d:=by
 cases d with
 | non=>unfold Rep at h;subst h;rfl
 | bl _=>unfold Rep at h;subst h;rfl
 | int _=>unfold Rep at h;subst h;rfl
 | str _=>unfold Rep at h;subst h;rfl
 | tup _=>unfold Rep at h;obtain ⟨a,vs,h,_⟩:=h;subst h;rfl
 | lst _=>unfold Rep at h;obtain ⟨a,vs,h,_⟩:=h;subst h;rfl
 | dic _ _=>unfold Rep at h;obtain ⟨a,vs,h,_⟩:=h;subst h;rfl
 | ref _=>unfold Rep at h;obtain ⟨a,_,h⟩:=h;subst h;rfl
theorem C3 {t:TE} (h:U9 X EX t m):U9 X EX (ac1 t) (ax m):=by
 intro Z α F H σ ρ μ Q R g
 refine h Z α F H σ ρ μ _ R (GE.step (G:=GE X.K EX Z α F Q) g (fun _ _ h=>h) (fun h=>h) fun d μ1 v α1 F1 H1 R1 e1 p g1=>?_)
 rw [f7 p]
 exact g1 _ α1 F1 H1 R1 e1 (by unfold Rep;rfl)
theorem wq {t:TE} (h:U9 X EX t m):U9 X EX (An t) (Qr m):=by
 intro Z α F H σ ρ μ Q R g
 refine h Z α F H σ ρ μ _ R (GE.step (G:=GE X.K EX Z α F Q) g (fun _ _ h=>h) (fun h=>h) fun d μ1 v α1 F1 H1 R1 e1 p g1=>?_)
 rw [f7 p]
 exact g1 _ α1 F1 H1 R1 e1 (by unfold Rep;rfl)
theorem a77 {j pos'} (ha:ME X EX a m):ME X EX (.Compare a [.Is] [.Constant .none j pos'] pos) (ax m):=by
 obtain ⟨t,p,s⟩:=ha
 exact ⟨_,Dp (a52 p) rfl,C3 s⟩
theorem a8 {j pos'} (ha:ME X EX a m):ME X EX (.Compare a [.IsNot] [.Constant .none j pos'] pos) (Qr m):=by
 obtain ⟨t,p,s⟩:=ha
 exact ⟨_,Dp (Gu p) rfl,wq s⟩
theorem Gm {j pos'} (ha:ME X EX a m):MT X EX (.Compare a [.IsNot] [.Constant .none j pos'] pos) (mTest (Qr m)):=by
 obtain ⟨t,p,s⟩:=ha
 exact ⟨_,W8 (Gu p) rfl,Uh (wq s)⟩
noncomputable def Kw (d:D):Option Bool:=match d with
 | .non=>some false
 | .bl b=>some b
 | .int i=>some (i != 0)
 | .str x=>if x.length≤16777216 then some (!x.isEmpty) else none
 | .tup xs=>some (!xs.isEmpty)
 | .lst xs=>some (!xs.isEmpty)
 | .dic ks vs=>some (!vs.isEmpty)
 | .ref _=>none
noncomputable def U3 (m:MX):MB:=fun ρ μ=>(m ρ μ).bind fun d μ1=>ofO μ1 (Kw (j4 μ1 d))
theorem zr {β γ:Type} {l:List β} {r:List γ} (h:l.length=r.length):l.isEmpty=r.isEmpty:=by
 cases l <;> cases r <;> simp_all
theorem a24 {K:PySem.W.Frag} {α:List Addr} {F H:Hp} {d:D} {v:V} {k:Bool} (sub:jr F H) (h:Pk K α F H d v) (e:Kw d=some k):ab4 K v H k:=by
 cases d with
 | non=>unfold Pk Rep at h;subst h;cases e;rfl
 | bl _=>unfold Pk Rep at h;subst h;cases e;rfl
 | int _=>unfold Pk Rep at h;subst h;cases e;rfl
 | str x =>
  unfold Pk Rep at h
  subst h
  unfold Kw at e
  simp only at e
  split at e
  ·rename_i hl
   cases e
   refine ⟨?_,?_⟩
   ·rw [sizeLine_eq];simpa [Str.length] using hl
   ·cases x with
    | nil=>rfl
    | cons c r=>simp [Str.length];omega
  ·cases e
 | tup xs =>
  unfold Pk Rep at h
  obtain ⟨a,vs,rfl,hs,hr⟩:=h
  cases e
  exact .inr (.inl ⟨vs,jr.tup sub hs,by rw [zr hr.length]⟩)
 | lst xs =>
  unfold Pk at h
  obtain ⟨a,vs,rfl,hs,hr⟩:=h
  cases e
  exact .inl ⟨vs,hs,by rw [zr hr.length]⟩
 | dic ks xs =>
  unfold Pk at h
  obtain ⟨a,vs,rfl,hs,hl,hr⟩:=h
  cases e
  refine .inr (.inr ⟨_,hs,?_⟩)
  congr 1
  refine zr ?_
  have:=hr.length
  simp
  omega
 | ref _=>cases e
theorem Jx (ha:ME X EX a m) (he:∀ whole,isTrue a X.env whole=(do let v ← whole;standAt a.pos;holding [v] (truthy v))):MT X EX a (U3 m):=by
 obtain ⟨t,p,s⟩:=ha
 refine ⟨_,D5 p he,fun Z α F H σ ρ μ Q R g=>?_⟩
 refine s Z α F H σ ρ μ _ R (GE.step (G:=GB X.K EX Z α F Q) g (fun _ _ h=>h) (fun h=>h) fun d μ1 v α1 F1 H1 R1 e1 p g1=>?_)
 cases hk:Kw (j4 μ1 d) with
 | none=>rw [hk] at g1;exact g1.elim
 | some k=>rw [hk] at g1;exact ⟨k,a24 R1.sub (R1.pk p) hk,g1 α1 F1 H1 R1 e1⟩
variable {n na nb:MB}
noncomputable def Yk (m n:MB):MB:=fun ρ μ=>(m ρ μ).bind fun k μ1=>match k with
 | true=>n ρ μ1
 | false=>.ok false μ1
noncomputable def mOr (m n:MB):MB:=fun ρ μ=>(m ρ μ).bind fun k μ1=>match k with
 | true=>.ok true μ1
 | false=>n ρ μ1
noncomputable def Ym (m:MB):MB:=fun ρ μ=>(m ρ μ).bind fun k μ1=>.ok (!k) μ1
theorem MW.t (h:MW X EX e n):MT X EX e n:=let ⟨t,p,s⟩:=h;⟨t,p.pt,s⟩
theorem Y4 (ha:MT X EX a na):MW X EX (.BoolOp .And [a] pos) na:=let ⟨t,p,s⟩:=ha;⟨t,B2 p,s⟩
theorem Ww (ha:MT X EX a na):MW X EX (.BoolOp .Or [a] pos) na:=let ⟨t,p,s⟩:=ha;⟨t,a36 p,s⟩
theorem Zt (ha:MT X EX a na) (hb:MW X EX (.BoolOp .And (b::rest) pos) nb):MW X EX (.BoolOp .And (a::b::rest) pos) (Yk na nb):=by
 obtain ⟨ta,pa,sa⟩:=ha
 obtain ⟨tb,pb,sb⟩:=hb
 refine ⟨_,a37 pa pb,fun Z α F H σ ρ μ Q R g=>?_⟩
 refine sa Z α F H σ ρ μ _ R (GB.step (G:=GB X.K EX Z α F Q) g (fun _ _ h=>h) (fun h=>h) fun k μ1 α1 F1 H1 R1 e1 g1=>?_)
 cases k with
 | true=>exact (if_pos rfl).mpr (sb Z α1 F1 H1 σ ρ μ1 Q (R.to R1 e1) (GB.ext e1 g1))
 | false=>exact g1 α1 F1 H1 R1 e1
theorem Gn (ha:MT X EX a na) (hb:MW X EX (.BoolOp .Or (b::rest) pos) nb):MW X EX (.BoolOp .Or (a::b::rest) pos) (mOr na nb):=by
 obtain ⟨ta,pa,sa⟩:=ha
 obtain ⟨tb,pb,sb⟩:=hb
 refine ⟨_,ae4 pa pb,fun Z α F H σ ρ μ Q R g=>?_⟩
 refine sa Z α F H σ ρ μ _ R (GB.step (G:=GB X.K EX Z α F Q) g (fun _ _ h=>h) (fun h=>h) fun k μ1 α1 F1 H1 R1 e1 g1=>?_)
 cases k with
 | true=>exact g1 α1 F1 H1 R1 e1
 | false=>exact sb Z α1 F1 H1 σ ρ μ1 Q (R.to R1 e1) (GB.ext e1 g1)
theorem Y5 (ha:MT X EX a na):MT X EX (.UnaryOp .Not a pos) (Ym na):=by
 obtain ⟨ta,pa,sa⟩:=ha
 refine ⟨_,a38 pa,fun Z α F H σ ρ μ Q R g=>?_⟩
 exact sa Z α F H σ ρ μ _ R (GB.step (G:=GB X.K EX Z α F Q) g (fun _ _ h=>h) (fun h=>h) fun k μ1 α1 F1 H1 R1 e1 g1=>g1 α1 F1 H1 R1 e1)
noncomputable def u5 (ma mb:MX):MX:=fun ρ μ=>(ma ρ μ).bind fun x μ1=>match x with
 | .bl true=>mb ρ μ1
 | .bl false=>.ok (.bl false) μ1
 | _=>.bad
noncomputable def Wp (ma mb:MX):MX:=fun ρ μ=>(ma ρ μ).bind fun x μ1=>match x with
 | .bl true=>.ok (.bl true) μ1
 | .bl false=>mb ρ μ1
 | _=>.bad
noncomputable def Vj (ma:MX):MX:=fun ρ μ=>(ma ρ μ).bind fun x μ1=>match x with
 | .bl k=>.ok (.bl (!k)) μ1
 | _=>.bad
theorem me_one {op} (h:ME X EX a m):ME X EX (.BoolOp op [a] pos) m:=let ⟨t,p,s⟩:=h;⟨t,a48 p,s⟩
theorem me_and (ha:ME X EX a ma) (hb:ME X EX (.BoolOp .And (b::rest) pos) mb):ME X EX (.BoolOp .And (a::b::rest) pos) (u5 ma mb):=by
 obtain ⟨ta,pa,sa⟩:=ha
 obtain ⟨tb,pb,sb⟩:=hb
 refine ⟨_,a51 pa pb,fun Z α F H σ ρ μ Q R g=>?_⟩
 refine sa Z α F H σ ρ μ _ R (GE.step (G:=GE X.K EX Z α F Q) g (fun _ _ h=>h) (fun h=>h) fun d μ1 v α1 F1 H1 R1 e1 p g1=>?_)
 cases d with
 | bl k =>
  unfold Rep at p
  refine ⟨k,p,?_⟩
  cases k with
  | true=>exact sb Z α1 F1 H1 σ ρ μ1 Q (R.to R1 e1) (GE.ext e1 g1)
  | false=>exact g1 _ α1 F1 H1 R1 e1 (by unfold Rep;rfl)
 | _=>exact g1.elim
theorem me_or (ha:ME X EX a ma) (hb:ME X EX (.BoolOp .Or (b::rest) pos) mb):ME X EX (.BoolOp .Or (a::b::rest) pos) (Wp ma mb):=by
 obtain ⟨ta,pa,sa⟩:=ha
 obtain ⟨tb,pb,sb⟩:=hb
 refine ⟨_,ae9 pa pb,fun Z α F H σ ρ μ Q R g=>?_⟩
 refine sa Z α F H σ ρ μ _ R (GE.step (G:=GE X.K EX Z α F Q) g (fun _ _ h=>h) (fun h=>h) fun d μ1 v α1 F1 H1 R1 e1 p g1=>?_)
 cases d with
 | bl k =>
  unfold Rep at p
  refine ⟨k,p,?_⟩
  cases k with
  | false=>exact sb Z α1 F1 H1 σ ρ μ1 Q (R.to R1 e1) (GE.ext e1 g1)
  | true=>exact g1 _ α1 F1 H1 R1 e1 (by unfold Rep;rfl)
 | _=>exact g1.elim
theorem c7 (ha:ME X EX a ma):ME X EX (.UnaryOp .Not a pos) (Vj ma):=by
 obtain ⟨ta,pa,sa⟩:=ha
 refine ⟨_,a49 pa,fun Z α F H σ ρ μ Q R g=>?_⟩
 refine sa Z α F H σ ρ μ _ R (GE.step (G:=GE X.K EX Z α F Q) g (fun _ _ h=>h) (fun h=>h) fun d μ1 v α1 F1 H1 R1 e1 p g1=>?_)
 cases d with
 | bl k=>unfold Rep at p;exact ⟨k,p,g1 _ α1 F1 H1 R1 e1 (by unfold Rep;rfl)⟩
 | _=>exact g1.elim
noncomputable def mIf (n:MB) (ma mb:MX):MX:=fun ρ μ=>(n ρ μ).bind fun k μ1=>match k with
 | true=>ma ρ μ1
 | false=>mb ρ μ1
theorem xm (hc:MT X EX c n) (ha:ME X EX a ma) (hb:ME X EX b mb):ME X EX (.IfExp c a b pos) (mIf n ma mb):=by
 obtain ⟨tc,pc,sc⟩:=hc
 obtain ⟨ta,pa,sa⟩:=ha
 obtain ⟨tb,pb,sb⟩:=hb
 refine ⟨_,Ds pc pa pb,fun Z α F H σ ρ μ Q R g=>?_⟩
 refine sc Z α F H σ ρ μ _ R (GB.step (G:=GE X.K EX Z α F Q) g (fun _ _ h=>h) (fun h=>h) fun k μ1 α1 F1 H1 R1 e1 g1=>?_)
 cases k with
 | true=>exact sa Z α1 F1 H1 σ ρ μ1 Q (R.to R1 e1) (GE.ext e1 g1)
 | false=>exact sb Z α1 F1 H1 σ ρ μ1 Q (R.to R1 e1) (GE.ext e1 g1)
variable {ms:MAs}
noncomputable def mNil:MAs:=fun _ μ=>.ok [] μ
noncomputable def mCons (m:MX) (ms:MAs):MAs:=fun ρ μ=>(m ρ μ).bind fun d μ1=>(ms ρ μ1).bind fun ds μ2=>.ok (d::ds) μ2
theorem ma_nil:MA X EX [] mNil:=⟨_,Kj,fun Z α F H σ ρ μ Q R g=>g [] α F H R.hp (Ext.refl _ _) j6,fun ρ μ ds μ' h=>by cases h;rfl⟩
theorem ma_cons (ha:ME X EX e m) (hr:MA X EX es ms) (hs:starEach (e::es) X.env=(false,eval e X.env)::starEach es X.env):MA X EX (e::es) (mCons m ms):=by
 obtain ⟨ta,pa,sa⟩:=ha
 obtain ⟨tr,pr,sr,lr⟩:=hr
 refine ⟨_,Qh pa pr hs,fun Z α F H σ ρ μ Q R g=>?_,fun ρ μ ds μ' h=>?_⟩
 rotate_left
 ·unfold mCons at h
  cases e1:m ρ μ with
  | ok d μ1 =>
   rw [e1] at h
   simp only [bind_ok] at h
   cases e2:ms ρ μ1 with
   | ok dr μ2 =>
    rw [e2] at h
    simp only [bind_ok] at h
    cases h
    simp [lr _ _ _ _ e2]
   | exc x μ2=>rw [e2] at h;cases h
   | bad=>rw [e2] at h;cases h
  | exc x μ1=>rw [e1] at h;cases h
  | bad=>rw [e1] at h;cases h
 refine sa Z α F H σ ρ μ _ R (GE.step (G:=GA X.K EX Z α F Q) g (fun _ _ h=>h) (fun h=>h) fun d μ1 v α1 F1 H1 R1 e1 p g1=>?_)
 refine sr Z α1 F1 H1 σ ρ μ1 _ (R.to R1 e1) (GA.step (G:=GA X.K EX Z α F Q) g1 (fun _ _ h=>h) (fun h=>h) fun ds μ2 vs α2 F2 H2 R2 e2 p2 g2=>?_)
 exact g2 (v::vs) α2 F2 H2 R2 (e1.trans e2) (j2 (p.mono e2) p2)
noncomputable def J6 (ms:MAs):MX:=fun ρ μ=>(ms ρ μ).bind fun ds μ1=>.ok (.tup ds) μ1
noncomputable def U7 (ms:MAs):MX:=fun ρ μ=>(ms ρ μ).bind fun ds μ1=>.ok (.lst ds) μ1
theorem zj {K:PySem.W.Frag} {Z:ZS} {F H:Hp} {α:List Addr} {μ:Mu} {ds:List D} {vs:List V} {p:Addr} (R:RH K Z α F H μ) (r:Reps K F α ds vs) (hp:H p=none) :
  RH K Z α (upd F p (.tup vs)) (upd H p (.tup vs)) μ∧jr F (upd F p (.tup vs))∧Rep K (upd F p (.tup vs)) α (.tup ds) (.ref p) :=
 ⟨R.lay _ hp,Ye R.sub hp,by unfold Rep;exact ⟨p,vs,rfl,SqT.of js,r.mono (R.layExt _ hp)⟩⟩
theorem Ui {K:PySem.W.Frag} {Z:ZS} {F H:Hp} {α:List Addr} {μ:Mu} {ds:List D} {vs:List V} {p:Addr} (R:RH K Z α F H μ) (r:Reps K F α ds vs) (hp:H p=none) :
  RH K Z α (upd F p (.lst vs)) (upd H p (.lst vs)) μ∧jr F (upd F p (.lst vs))∧Rep K (upd F p (.lst vs)) α (.lst ds) (.ref p) :=
 ⟨R.lay _ hp,Ye R.sub hp,by unfold Rep;exact ⟨p,vs,rfl,SqL.of js,r.mono (R.layExt _ hp)⟩⟩
theorem me_tup {x1} (h:MA X EX es ms) (hl:es.length≤16777216:=by decide):ME X EX (.Tuple es x1 pos) (J6 ms):=by
 obtain ⟨t,p,s,l⟩:=h
 refine ⟨_,a46 p,fun Z α F H σ ρ μ Q R g=>?_⟩
 refine s Z α F H σ ρ μ _ R (GA.stepE (G:=GE X.K EX Z α F Q) g (fun _ _ h=>h) (fun h=>h) fun ds μ1 vs α1 F1 H1 hm R1 e1 p1 g1=>?_)
 refine ⟨by rw [← p1.length,sizeLine_eq,l _ _ _ _ hm];exact hl,fun q hq=>?_⟩
 obtain ⟨a1,a2,a3⟩:=zj R1 p1 hq
 exact g1 _ α1 _ _ a1 (e1.trans ⟨a2,fun _ _ h=>h⟩) a3
theorem Jp (h:MA X EX es ms) (hl:es.length≤16777216:=by decide):ME X EX (.List es pos) (U7 ms):=by
 obtain ⟨t,p,s,l⟩:=h
 refine ⟨_,Kk p,fun Z α F H σ ρ μ Q R g=>?_⟩
 refine s Z α F H σ ρ μ _ R (GA.stepE (G:=GE X.K EX Z α F Q) g (fun _ _ h=>h) (fun h=>h) fun ds μ1 vs α1 F1 H1 hm R1 e1 p1 g1=>?_)
 refine ⟨by rw [← p1.length,sizeLine_eq,l _ _ _ _ hm];exact hl,fun q hq=>?_⟩
 obtain ⟨a1,a2,a3⟩:=Ui R1 p1 hq
 exact g1 _ α1 _ _ a1 (e1.trans ⟨a2,fun _ _ h=>h⟩) a3
noncomputable def jz:G2:=fun a b=>match a,b with
 | .lst ds,.int i=>atI ds i
 | .tup ds,.int i=>atI ds i
 | .str cs,.int i=>if cs.length≤16777216 then (atI cs i).map fun c=>.str [c] else none
 | _,_=>none
theorem Vx {K:PySem.W.Frag} {F:Hp} {α:List Addr} {ds:List D} {vs:List V} {i:Int} {d:D} (r:Reps K F α ds vs) (h:atI ds i=some d):∃ v,atI vs i=some v∧Rep K F α d v:=by
 unfold atI at h ⊢
 rw [← r.length]
 cases e:ixN ds.length i with
 | none=>rw [e] at h;cases h
 | some j=>rw [e] at h;exact r.get h
theorem Ko {K:PySem.W.Frag}:ue K (rIx K) jz:=by
 intro Z α F H μ a b c x y Q R ha hb hg k
 cases b with
 | int i =>
  unfold Pk Rep at hb
  subst hb
  cases a with
  | lst ds =>
   obtain ⟨p,vs,rfl,hs,hr⟩:=ha
   obtain ⟨v,h1,h2⟩:=Vx hr hg
   exact .inl ⟨p,vs,i,v,rfl,rfl,hs,h1,k v F H R (jr.refl _) h2⟩
  | tup ds =>
   unfold Pk Rep at ha
   obtain ⟨p,vs,rfl,hs,hr⟩:=ha
   obtain ⟨v,h1,h2⟩:=Vx hr hg
   exact .inr (.inl ⟨p,vs,i,v,rfl,rfl,jr.tup R.sub hs,h1,k v F H R (jr.refl _) h2⟩)
  | str cs =>
   unfold Pk Rep at ha
   subst ha
   simp only [jz] at hg
   split at hg
   ·rename_i hl
    cases e:atI cs i with
    | none=>rw [e] at hg;cases hg
    | some c' =>
     rw [e] at hg
     cases hg
     exact .inr (.inr ⟨_,i,c',rfl,rfl,by rw [sizeLine_eq];simpa [Str.length] using hl,by simpa using e,k _ F H R (jr.refl _) (by unfold Rep;rfl)⟩)
   ·cases hg
  | _=>cases hg
 | _=>cases a <;> cases hg
theorem me_idx (ha:ME X EX a ma) (hb:ME X EX b mb) (hs:F7 b):ME X EX (.Subscript a b pos) (mBin jz ma mb):=by
 obtain ⟨ta,pa,sa⟩:=ha
 obtain ⟨tb,pb,sb⟩:=hb
 exact ⟨_,af0 a91 pa pb hs,y7 sa sb Ko⟩
end
end M
set_option Elab.async false
set_option linter.all false
set_option maxRecDepth 100000
set_option maxHeartbeats 4000000
namespace M
open PySem PySem.Spec PyProof.Rows L2
theorem uv {K:PySem.W.Frag} {F:Hp} {α:List Addr} (i:Int):Rep K F α (.int i) (.int i):=by unfold Rep;rfl
theorem Uv {K:PySem.W.Frag} {F:Hp} {α:List Addr} (i:Bool):Rep K F α (.bl i) (.bl i):=by unfold Rep;rfl
theorem Gx {K:PySem.W.Frag} {F:Hp} {α:List Addr}:Rep K F α .non .non:=by unfold Rep;rfl
theorem B0 {K:PySem.W.Frag} {F:Hp} {α:List Addr} (x:List Nat):Rep K F α (.str x) (.str ⟨x.toArray⟩):=by unfold Rep;rfl
theorem Uu {K:PySem.W.Frag} {F H:Hp} {α:List Addr} {i:Int} {v:V} (h:Pk K α F H (.int i) v):v=.int i:=by unfold Pk Rep at h;exact h
theorem ae7 {K:PySem.W.Frag} {F H:Hp} {α:List Addr} {i:Bool} {v:V} (h:Pk K α F H (.bl i) v):v=.bl i:=by unfold Pk Rep at h;exact h
theorem xw {K:PySem.W.Frag} {F H:Hp} {α:List Addr} {x:List Nat} {v:V} (h:Pk K α F H (.str x) v):v=.str ⟨x.toArray⟩:=by unfold Pk Rep at h;exact h
theorem a43 {K:PySem.W.Frag} {F H:Hp} {α:List Addr} {v:V} (h:Pk K α F H .non v):v=.non:=by unfold Pk Rep at h;exact h
noncomputable def qv (h:Int→Int→Option Int):G2:=fun a b=>match a,b with
 | .int i,.int j=>(h i j).map .int
 | _,_=>none
noncomputable def kw (h:Int→Int→Bool):G2:=fun a b=>match a,b with
 | .int i,.int j=>some (.bl (h i j))
 | _,_=>none
section
variable {X:Cx} {EX:EXT}
theorem Ku {K:PySem.W.Frag} {C:Int→Int→Prop} [inst:∀ i j,Decidable (C i j)] {h:Int→Int→Int}:ue K (rI C fun i j=>.int (h i j)) (qv fun i j=>if C i j then some (h i j) else none):=by
 intro Z α F H μ a b c x y Q R ha hb hg k
 cases a with
 | int i =>
  cases b with
  | int j =>
   have ha:=Uu ha
   have hb:=Uu hb
   simp only [qv] at hg
   by_cases hc:C i j
   ·rw [if_pos hc] at hg
    cases hg
    exact ⟨i,j,ha,hb,hc,k _ F H R (jr.refl _) (uv _)⟩
   ·rw [if_neg hc] at hg;cases hg
  | _=>cases hg
 | _=>cases hg
theorem G1 {K:PySem.W.Frag} {h:Int→Int→Int}:ue K (rI0 fun i j=>.int (h i j)) (qv fun i j=>some (h i j)):=by
 intro Z α F H μ a b c x y Q R ha hb hg k
 cases a with
 | int i =>
  cases b with
  | int j =>
   have ha:=Uu ha
   have hb:=Uu hb
   cases hg
   exact ⟨i,j,ha,hb,k _ F H R (jr.refl _) (uv _)⟩
  | _=>cases hg
 | _=>cases hg
theorem Qi {K:PySem.W.Frag} {h:Int→Int→Bool}:ue K (rI0 fun i j=>.bl (h i j)) (kw h):=by
 intro Z α F H μ a b c x y Q R ha hb hg k
 cases a with
 | int i =>
  cases b with
  | int j =>
   have ha:=Uu ha
   have hb:=Uu hb
   cases hg
   exact ⟨i,j,ha,hb,k _ F H R (jr.refl _) (Uv _)⟩
  | _=>cases hg
 | _=>cases hg
noncomputable def gOr (g h:G2):G2:=fun a b=>match g a b with
 | some c=>some c
 | none=>h a b
theorem ue.or {K:PySem.W.Frag} {r r':R2} {g g':G2} (h:ue K r g) (h':ue K r' g'):ue K (fun x y H Q=>r x y H Q∨r' x y H Q) (gOr g g'):=by
 intro Z α F H μ a b c x y Q R ha hb hg k
 unfold gOr at hg
 cases e:g a b with
 | some d=>rw [e] at hg;have hg:d=c:=Option.some.inj hg;subst hg;exact .inl (h Z α F H μ a b _ x y Q R ha hb e k)
 | none=>rw [e] at hg;exact .inr (h' Z α F H μ a b c x y Q R ha hb hg k)
theorem OpM.or {f:Value→Value→Sem Value} {g g':G2} (h:OpM X f g) (h':OpM X f g'):OpM X f (gOr g g'):=by
 obtain ⟨r,a,b⟩:=h
 obtain ⟨r',a',b'⟩:=h'
 exact ⟨_,a.or a',b.or b'⟩
theorem OpM.as {f:Value→Value→Sem Value} {g g':G2} (h:OpM X f g) (e:∀ a b c,g' a b=some c→g a b=some c):OpM X f g':=by
 obtain ⟨r,a,b⟩:=h
 exact ⟨r,a,fun Z α F H μ p q c x y Q R ha hb hg k=>b Z α F H μ p q c x y Q R ha hb (e p q c hg) k⟩
noncomputable def fu:G2:=fun a b=>match a,b with
 | .tup xs,.tup ys=>if decide (xs.length + ys.length≤16777216) && !xs.isEmpty then some (.tup (xs++ys)) else none
 | _,_=>none
noncomputable def Cv:G2:=fun a b=>match a,b with
 | .tup [],.tup ys=>some (.tup ys)
 | _,_=>none
noncomputable def a04:G2:=fun a b=>match a,b with
 | .lst xs,.lst ys=>if xs.length + ys.length≤16777216 then some (.lst (xs++ys)) else none
 | _,_=>none
noncomputable def fq:G2:=fun a b=>match a,b with
 | .str xs,.str ys=>if xs.length + ys.length≤16777216 then some (.str (xs++ys)) else none
 | _,_=>none
noncomputable def Je:G2:=fun a b=>match a,b with
 | .int i,.int j=>some (.int (i + j))
 | .str xs,.str ys=>if xs.length + ys.length≤16777216 then some (.str (xs++ys)) else none
 | .tup xs,.tup ys=>if xs.length + ys.length≤16777216 then some (.tup (xs++ys)) else none
 | .lst xs,.lst ys=>if xs.length + ys.length≤16777216 then some (.lst (xs++ys)) else none
 | _,_=>none
theorem Kr (x y:List Nat):(⟨x.toArray⟩:Str)++(⟨y.toArray⟩:Str)=⟨(x++y).toArray⟩:=by
 show Str.append _ _=_
 unfold Str.append
 simp
theorem Bi:OpM X (binaryOp .Add) fq:=by
 refine ⟨_,Kh,fun Z α F H μ a b c x y Q R ha hb hg k=>?_⟩
 cases a with
 | str i =>
  cases b with
  | str j =>
   have ha:=xw ha
   have hb:=xw hb
   simp only [fq] at hg
   split at hg
   ·rename_i hl
    cases hg
    refine ⟨_,_,ha,hb,by rw [sizeLine_eq];simpa [Str.length] using hl,?_⟩
    rw [Kr]
    exact k _ F H R (jr.refl _) (B0 _)
   ·cases hg
  | _=>cases hg
 | _=>cases hg
theorem Bj:OpM X (binaryOp .Add) fu:=by
 refine ⟨_,Bl,fun Z α F H μ a b c x y Q R ha hb hg k=>?_⟩
 cases a with
 | tup i =>
  cases b with
  | tup j =>
   have ha0:=ha
   unfold Pk Rep at ha hb
   obtain ⟨p,vs,rfl,hs,hr⟩:=ha
   obtain ⟨p',vs',rfl,hs',hr'⟩:=hb
   simp only [fu] at hg
   split at hg
   ·rename_i hl
    cases hg
    rw [Bool.and_eq_true] at hl
    have h1:=of_decide_eq_true hl.1
    refine ⟨p,p',vs,vs',rfl,rfl,jr.tup R.sub hs,jr.tup R.sub hs',?_,by rw [sizeLine_eq,← hr.length,← hr'.length];exact h1,fun he=>?_,fun _ q hq=>?_⟩
    ·intro he
     subst he
     have:=hr.length
     cases i with
     | nil=>simp at hl
     | cons _ _=>simp at this
    ·subst he
     have:=hr'.length
     cases j with
     | nil=>rw [List.append_nil] at k;exact k _ F H R (jr.refl _) ha0
     | cons _ _=>simp at this
    ·obtain ⟨a1,a2,a3⟩:=zj R (hr.append hr') hq
     exact k _ _ _ a1 a2 a3
   ·cases hg
  | _=>cases hg
 | _=>cases hg
noncomputable def ae3 (K:PySem.W.Frag):R2:=fun x y H Q=>∃ l b xs zs,x=.ref l∧y=.ref b∧SqL K H l xs∧SqL K H b zs∧xs.length + zs.length≤sizeLine∧∀ p,H p=none→Q (.ref p) (upd H p (.lst (xs++zs)))
theorem Gq:OpR X (binaryOp .Add) (ae3 X.K):=by
 intro pins s σ H x y v u Q I rx ry h
 obtain ⟨l,b,xs,zs,rfl,rfl,hH,hB,hz,q⟩:=h
 cases rx
 cases ry
 obtain ⟨its,r,pl,_⟩:=I.list hH
 obtain ⟨its2,r2,pl2,_⟩:=I.list hB
 obtain ⟨m,F⟩:=I.fr
 have e1:=r.length
 have e2:=r2.length
 obtain ⟨⟨cls,dd,data,sl⟩,n,ho,hc,hd,hs⟩:=pl
 obtain ⟨⟨cls2,dd2,data2,sl2⟩,n2,ho2,hc2,hd2,hs2⟩:=pl2
 simp only at hc hd hs hc2 hd2 hs2
 subst hc hd hs hc2 hd2 hs2
 have ea:its.toArray++its2.toArray=(its++its2).toArray:=by simp
 refine concat_meets ⟨_,ho,rfl⟩ ⟨_,ho2,rfl⟩ noFill_list_add seq_list_add PySem.F.slot_list_add PySem.F.entry_list_add (PySem.F.args_list_add_2 _ _) (list_addW l b its.toArray its2.toArray n n2 _ _ sl sl2 (by simp only [List.size_toArray];omega)) ⟨ho,ho2,?_⟩
 rw [ea]
 exact ⟨.ref _,_,I.lnew (t':=s.toks) (r.append r2) (by rw [List.length_append];omega),rfl,q _ I.fresh⟩
theorem Dl:OpR X (binaryOp .Add) (fun x y H Q=>∃ a b ys,x=.ref a∧y=.ref b∧SqT X.K H a []∧SqT X.K H b ys∧Q (.ref b) H):=by
 intro pins s σ H x y v u Q I rx ry h
 obtain ⟨a,b,ys,rfl,rfl,ha,hb,q⟩:=h
 cases rx
 cases ry
 obtain ⟨its,r1,p1,_⟩:=I.tuple ha
 obtain ⟨its2,r2,p2,_⟩:=I.tuple hb
 have e1:its.length=0:=r1.length.symm
 obtain rfl:=List.length_eq_zero_iff.mp e1
 obtain ⟨o1,g1,c1,n1,d1⟩:=p1
 obtain ⟨o2,g2,c2,n2,d2⟩:=p2
 obtain ⟨k1,f1,w1,z1⟩:=o1
 obtain ⟨k2,f2,w2,z2⟩:=o2
 dsimp only at c1 d1 c2 d2
 subst c1 d1 c2 d2
 exact concat_meets ⟨_,g1,rfl⟩ ⟨_,g2,rfl⟩ noFill_tuple_add seq_tuple_add PySem.F.slot_tuple_add PySem.F.entry_tuple_add (PySem.F.args_tuple_add_2 _ _)
  (tuple_addW0 a b #[] its2.toArray n1 n2 f1 f2 z1 z2 rfl) ⟨g1,g2,.ref b,H,I,rfl,q⟩
theorem Dk:OpM X (binaryOp .Add) Cv:=by
 refine ⟨_,Dl,fun Z α F H μ a b c x y Q R ha hb hg k=>?_⟩
 cases a with
 | tup i =>
  cases i with
  | nil =>
   cases b with
   | tup j =>
    have hb0:=hb
    unfold Pk Rep at ha hb
    obtain ⟨p,vs,rfl,hs,hr⟩:=ha
    obtain ⟨p',vs',rfl,hs',hr'⟩:=hb
    cases hg
    have:=hr.length
    cases vs with
    | nil=>exact ⟨p,p',vs',rfl,rfl,jr.tup R.sub hs,jr.tup R.sub hs',k _ F H R (jr.refl _) hb0⟩
    | cons _ _=>simp at this
   | _=>cases hg
  | cons _ _=>cases b <;> cases hg
 | _=>cases hg
theorem Bh:OpM X (binaryOp .Add) a04:=by
 refine ⟨_,Gq,fun Z α F H μ a b c x y Q R ha hb hg k=>?_⟩
 cases a with
 | lst i =>
  cases b with
  | lst j =>
   unfold Pk at ha hb
   obtain ⟨p,vs,rfl,hs,hr⟩:=ha
   obtain ⟨p',vs',rfl,hs',hr'⟩:=hb
   simp only [a04] at hg
   split at hg
   ·rename_i hl
    cases hg
    refine ⟨p,p',vs,vs',rfl,rfl,hs,hs',by rw [sizeLine_eq,← hr.length,← hr'.length];exact hl,fun q hq=>?_⟩
    obtain ⟨a1,a2,a3⟩:=Ui R (hr.append hr') hq
    exact k _ _ _ a1 a2 a3
   ·cases hg
  | _=>cases hg
 | _=>cases hg
theorem om_add:OpM X (binaryOp .Add) Je:=by
 have h0:OpM X (binaryOp .Add) (qv fun i j=>some (i + j)):=⟨_,a68,G1⟩
 refine OpM.as (OpM.or h0 (OpM.or Bi (OpM.or Dk (OpM.or Bj Bh)))) fun a b c h=>?_
 cases a with
 | int i=>cases b with
  | int j=>exact h
  | _=>cases h
 | str i=>cases b with
  | str j=>have h:fq (.str i) (.str j)=some c:=h;simp only [gOr,qv,h]
  | _=>cases h
 | tup i=>cases b with
  | tup j =>
   cases i with
   | nil =>
    simp only [Je] at h
    split at h
    ·cases h;rfl
    ·cases h
   | cons i0 ir =>
    simp only [Je] at h
    split at h
    ·rename_i hl
     cases h
     have e:fu (.tup (i0::ir)) (.tup j)=some (.tup (i0::ir++j)):=by
      simp only [fu,List.isEmpty_cons,Bool.not_false,Bool.and_true]
      rw [if_pos (by simpa using hl)]
     simp only [gOr,qv,fq,Cv,e]
    ·cases h
  | _=>cases h
 | lst i=>cases b with
  | lst j=>exact h
  | _=>cases h
 | _=>cases h
noncomputable def gSub:G2:=qv fun i j=>some (i - j)
theorem om_sub:OpM X (binaryOp .Sub) gSub:=⟨_,a60,G1⟩
instance (i j:Int):Decidable (Ep i j):=by unfold Ep;infer_instance
instance (i j:Int):Decidable (aj9 i j):=by unfold aj9;infer_instance
noncomputable def Qm:G2:=qv fun i j=>if Ep i j then some (i * j) else none
theorem om_mul:OpM X (binaryOp .Mult) Qm:=⟨_,a63,Ku⟩
noncomputable def CDv (i j:Int):Prop:=0 < j∧j < 18446744073709551616
instance (i j:Int):Decidable (CDv i j):=by unfold CDv;infer_instance
theorem a67:OpR X (binaryOp .FloorDiv) (rI CDv fun i j=>.int (i / j)):=opI fun i j _ _ _ _ _ hc q=>by
 have h1:(0:Int) < j:=hc.1
 have h2:j < 18446744073709551616:=hc.2
 refine floordiv_int (by omega) (by rw [Int.fdiv_eq_ediv_of_nonneg i (by omega)];exact q) (.inl (PyProof.noPylong_of_log2 ?_))
 have h3:j.natAbs < 2 ^ 64:=by omega
 have h4:j.natAbs≠0:=by omega
 have:=(Nat.log2_lt h4).mpr h3
 omega
noncomputable def Ut:G2:=qv fun i j=>if CDv i j then some (i / j) else none
theorem U1:OpM X (binaryOp .FloorDiv) Ut:=⟨_,a67,Ku⟩
noncomputable def Jf:G2:=qv fun i j=>if 0 < j then some (i % j) else none
theorem J4:OpM X (binaryOp .Mod) Jf:=⟨_,a64,Ku⟩
noncomputable def gLt:G2:=kw fun i j=>decide (i < j)
noncomputable def gLe:G2:=kw fun i j=>decide (i≤j)
noncomputable def gGt:G2:=kw fun i j=>decide (j < i)
noncomputable def gGe:G2:=kw fun i j=>decide (j≤i)
theorem q0:OpM X (compareOp .Lt) gLt:=⟨_,af9,Qi⟩
theorem w9:OpM X (compareOp .LtE) gLe:=⟨_,ag0,Qi⟩
theorem Ad:OpM X (compareOp .Gt) gGt:=⟨_,ag1,Qi⟩
theorem om_ge:OpM X (compareOp .GtE) gGe:=⟨_,ag2,Qi⟩
end
mutual
noncomputable def j7:D→Bool
 | .non=>true
 | .bl _=>true
 | .int _=>true
 | .str x=>x.all (· < 0x110000)
 | .tup xs=>plainDs xs
 | .lst xs=>plainDs xs
 | .dic _ _=>false
 | .ref _=>false
noncomputable def plainDs:List D→Bool
 | []=>true
 | d::ds=>j7 d && plainDs ds
end
mutual
noncomputable def dpt:D→Nat
 | .tup xs=>dpts xs + 1
 | .lst xs=>dpts xs + 1
 | _=>0
noncomputable def dpts:List D→Nat
 | []=>0
 | d::ds=>max (dpt d) (dpts ds)
end
mutual
noncomputable def Jr:D→PyData
 | .non=>.none
 | .bl b=>.bool b
 | .int i=>.int i
 | .str x=>.str ⟨x.toArray⟩
 | .tup xs=>.tuple (toPys xs)
 | .lst xs=>.list (toPys xs)
 | .dic _ _=>.none
 | .ref _=>.none
noncomputable def toPys:List D→List PyData
 | []=>[]
 | d::ds=>Jr d::toPys ds
end
mutual
noncomputable def eqD:D→D→Bool
 | .non,b=>match b with
  | .non=>true
  | _=>false
 | .bl a,b=>match b with
  | .bl c=>a == c
  | .int j=>(if a then 1 else 0) == j
  | _=>false
 | .int i,b=>match b with
  | .int j=>i == j
  | .bl c=>i == (if c then 1 else 0)
  | _=>false
 | .str x,b=>match b with
  | .str y=>x == y
  | _=>false
 | .tup xs,b=>match b with
  | .tup ys=>eqDs xs ys
  | _=>false
 | .lst xs,b=>match b with
  | .lst ys=>eqDs xs ys
  | _=>false
 | .dic _ _,_=>false
 | .ref _,_=>false
noncomputable def eqDs:List D→List D→Bool
 | [],b=>b.isEmpty
 | x::xs,b=>match b with
  | []=>false
  | y::ys=>eqD x y && eqDs xs ys
end
theorem Ks (x y:List Nat):((⟨x.toArray⟩:Str) == (⟨y.toArray⟩:Str))=(x == y):=by
 rw [Bool.eq_iff_iff]
 simp
mutual
theorem yg:∀ (a b:D),j7 a=true→j7 b=true→PyData.eqv (Jr a) (Jr b)=eqD a b
 | .non,b,_,hb=>by cases b <;> first | (simp [j7] at hb;done) | (simp [Jr,eqD,PyData.eqv];done)
 | .bl a,b,_,hb=>by cases b <;> first | (simp [j7] at hb;done) | (simp [Jr,eqD,PyData.eqv];done)
 | .int a,b,_,hb=>by cases b <;> first | (simp [j7] at hb;done) | (simp [Jr,eqD,PyData.eqv];done)
 | .str a,b,_,hb=>by
  cases b with
  | str y=>simp only [Jr,eqD,PyData.eqv];exact Ks _ _
  | dic _ _=>simp [j7] at hb
  | ref _=>simp [j7] at hb
  | _=>simp [Jr,eqD,PyData.eqv]
 | .tup a,b,ha,hb=>by
  cases b with
  | tup b=>simp only [Jr,eqD,PyData.eqv];exact eqvs_toPys a b (by simpa [j7] using ha) (by simpa [j7] using hb)
  | dic _ _=>simp [j7] at hb
  | ref _=>simp [j7] at hb
  | _=>simp [Jr,eqD,PyData.eqv]
 | .lst a,b,ha,hb=>by
  cases b with
  | lst b=>simp only [Jr,eqD,PyData.eqv];exact eqvs_toPys a b (by simpa [j7] using ha) (by simpa [j7] using hb)
  | dic _ _=>simp [j7] at hb
  | ref _=>simp [j7] at hb
  | _=>simp [Jr,eqD,PyData.eqv]
 | .dic _ _,_,ha,_=>by simp [j7] at ha
 | .ref _,_,ha,_=>by simp [j7] at ha
theorem eqvs_toPys:∀ (a b:List D),plainDs a=true→plainDs b=true→PyData.eqvAll (toPys a) (toPys b)=eqDs a b
 | [],[],_,_=>by simp [toPys,eqDs,PyData.eqvAll]
 | [],_::_,_,_=>by simp [toPys,eqDs,PyData.eqvAll]
 | _::_,[],_,_=>by simp [toPys,eqDs,PyData.eqvAll]
 | x::xs,y::ys,ha,hb=>by
  simp only [plainDs,Bool.and_eq_true] at ha hb
  simp only [toPys,eqDs,PyData.eqvAll]
  rw [yg x y ha.1 hb.1,eqvs_toPys xs ys ha.2 hb.2]
end
mutual
theorem Jh:∀ (a:D),j7 a=true→(Jr a).canLay0=true
 | .non,_=>by simp [Jr,PyData.canLay0]
 | .bl _,_=>by simp [Jr,PyData.canLay0]
 | .int _,_=>by simp [Jr,PyData.canLay0]
 | .str x,h=>by simp only [Jr,PyData.canLay0,PyData.strOk];simpa [j7] using h
 | .tup xs,h=>by simp only [Jr,PyData.canLay0];exact canLays_toPy xs (by simpa [j7] using h)
 | .lst xs,h=>by simp only [Jr,PyData.canLay0];exact canLays_toPy xs (by simpa [j7] using h)
 | .dic _ _,h=>by simp [j7] at h
 | .ref _,h=>by simp [j7] at h
theorem canLays_toPy:∀ (a:List D),plainDs a=true→PyData.canLayAll0 (toPys a)=true
 | [],_=>by simp [toPys,PyData.canLayAll0]
 | x::xs,h=>by
  simp only [plainDs,Bool.and_eq_true] at h
  simp only [toPys,PyData.canLayAll0,Jh x h.1,canLays_toPy xs h.2,Bool.and_self]
end
mutual
theorem y8:∀ (a:D),(Jr a).depth=dpt a
 | .non=>by simp [Jr,PyData.depth,dpt]
 | .bl _=>by simp [Jr,PyData.depth,dpt]
 | .int _=>by simp [Jr,PyData.depth,dpt]
 | .str x=>by simp [Jr,PyData.depth,dpt]
 | .tup xs=>by simp only [Jr,PyData.depth,dpt];rw [depths_toPys xs]
 | .lst xs=>by simp only [Jr,PyData.depth,dpt];rw [depths_toPys xs]
 | .dic _ _=>by simp [Jr,PyData.depth,dpt]
 | .ref _=>by simp [Jr,PyData.depth,dpt]
theorem depths_toPys:∀ (a:List D),PyData.depthAll (toPys a)=dpts a
 | []=>by simp [toPys,PyData.depthAll,dpts]
 | x::xs=>by simp only [toPys,PyData.depthAll,dpts];rw [y8 x,depths_toPys xs]
end
section
variable {X:Cx} {EX:EXT}
mutual
theorem xx {pins:List (Addr×Obj)} {σ:L2.St} {H F:Hp} {s:Shared} {α:List Addr} (I:Inv X pins σ H s) (sub:jr F H):∀ (d:D) (v:V) (u:Value),j7 d=true→Rep X.K F α d v→jl v u→∃ as,Reads s.heap u (Jr d) as
 | .non,v,u,_,h,r=>by unfold Rep at h;subst h;cases r;exact ⟨_,by rw [Jr];exact .none⟩
 | .bl b,v,u,_,h,r=>by unfold Rep at h;subst h;cases r;exact ⟨_,by rw [Jr];exact .bool b⟩
 | .int b,v,u,_,h,r=>by unfold Rep at h;subst h;obtain ⟨t,rfl⟩:=r;exact ⟨_,by rw [Jr];exact .int b t⟩
 | .str b,v,u,_,h,r=>by unfold Rep at h;subst h;obtain ⟨t,rfl⟩:=r;exact ⟨_,by rw [Jr];exact .str _ t⟩
 | .tup ds,v,u,hp,h,r=>by
  unfold Rep at h
  obtain ⟨a,vs,rfl,hs,hr⟩:=h
  cases r
  obtain ⟨its,rv,⟨o,e1,e2,n,e3⟩,_⟩:=I.tuple (jr.tup sub hs)
  obtain ⟨as,q⟩:=readsAll_of I sub ds vs its (by simpa [j7] using hp) hr rv
  exact ⟨_,by rw [Jr];exact .tuple e1 e2 e3 (by simpa using q)⟩
 | .lst ds,v,u,hp,h,r=>by
  unfold Rep at h
  obtain ⟨a,vs,rfl,hs,hr⟩:=h
  cases r
  obtain ⟨its,rv,⟨o,n,e1,e2,_,e3⟩,_⟩:=I.list (sub.seq hs)
  obtain ⟨as,q⟩:=readsAll_of I sub ds vs its (by simpa [j7] using hp) hr rv
  exact ⟨_,by rw [Jr];exact .list e1 e2 e3 (by simpa using q)⟩
 | .dic _ _,_,_,hp,_,_=>by simp [j7] at hp
 | .ref _,_,_,hp,_,_=>by simp [j7] at hp
theorem readsAll_of {pins:List (Addr×Obj)} {σ:L2.St} {H F:Hp} {s:Shared} {α:List Addr} (I:Inv X pins σ H s) (sub:jr F H):∀ (ds:List D) (vs:List V) (us:List Value),plainDs ds=true→Reps X.K F α ds vs→jq vs us→∃ as,ReadsAll s.heap us (toPys ds) as
 | [],vs,us,_,h,r=>by unfold Reps at h;subst h;cases r;exact ⟨_,by rw [toPys];exact .nil⟩
 | d::ds,vs,us,hp,h,r=>by
  unfold Reps at h
  obtain ⟨v,vr,rfl,h1,h2⟩:=h
  cases r with
  | cons r1 r2 =>
   simp only [plainDs,Bool.and_eq_true] at hp
   obtain ⟨as,q1⟩:=xx I sub d v _ hp.1 h1 r1
   obtain ⟨bs,q2⟩:=readsAll_of I sub ds vr _ hp.2 h2 r2
   exact ⟨_,by rw [toPys];exact .cons q1 q2⟩
end
theorem Ya {pins:List (Addr×Obj)} {σ:L2.St} {H F:Hp} {s:Shared} {α:List Addr} (I:Inv X pins σ H s) (sub:jr F H) {d:D} {v:V} {u:Value} (hp:j7 d=true) (h:Pk X.K α F H d v) (r:jl v u):∃ as,Reads s.heap u (Jr d) as:=by
 cases d with
 | lst ds =>
  obtain ⟨a,vs,rfl,hs,hr⟩:=h
  cases r
  obtain ⟨its,rv,⟨o,n,e1,e2,_,e3⟩,_⟩:=I.list hs
  obtain ⟨as,q⟩:=readsAll_of I sub ds vs its (by simpa [j7] using hp) hr rv
  exact ⟨_,by rw [Jr];exact .list e1 e2 e3 (by simpa using q)⟩
 | dic _ _=>simp [j7] at hp
 | _=>exact xx (α:=α) I sub _ v u hp h r
noncomputable def qq (a b:D):Bool:=j7 a && j7 b && decide (min (dpt a) (dpt b)≤100)
noncomputable def gEq:G2:=fun a b=>if qq a b then some (.bl (eqD a b)) else none
noncomputable def gNe:G2:=fun a b=>if qq a b then some (.bl (!eqD a b)) else none
noncomputable def ae1 (K:PySem.W.Frag) (neg:Bool):R2:=fun x y H Q=>∃ F α a b,jr F H∧Pk K α F H a x∧Pk K α F H b y∧qq a b=true∧Q (.bl (if neg then !eqD a b else eqD a b)) H
theorem km {A:Around} {a b:D} (hu:A.units + 200 < cLine) (h:qq a b=true):A.units + min (Jr a).depth (Jr b).depth < cLine:=by
 unfold qq at h
 simp only [Bool.and_eq_true,decide_eq_true_eq] at h
 rw [y8,y8]
 omega
theorem a66 (hu:X.A.units + 200 < cLine):OpR X (compareOp .Eq) (ae1 X.K false):=by
 intro pins s σ H x y v u Q I rx ry h
 obtain ⟨F,α,a,b,sub,ha,hb,hc,q⟩:=h
 have hc':=hc
 unfold qq at hc'
 simp only [Bool.and_eq_true] at hc'
 obtain ⟨as,r1⟩:=Ya I sub hc'.1.1 ha rx
 obtain ⟨bs,r2⟩:=Ya I sub hc'.1.2 hb ry
 refine PySem.SeqAt.compareEq_reads r1 r2 (Jh _ hc'.1.1) (Jh _ hc'.1.2) (km hu hc) ?_
 rw [yg _ _ hc'.1.1 hc'.1.2]
 exact ⟨.bl _,H,I,rfl,q⟩
theorem a62 (hu:X.A.units + 200 < cLine):OpR X (compareOp .NotEq) (ae1 X.K true):=by
 intro pins s σ H x y v u Q I rx ry h
 obtain ⟨F,α,a,b,sub,ha,hb,hc,q⟩:=h
 have hc':=hc
 unfold qq at hc'
 simp only [Bool.and_eq_true] at hc'
 obtain ⟨as,r1⟩:=Ya I sub hc'.1.1 ha rx
 obtain ⟨bs,r2⟩:=Ya I sub hc'.1.2 hb ry
 refine PySem.SeqAt.compareNe_reads r1 r2 (Jh _ hc'.1.1) (Jh _ hc'.1.2) (km hu hc) ?_
 rw [yg _ _ hc'.1.1 hc'.1.2]
 exact ⟨.bl _,H,I,rfl,q⟩
theorem om_eq (hu:X.A.units + 200 < cLine):OpM X (compareOp .Eq) gEq:=by
 refine ⟨_,a66 hu,fun Z α F H μ a b c x y Q R ha hb hg k=>?_⟩
 unfold gEq at hg
 split at hg
 ·rename_i hc
  cases hg
  exact ⟨F,α,a,b,R.sub,ha,hb,hc,k _ F H R (jr.refl _) (Uv _)⟩
 ·cases hg
theorem xt (hu:X.A.units + 200 < cLine):OpM X (compareOp .NotEq) gNe:=by
 refine ⟨_,a62 hu,fun Z α F H μ a b c x y Q R ha hb hg k=>?_⟩
 unfold gNe at hg
 split at hg
 ·rename_i hc
  cases hg
  exact ⟨F,α,a,b,R.sub,ha,hb,hc,k _ F H R (jr.refl _) (Uv _)⟩
 ·cases hg
noncomputable def inD (x:D) (ds:List D):Bool:=ds.any fun y=>eqD y x
noncomputable def Wd (x:D) (ds:List D):Bool:=j7 x && plainDs ds && decide (dpt x≤100)
noncomputable def Cw (neg:Bool):G2:=fun a b=>match b with
 | .lst ds=>if Wd a ds then some (.bl (if neg then !inD a ds else inD a ds)) else none
 | .tup ds=>if Wd a ds then some (.bl (if neg then !inD a ds else inD a ds)) else none
 | _=>none
noncomputable def gIn:G2:=Cw false
noncomputable def Zr:G2:=Cw true
theorem We {pins:List (Addr×Obj)} {σ:L2.St} {H F:Hp} {s:Shared} {α:List Addr} {A:Around} (hu:A.units + 150 < cLine) (I:Inv X pins σ H s) (sub:jr F H) {x:D} {v:V} {u:Value} (hx:j7 x=true) (hd:dpt x≤100)
  (h:Pk X.K α F H x v) (r:jl v u) (ds:List D) (vs:List V) (us:List Value) (hp:plainDs ds=true) (hr:Reps X.K F α ds vs) (rv:jq vs us) :
  ∃ e:Value→Bool,(∀ w∈us,SeqAt.EqAt A s w u (e w))∧us.any e=inD x ds:=by
 obtain ⟨bs,rx⟩:=Ya I sub hx h r
 have hone:∀ (d:D) (w:Value) (as:List Addr),j7 d=true→Reads s.heap w (Jr d) as→SeqAt.EqAt A s w u (eqD d x):=fun d w as hd' q=>by
  have:=PySem.SeqAt.eqAt_reads (Jr d) (Jr x) A s w u as bs q rx (Jh _ hd') (Jh _ hx) (by rw [y8,y8];omega)
  rw [yg _ _ hd' hx] at this
  exact this
 classical
 let e:Value→Bool:=fun w=>decide (∃ d as,j7 d=true∧Reads s.heap w (Jr d) as∧eqD d x=true)
 have he:∀ (d:D) (w:Value) (as:List Addr),j7 d=true→Reads s.heap w (Jr d) as→e w=eqD d x:=fun d w as hd' q=>by
  cases hq:eqD d x with
  | true=>exact decide_eq_true ⟨d,as,hd',q,hq⟩
  | false =>
   refine decide_eq_false ?_
   rintro ⟨d2,as2,hp2,q2,e2⟩
   have e3:=PySem.SeqAt.Reads.unique (Jr d) (Jr d2) w as as2 (Jh _ hd') q q2
   rw [← yg _ _ hp2 hx,← e3,yg _ _ hd' hx,hq] at e2
   cases e2
 have all:∀ (ds:List D) (vs:List V) (us:List Value),plainDs ds=true→Reps X.K F α ds vs→jq vs us→(∀ w∈us,SeqAt.EqAt A s w u (e w))∧us.any e=inD x ds:=by
  intro ds
  induction ds with
  | nil =>
   intro vs us _ hr rv
   unfold Reps at hr
   subst hr
   cases rv
   exact ⟨fun w hw=>(nomatch hw),rfl⟩
  | cons d ds ih =>
   intro vs us hp hr rv
   unfold Reps at hr
   obtain ⟨v1,vr,rfl,h1,h2⟩:=hr
   simp only [plainDs,Bool.and_eq_true] at hp
   cases rv with
   | cons r1 r2 =>
    obtain ⟨as,q1⟩:=xx I sub d v1 _ hp.1 h1 r1
    obtain ⟨a1,a2⟩:=ih vr _ hp.2 h2 r2
    refine ⟨fun w hw=>?_,?_⟩
    ·rcases List.mem_cons.mp hw with rfl | hw
     ·rw [he d _ as hp.1 q1];exact hone d _ as hp.1 q1
     ·exact a1 w hw
    ·rw [List.any_cons,he d _ as hp.1 q1,a2]
     rfl
 exact ⟨e,(all ds vs us hp hr rv).1,(all ds vs us hp hr rv).2⟩
noncomputable def a35 (K:PySem.W.Frag) (neg:Bool):R2:=fun x y H Q=>∃ F α a ds p vs,jr F H∧Pk K α F H a x∧y=.ref p∧(SqL K H p vs∨SqT K H p vs)∧Reps K F α ds vs∧Wd a ds=true∧Q (.bl (if neg then !inD a ds else inD a ds)) H
theorem a65 (hu:X.A.units + 200 < cLine):OpR X (compareOp .In) (a35 X.K false):=by
 intro pins s σ H x y v u Q I rx ry h
 obtain ⟨F,α,a,ds,p,vs,sub,ha,rfl,hq,hr,hc,q⟩:=h
 unfold Wd at hc
 simp only [Bool.and_eq_true,decide_eq_true_eq] at hc
 cases ry
 rcases hq with hq | hq
 ·obtain ⟨its,r,pl,hz⟩:=I.list hq
  obtain ⟨e,e1,e2⟩:=We (A:=X.A.in1) (by show X.A.units + 1 + 150 < cLine;omega) I sub hc.1.1 hc.2 ha rx ds vs its hc.1.2 hr r
  refine SeqAt.in_listAt e pl.isList (fun w hw=>e1 w (by simpa using hw)) ⟨.bl _,H,I,rfl,?_⟩
  rw [show its.toArray.any e=its.any e by simp,e2]
  exact q
 ·obtain ⟨its,r,pl,hz⟩:=I.tuple hq
  obtain ⟨e,e1,e2⟩:=We (A:=X.A.in1) (by show X.A.units + 1 + 150 < cLine;omega) I sub hc.1.1 hc.2 ha rx ds vs its hc.1.2 hr r
  refine SeqAt.in_tupleAt e pl (fun w hw=>e1 w (by simpa using hw)) ⟨.bl _,H,I,rfl,?_⟩
  rw [show its.toArray.any e=its.any e by simp,e2]
  exact q
theorem Ff (hu:X.A.units + 200 < cLine):OpR X (compareOp .NotIn) (a35 X.K true):=by
 intro pins s σ H x y v u Q I rx ry h
 obtain ⟨F,α,a,ds,p,vs,sub,ha,rfl,hq,hr,hc,q⟩:=h
 unfold Wd at hc
 simp only [Bool.and_eq_true,decide_eq_true_eq] at hc
 cases ry
 rcases hq with hq | hq
 ·obtain ⟨its,r,pl,hz⟩:=I.list hq
  obtain ⟨e,e1,e2⟩:=We (A:=X.A.in1) (by show X.A.units + 1 + 150 < cLine;omega) I sub hc.1.1 hc.2 ha rx ds vs its hc.1.2 hr r
  refine SeqAt.notIn_listAt e pl.isList (fun w hw=>e1 w (by simpa using hw)) ⟨.bl _,H,I,rfl,?_⟩
  rw [show its.toArray.any e=its.any e by simp,e2]
  exact q
 ·obtain ⟨its,r,pl,hz⟩:=I.tuple hq
  obtain ⟨e,e1,e2⟩:=We (A:=X.A.in1) (by show X.A.units + 1 + 150 < cLine;omega) I sub hc.1.1 hc.2 ha rx ds vs its hc.1.2 hr r
  refine SeqAt.notIn_tupleAt e pl (fun w hw=>e1 w (by simpa using hw)) ⟨.bl _,H,I,rfl,?_⟩
  rw [show its.toArray.any e=its.any e by simp,e2]
  exact q
theorem Al {K:PySem.W.Frag} (neg:Bool):ue K (a35 K neg) (Cw neg):=by
 intro Z α F H μ a b c x y Q R ha hb hg k
 cases b with
 | lst ds =>
  simp only [Cw] at hg
  split at hg
  ·rename_i hc
   have hg:=Option.some.inj hg
   subst hg
   obtain ⟨p,vs,rfl,hs,hr⟩:=hb
   exact ⟨F,α,a,ds,p,vs,R.sub,ha,rfl,.inl hs,hr,hc,k _ F H R (jr.refl _) (Uv _)⟩
  ·cases hg
 | tup ds =>
  simp only [Cw] at hg
  split at hg
  ·rename_i hc
   have hg:=Option.some.inj hg
   subst hg
   unfold Pk Rep at hb
   obtain ⟨p,vs,rfl,hs,hr⟩:=hb
   exact ⟨F,α,a,ds,p,vs,R.sub,ha,rfl,.inr (jr.tup R.sub hs),hr,hc,k _ F H R (jr.refl _) (Uv _)⟩
  ·cases hg
 | _=>cases hg
theorem U0 (hu:X.A.units + 200 < cLine):OpM X (compareOp .In) gIn:=⟨_,a65 hu,Al false⟩
theorem Vs (hu:X.A.units + 200 < cLine):OpM X (compareOp .NotIn) Zr:=⟨_,Ff hu,Al true⟩
end
end M
set_option Elab.async false
set_option linter.all false
set_option maxRecDepth 100000
set_option maxHeartbeats 4000000
namespace M
open PySem PySem.Spec PyProof.Rows L2
noncomputable def qy (d:D):Option DK:=match d with
 | .int i=>some (.inl i)
 | .str x=>some (.inr x)
 | _=>none
noncomputable def J7:List DK→List D→DK→Option D
 | k::ks,v::vs,q=>if k=q then some v else J7 ks vs q
 | _,_,_=>none
theorem vz {a b:DK} (h:dk a=dk b):a=b:=by
 cases a with
 | inl i =>
  cases b with
  | inl j=>exact congrArg _ (Sum.inl.inj h)
  | inr y=>cases h
 | inr x =>
  cases b with
  | inl j=>cases h
  | inr y =>
   have h2:(⟨x.toArray⟩:Str)=⟨y.toArray⟩:=Sum.inr.inj h
   have h3:x.toArray=y.toArray:=by injection h2
   have h4:x=y:=by simpa using congrArg Array.toList h3
   rw [h4]
theorem Wg {K:PySem.W.Frag} {α:List Addr} {F H:Hp} {d:D} {v:V} {k:DK} (h:Pk K α F H d v) (e:qy d=some k):v=kV (dk k):=by
 cases d with
 | int i=>cases e;exact Uu h
 | str x=>cases e;exact xw h
 | _=>cases e
theorem yk {K:PySem.W.Frag} {F:Hp} {α:List Addr}:∀ {ks:List DK} {ds:List D} {vs:List V} {k:DK},Reps K F α ds vs→ks.length=ds.length →
  (∃ d v,J7 ks ds k=some d∧yy ((ks.map dk).zip vs) (dk k)=some v∧Rep K F α d v)∨(J7 ks ds k=none∧yy ((ks.map dk).zip vs) (dk k)=none)
 | [],_,_,_,_,_=>.inr ⟨rfl,rfl⟩
 | q::ks,[],vs,k,_,hl=>by simp at hl
 | q::ks,d::ds,vs,k,h,hl=>by
  unfold Reps at h
  obtain ⟨v,vr,rfl,h1,h2⟩:=h
  by_cases e:q=k
  ·subst e
   refine .inl ⟨d,v,by simp [J7],?_,h1⟩
   exact Zj (p:=(dk q,v)) rfl
  ·have e2:¬ dk q=dk k:=fun z=>e (vz z)
   have ih:=yk (k:=k) h2 (by simpa using hl)
   rw [show J7 (q::ks) (d::ds) k=J7 ks ds k by simp [J7,e],show yy (((q::ks).map dk).zip (v::vr)) (dk k)=yy ((ks.map dk).zip vr) (dk k) from Zi (p:=(dk q,v)) e2]
   exact ih
noncomputable def J5:G2:=fun a b=>match a with
 | .dic ks vs=>(qy b).bind (J7 ks vs)
 | _=>none
noncomputable def zo (neg:Bool):G2:=fun b a=>match a with
 | .dic ks vs=>(qy b).map fun k=>.bl (if neg then !(J7 ks vs k).isSome else (J7 ks vs k).isSome)
 | _=>none
section
variable {X:Cx} {EX:EXT} {e a b c:Expr} {pos:Pos} {m ma mb mc:MX} {es rest:List Expr}
theorem bo {K:PySem.W.Frag}:ue K (fun x y H Q=>∃ a v,x=.ref a∧Yv H a y (some v)∧Q v H) J5:=by
 intro Z α F H μ a b c x y Q R ha hb hg k
 cases a with
 | dic ks ds =>
  simp only [J5] at hg
  cases hk:qy b with
  | none=>rw [hk] at hg;cases hg
  | some q =>
   rw [hk] at hg
   have hy:=Wg hb hk
   obtain ⟨p,vs,rfl,hs,hl,hr⟩:=ha
   rcases yk (k:=q) hr hl with ⟨d,v,h1,h2,h3⟩ | ⟨h1,h2⟩
   ·have hg:J7 ks ds q=some c:=hg
    rw [h1] at hg
    cases hg
    subst hy
    exact ⟨p,v,rfl,by rw [← h2];exact Yv.k hs,k v F H R (jr.refl _) h3⟩
   ·have hg:J7 ks ds q=some c:=hg
    rw [h1] at hg
    cases hg
 | _=>cases hg
theorem me_dget (hu:X.A.units + 200 < cLine) (ha:ME X EX a ma) (hb:ME X EX b mb) (hs:Aw b):ME X EX (.Subscript a b pos) (mBin J5 ma mb):=by
 obtain ⟨ta,pa,sa⟩:=ha
 obtain ⟨tb,pb,sb⟩:=hb
 exact ⟨_,Bs (by omega) pa pb hs,y7 (r:=fun x y H Q=>∃ a v,x=.ref a∧Yv H a y (some v)∧Q v H) sa sb bo⟩
theorem dv {K:PySem.W.Frag} (neg:Bool):ue K (fun y x H Q=>∃ a o,x=.ref a∧Yv H a y o∧Q (.bl (if neg then !o.isSome else o.isSome)) H) (zo neg):=by
 intro Z α F H μ b a c y x Q R hb ha hg k
 cases a with
 | dic ks ds =>
  simp only [zo] at hg
  cases hk:qy b with
  | none=>rw [hk] at hg;cases hg
  | some q =>
   rw [hk] at hg
   have hg:=Option.some.inj hg
   subst hg
   have hy:=Wg hb hk
   subst hy
   obtain ⟨p,vs,rfl,hs,hl,hr⟩:=ha
   refine ⟨p,_,rfl,Yv.k hs,k _ F H R (jr.refl _) ?_⟩
   show Rep K F α (D.bl (if neg=true then !(J7 ks ds q).isSome else (J7 ks ds q).isSome)) _
   rcases yk (k:=q) hr hl with ⟨d,v,h1,h2,h3⟩ | ⟨h1,h2⟩
   ·rw [h1,h2];exact Uv _
   ·rw [h1,h2];exact Uv _
 | _=>cases hg
theorem De (hu:X.A.units + 200 < cLine) (ha:ME X EX a ma) (hb:ME X EX b mb) (hm:behindInMarks .In b=false):MT X EX (.Compare a [.In] [b] pos) (mTest (mBin (zo false) ma mb)):=by
 obtain ⟨ta,pa,sa⟩:=ha
 obtain ⟨tb,pb,sb⟩:=hb
 exact ⟨_,W8 (a53 (by omega) pa pb) hm,Uh (y7 (r:=fun y x H Q=>∃ a o,x=.ref a∧Yv H a y o∧Q (.bl (if false then !o.isSome else o.isSome)) H) sa sb (dv false))⟩
theorem Fb (hu:X.A.units + 200 < cLine) (ha:ME X EX a ma) (hb:ME X EX b mb) (hm:behindInMarks .NotIn b=false):MT X EX (.Compare a [.NotIn] [b] pos) (mTest (mBin (zo true) ma mb)):=by
 obtain ⟨ta,pa,sa⟩:=ha
 obtain ⟨tb,pb,sb⟩:=hb
 exact ⟨_,W8 (Fi (by omega) pa pb) hm,Uh (y7 (r:=fun y x H Q=>∃ a o,x=.ref a∧Yv H a y o∧Q (.bl (if true then !o.isSome else o.isSome)) H) sa sb (dv true))⟩
theorem RH.hold {K:PySem.W.Frag} {Z:ZS} {F H:Hp} {α:List Addr} {μ:Mu} {p:Addr} (o:HO) (r:RH K Z α F H μ) (hp:H p=none):RH K (ZS.up Z p o) α F (upd H p o) μ:=by
 have fp:F p=none:=by
  cases e:F p with
  | none=>rfl
  | some u=>rw [r.sub _ _ e] at hp;cases hp
 refine ⟨fun b u e=>?_,r.len,fun k a c ha hc=>?_,fun b u e=>?_,fun b u e=>?_,fun k a c ha hc hd=>?_,r.dis,r.ext⟩
 ·rw [j9 (jt (r.sub b u e) hp)];exact r.sub b u e
 ·have h:=r.cell k a c ha hc
  exact h.go (Ext.refl _ _) (fun _=>rfl) fun hd=>let ⟨_,_,z⟩:=h.live hd;j9 (jt z hp)
 ·by_cases hb:b=p
  ·subst hb;rw [Jb] at e;rw [js];exact e
  ·rw [yw hb] at e;rw [j9 hb];exact r.zs b u e
 ·by_cases hb:b=p
  ·subst hb;exact fp
  ·rw [yw hb] at e;exact r.zf b u e
 ·have h:=r.cell k a c ha hc
  have hz:=r.zc k a c ha hc hd
  obtain ⟨_,_,z⟩:=h.live hd
  rw [yw (jt z hp)];exact hz
theorem RH.unhold {K:PySem.W.Frag} {Z:ZS} {F H:Hp} {α:List Addr} {μ:Mu} {p:Addr} {o:HO} (o':HO) (r:RH K (ZS.up Z p o) α F H μ) (hz:Z.z p=none):RH K Z α (upd F p o') (upd H p o') μ∧jr F (upd F p o'):=by
 have fp:F p=none:=r.zf p o Jb
 have sF:jr F (upd F p o'):=fun b u e=>by rw [j9 (jt e fp)];exact e
 have ex:Ext α F α (upd F p o'):=⟨sF,fun _ _ h=>h⟩
 have nc:∀ (k:Nat) (a:Addr) (c:Cell),α[k]? =some a→μ[k]? =some c→c≠.dead→a≠p:=fun k a c ha hc hd z=>by
  have:=r.zc k a c ha hc hd
  rw [z,Jb] at this
  cases this
 refine ⟨⟨fun b u e=>?_,r.len,fun k a c ha hc=>?_,fun b u e=>?_,fun b u e=>?_,fun k a c ha hc hd=>?_,r.dis,r.ext.trans ex⟩,sF⟩
 ·by_cases hb:b=p
  ·subst hb;rw [js] at e ⊢;exact e
  ·rw [j9 hb] at e ⊢;exact r.sub b u e
 ·exact (r.cell k a c ha hc).go ex (fun hd=>j9 (nc k a c ha hc hd)) fun hd=>j9 (nc k a c ha hc hd)
 ·have hb:b≠p:=jt e hz
  rw [j9 hb]
  exact r.zs b u (by rw [yw hb];exact e)
 ·have hb:b≠p:=jt e hz
  rw [j9 hb]
  exact r.zf b u (by rw [yw hb];exact e)
 ·have ne:=nc k a c ha hc hd
  have:=r.zc k a c ha hc hd
  rw [yw ne] at this
  exact this
noncomputable def MPs (X:Cx) (EX:EXT) (pos:Pos) (keys:List (Option Expr)) (values:List Expr) (ks:List DK) (ms:MAs):Prop :=
 keys.length=ks.length∧(∃ trs,PPs X pos keys values trs∧∀ Z α F H σ ρ μ Q,RS X.K Z α F H σ ρ μ→GA X.K EX Z α F (fun vs H'=>Q ((ks.map fun k=>kV (dk k)).zip vs) H') (ms ρ μ)→W4 trs σ H Q)∧∀ ρ μ ds μ',ms ρ μ=.ok ds μ'→ds.length=ks.length
theorem a5:MPs X EX pos [] [] [] mNil:=⟨rfl,⟨[],B9,fun Z α F H σ ρ μ Q R g=>g [] α F H R.hp (Ext.refl _ _) j6⟩,fun ρ μ ds μ' h=>by cases h;rfl⟩
theorem ww:∀ (more acc:List (Key×V)),((acc++more).map (·.1)).Nodup→zw acc more=acc++more
 | [],acc,_=>by simp [zw]
 | kv::more,acc,h=>by
  have hn:yy acc kv.1=none:=by
   cases e:yy acc kv.1 with
   | none=>rfl
   | some v =>
    exfalso
    have hm:kv.1∈acc.map (·.1):=by
     have q:(acc.any fun x=>decide (x.1=kv.1))=true:=by rw [Zh,e];rfl
     obtain ⟨p,hp,e⟩:=List.any_eq_true.mp q
     exact List.mem_map.mpr ⟨p,hp,of_decide_eq_true e⟩
    rw [List.map_append,List.nodup_append] at h
    exact h.2.2 _ hm _ (by simp) rfl
  show zw (Y2 acc kv.1 kv.2) more=_
  rw [D4 _ hn]
  rw [ww more (acc++[(kv.1,kv.2)]) (by simpa using h)]
  simp
theorem vb {β γ δ:Type} (f:β→γ):∀ (l:List β) (r:List δ),(l.map f).zip r=(l.zip r).map fun p=>(f p.1,p.2)
 | [],_=>by simp
 | _::_,[]=>by simp
 | a::l,b::r=>by simp only [List.map_cons,List.zip_cons_cons];rw [vb f l r]
theorem xp:∀ {ks:List DK},ks.Nodup→(ks.map dk).Nodup
 | [],_=>List.nodup_nil
 | k::ks,h=>by
  rw [List.nodup_cons] at h
  rw [List.map_cons,List.nodup_cons]
  refine ⟨fun hm=>?_,xp h.2⟩
  obtain ⟨q,hq,e⟩:=List.mem_map.mp hm
  exact h.1 (vz e ▸ hq)
noncomputable abbrev GL:=List D→Option D
noncomputable def Pks (K:PySem.W.Frag) (α:List Addr) (F H:Hp):List D→List V→Prop
 | [],vs=>vs=[]
 | d::ds,vs=>∃ v r,vs=v::r∧Pk K α F H d v∧Pks K α F H ds r
theorem RH.pks {K:PySem.W.Frag} {Z:ZS} {α:List Addr} {F H:Hp} {μ:Mu} (r:RH K Z α F H μ):∀ {ds:List D} {vs:List V},Reps K F α ds vs→Pks K α F H (ds.map (j4 μ)) vs
 | [],vs,h=>by unfold Reps at h;exact h
 | d::ds,vs,h=>by
  unfold Reps at h
  obtain ⟨v,vr,hv,h1,h2⟩:=h
  exact ⟨v,vr,hv,r.pk h1,RH.pks r h2⟩
noncomputable def F0 (K:PySem.W.Frag) (r:List V→Hp→VK→Prop) (g:GL):Prop:=∀ Z α F H μ ds c vs Q,RH K Z α F H μ→Pks K α F H ds vs→g ds=some c →
 (∀ v F' H',RH K Z α F' H' μ→jr F F'→Rep K F' α c v→Q v H')→r vs H Q
noncomputable def zm (X:Cx) (f:Value) (g:GL):Prop:=∃ r,ye X f r∧F0 X.K r g
noncomputable def mCallB (g:GL) (ms:MAs):MX:=fun ρ μ=>(ms ρ μ).bind fun ds μ1=>ofO μ1 (g (ds.map (j4 μ1)))
theorem xb {t:TA} {ms:MAs} {r:List V→Hp→VK→Prop} {g:GL} (st:∀ Z α F H σ ρ μ Q,RS X.K Z α F H σ ρ μ→GA X.K EX Z α F Q (ms ρ μ)→t σ H Q) (hs:F0 X.K r g):U9 X EX (tCB r t) (mCallB g ms):=by
 intro Z α F H σ ρ μ Q R gd
 refine st Z α F H σ ρ μ _ R (GA.step (G:=GE X.K EX Z α F Q) gd (fun _ _ h=>h) (fun h=>h) fun ds μ1 vs α1 F1 H1 R1 e1 p1 g1=>?_)
 cases hg:g (ds.map (j4 μ1)) with
 | none=>rw [hg] at g1;exact g1.elim
 | some c =>
  rw [hg] at g1
  exact hs Z α1 F1 H1 μ1 _ c vs Q R1 (R1.pks p1) hg fun v F' H' R' sf rp=>g1 v α1 F' H' R' (e1.trans ⟨sf,fun _ _ h=>h⟩) rp
theorem me_callB {x:Str} {p:Pos} {id:String} {g:GL} {ms:MAs} (hc:zm X (.builtin id) g) (hg:Gl X x) (hm:X.mg x=none) (hv:bootBuiltins x=some (.builtin id)) (ha:MA X EX (e::es) ms) (hn:x≠"__name__":=by decide) (hdb:(x == ("__debug__":Str))=false:=by decide)
  (he:starEach (e::es) X.env=(false,eval e X.env)::starEach es X.env:=by rfl) (hpl:(backTo pos (starEach es X.env)).any (·.1)=false:=by rfl):ME X EX (.Call (.Name x p) (e::es) [] pos) (mCallB g ms):=by
 obtain ⟨r,h1,h2⟩:=hc
 obtain ⟨t,pt,st,_⟩:=ha
 exact ⟨_,Vu h1 hg hm hv pt hn hdb he hpl,xb st h2⟩
theorem Q0 {x:Str} {p:Pos} {T:String} {g:GL} {ms:MAs} (hc:zm X (.type T) g) (hg:Gl X x) (hm:X.mg x=none) (hv:bootBuiltins x=some (.type T)) (ha:MA X EX (e::es) ms) (hn:x≠"__name__":=by decide) (hdb:(x == ("__debug__":Str))=false:=by decide)
  (he:starEach (e::es) X.env=(false,eval e X.env)::starEach es X.env:=by rfl) (hpl:(backTo pos (starEach es X.env)).any (·.1)=false:=by rfl):ME X EX (.Call (.Name x p) (e::es) [] pos) (mCallB g ms):=by
 obtain ⟨r,h1,h2⟩:=hc
 obtain ⟨t,pt,st,_⟩:=ha
 exact ⟨_,Fj h1 hg hm hv pt hn hdb he hpl,xb st h2⟩
noncomputable def gLen:GL:=fun ds=>match ds with
 | [.lst xs]=>some (.int xs.length)
 | [.tup xs]=>some (.int xs.length)
 | [.str xs]=>if xs.length≤16777216 then some (.int xs.length) else none
 | _=>none
theorem cm_len:zm X (.builtin "len") gLen:=by
 refine ⟨_,Cj,fun Z α F H μ ds c vs Q R hp hg k=>?_⟩
 match ds,hg with
 | [.lst xs],hg =>
  obtain ⟨v,r,rfl,⟨a,us,rfl,hs,hr⟩,hq⟩:=hp
  have hq:r=[]:=hq
  subst hq
  cases hg
  exact ⟨_,_,rfl,.inl ⟨us,hs,rfl⟩,by rw [← hr.length];exact k _ F H R (jr.refl _) (uv _)⟩
 | [.tup xs],hg =>
  obtain ⟨v,r,rfl,hv,hq⟩:=hp
  have hq:r=[]:=hq
  subst hq
  unfold Pk Rep at hv
  obtain ⟨a,us,rfl,hs,hr⟩:=hv
  cases hg
  exact ⟨_,_,rfl,.inr ⟨us,jr.tup R.sub hs,rfl⟩,by rw [← hr.length];exact k _ F H R (jr.refl _) (uv _)⟩
 | [.str xs],hg =>
  obtain ⟨v,r,rfl,hv,hq⟩:=hp
  have hq:r=[]:=hq
  subst hq
  have hv:=xw hv
  subst hv
  simp only [gLen] at hg
  split at hg
  ·rename_i hl
   cases hg
   refine ⟨_,xs.length,rfl,⟨by rw [sizeLine_eq];simpa [Str.length] using hl,by simp [Str.length]⟩,k _ F H R (jr.refl _) (uv _)⟩
  ·cases hg
noncomputable def ef:GL:=fun ds=>match ds with
 | [.int i,.int j]=>some (.int (if j > i then j else i))
 | _=>none
noncomputable def ah:GL:=fun ds=>match ds with
 | [.int i,.int j]=>some (.int (if j < i then j else i))
 | _=>none
theorem ae6 {K:PySem.W.Frag} {α:List Addr} {F H:Hp} {a b:D} {vs:List V} (h:Pks K α F H [a,b] vs):∃ v u,vs=[v,u]∧Pk K α F H a v∧Pk K α F H b u:=by
 obtain ⟨v,r,rfl,h1,u,r',rfl,h2,h3⟩:=h
 have h3:r'=[]:=h3
 subst h3
 exact ⟨v,u,rfl,h1,h2⟩
theorem Cl (hc:X.calm=true):zm X (.builtin "max") ef:=by
 refine ⟨_,Ew hc,fun Z α F H μ ds c vs Q R hp hg k=>?_⟩
 match ds,hg with
 | [.int i,.int j],hg =>
  obtain ⟨v,u,rfl,h1,h2⟩:=ae6 hp
  rw [Uu h1,Uu h2]
  cases hg
  exact ⟨i,j,rfl,k _ F H R (jr.refl _) (uv _)⟩
theorem aa6 (hc:X.calm=true):zm X (.builtin "min") ah:=by
 refine ⟨_,Ex hc,fun Z α F H μ ds c vs Q R hp hg k=>?_⟩
 match ds,hg with
 | [.int i,.int j],hg =>
  obtain ⟨v,u,rfl,h1,h2⟩:=ae6 hp
  rw [Uu h1,Uu h2]
  cases hg
  exact ⟨i,j,rfl,k _ F H R (jr.refl _) (uv _)⟩
inductive Ki where
 | int | bool | str | list | tuple
noncomputable def Ki.nm:Ki→String
 | .int=>"int"
 | .bool=>"bool"
 | .str=>"str"
 | .list=>"list"
 | .tuple=>"tuple"
noncomputable def isI (k:Ki) (d:D):Option Bool:=match d,k with
 | .non,_=>some false
 | .bl _,.bool=>some true
 | .bl _,.int=>some true
 | .bl _,_=>some false
 | .int _,.int=>some true
 | .int _,_=>some false
 | .str _,.str=>some true
 | .str _,_=>some false
 | .tup _,.tuple=>some true
 | .tup _,_=>some false
 | .lst _,.list=>some true
 | .lst _,_=>some false
 | .dic _ _,_=>some false
 | .ref _,_=>none
noncomputable def tyD:D→Option String
 | .non=>some "NoneType"
 | .bl _=>some "bool"
 | .int _=>some "int"
 | .str _=>some "str"
 | .tup _=>some "tuple"
 | .lst _=>some "list"
 | .dic _ _=>some "dict"
 | .ref _=>none
theorem ao {K:PySem.W.Frag} {k:Ki} {d:D} {b:Bool} {t:String} (h:isI k d=some b) (ht:tyD d=some t):PySem.W.kitOne K (.type t) (.type k.nm)=some b:=by
 cases d <;> cases ht <;> cases k <;> cases h <;> rfl
theorem ek {pins:List (Addr×Obj)} {σ:L2.St} {H F:Hp} {s:Shared} {α:List Addr} {A:Around} {E:Value→Shared→Prop} {Q:Value→Shared→Prop} {cl:Value} {b:Bool} {d:D} {v:V} {u:Value} {t:String}
  (I:Inv X pins σ H s) (sub:jr F H) (h:Pk X.K α F H d v) (r:jl v u) (ht:tyD d=some t) (e:PySem.W.kitOne X.K (.type t) cl=some b) (q:∀ tk,Q (.bool b) { s with toks:=tk}) :
  wpAny (model X.prog X.w) A (call (.builtin "isinstance") [u,cl]) Q E s:=by
 cases d with
 | non=>cases ht;have:=a43 h;subst this;exact yj I r .non e q
 | bl x=>cases ht;have:=ae7 h;subst this;exact yj I r (.bl x) e q
 | int x=>cases ht;have:=Uu h;subst this;exact yj I r (.int x) e q
 | str x=>cases ht;have:=xw h;subst this;exact yj I r (.str _) e q
 | tup x =>
  cases ht
  unfold Pk Rep at h
  obtain ⟨a,vs,rfl,hs,hr⟩:=h
  cases r
  obtain ⟨its,rv,⟨o,h1,h2,_⟩,_⟩:=I.tuple (jr.tup sub hs)
  exact PySem.W.kia_one PySem.W.kitx_tuple I.kIn ⟨o,h1,h2⟩ e (fun z=>nomatch z) q
 | lst x =>
  cases ht
  obtain ⟨a,vs,rfl,hs,hr⟩:=h
  cases r
  obtain ⟨its,rv,⟨o,n,h1,h2,_⟩,_⟩:=I.list hs
  exact PySem.W.kia_one PySem.W.kitx_list I.kIn ⟨o,h1,h2⟩ e (fun z=>nomatch z) q
 | dic ks x =>
  cases ht
  obtain ⟨a,vs,rfl,hs,_⟩:=h
  exact yj I r (.dK hs) e q
 | ref x=>cases ht
noncomputable def cv (k:Ki) (m:MX):MX:=fun ρ μ=>(m ρ μ).bind fun d μ1=>ofO μ1 ((isI k (j4 μ1 d)).map .bl)
theorem Ci (k:Ki):ye X (.builtin "isinstance") (fun xs H Q=>∃ F α d v b,jr F H∧xs=[v,.ty k.nm]∧Pk X.K α F H d v∧isI k d=some b∧Q (.bl b) H):=by
 intro pins s σ H xs us Q I r h
 obtain ⟨F,α,d,v,b,sub,rfl,hp,hk,q⟩:=h
 obtain ⟨u,w',rfl,h1,h2⟩:=V1 r
 cases h2
 obtain ⟨t,ht⟩:∃ t,tyD d=some t:=by
  cases d <;> first | exact ⟨_,rfl⟩ | (cases hk)
 exact ek I sub hp h1 ht (ao hk ht) fun tk=>⟨.bl b,H,I.tok _,rfl,q⟩
theorem Ws {x:Str} {p p2:Pos} (k:Ki) (hx:bootBuiltins x=some (.type k.nm)) (hg:Gl X "isinstance") (hm:X.mg "isinstance"=none) (hg2:Gl X x) (hm2:X.mg x=none) (ha:ME X EX e m) (hn2:x≠"__name__":=by decide) (hd2:(x == ("__debug__":Str))=false:=by decide)
  (hs:starEach [e,.Name x p2] X.env=(false,eval e X.env)::starEach [.Name x p2] X.env:=by rfl) (hs2:starEach [.Name x p2] X.env=[(false,eval (.Name x p2) X.env)]:=by rfl):ME X EX (.Call (.Name "isinstance" p) [e,.Name x p2] [] pos) (cv k m):=by
 obtain ⟨t,pt,st⟩:=ha
 refine ⟨_,Vu (Ci k) hg hm PyProof.Rows.boot_isinstance (Qh pt (Qh (Bp (v:=.ty k.nm) hg2 hm2 hx rfl hn2 hd2) Kj hs2) hs) (by decide) (by decide) hs (by rw [hs2];rfl),fun Z α F H σ ρ μ Q R g=>?_⟩
 refine st Z α F H σ ρ μ _ R (GE.step (G:=GE X.K EX Z α F Q) g (fun _ _ h=>h) (fun h=>h) fun d μ1 v α1 F1 H1 R1 e1 p1 g1=>?_)
 cases hk:isI k (j4 μ1 d) with
 | none=>rw [hk] at g1;exact g1.elim
 | some b =>
  rw [hk] at g1
  exact ⟨F1,α1,j4 μ1 d,v,b,R1.sub,rfl,R1.pk p1,hk,g1 _ α1 F1 H1 R1 e1 (Uv _)⟩
end
end M
set_option Elab.async false
set_option linter.all false
set_option maxRecDepth 100000
set_option maxHeartbeats 4000000
namespace M
open PySem PySem.Spec PyProof.Rows L2
noncomputable def NoX:EXT:=⟨fun _ _ _=>False,fun _ _ _ _ _ _ h=>h⟩
noncomputable abbrev Fn:=List D→Mu→Res D
noncomputable def noX {α:Type}:Res α→Res α
 | .exc _ _=>.bad
 | r=>r
noncomputable def spM (K:PySem.W.Frag) (n:Nat) (φ:Fn):Sp:=fun vs H Q _=>∃ Z α F ds μ,RH K Z α F H μ∧Reps K F α ds vs∧ds.length=n∧GE K NoX Z α F Q (φ ds μ)
noncomputable def mCall (φ:Fn) (ms:MAs):MX:=fun ρ μ=>(ms ρ μ).bind fun ds μ1=>noX (φ ds μ1)
section
variable {X:Cx} {EX:EXT} {e a b c:Expr} {pos:Pos} {m ma mb mc:MX} {es rest:List Expr} {ms:MAs}
theorem GE.noX {K:PySem.W.Frag} {Z:ZS} {α:List Addr} {F:Hp} {Q:VK} {r:Res D} (h:GE K EX Z α F Q (M.noX r)):GE K NoX Z α F Q r:=by
 cases r with
 | ok d μ=>exact h
 | exc x μ=>exact h.elim
 | bad=>exact h
theorem ay {x:Str} {p:Pos} {k:Nat} {f:Addr} {fd:FuncData} {ps:List Str} {φ:Fn} (F:FnOk X.prog X.w X.K X.mg X.base CX0 k f fd ps (spM X.K ps.length φ)) (hr:Room k X.A) (hg:Gl X x) (hm:X.mg x=some (.ref f)) (hk:PySem.W.keepIn X.K (.ref f)=true) (hb:Xs X.K fd ps [])
  (ha:MA X EX (e::es) ms) (hl:(e::es).length=ps.length) (hdb:(x == ("__debug__":Str))=false:=by decide) (he:starEach (e::es) X.env=(false,eval e X.env)::starEach es X.env:=by rfl) (hpl:(backTo pos (starEach es X.env)).any (·.1)=false:=by rfl) :
  ME X EX (.Call (.Name x p) (e::es) [] pos) (mCall φ ms):=by
 obtain ⟨t,pt,st,lt⟩:=ha
 refine ⟨_,Bq F hr hg hm hk hb .nil Af pt hdb he hpl,fun Z α G H σ ρ μ Q R g=>?_⟩
 refine st Z α G H σ ρ μ _ R (GA.stepE (G:=GE X.K EX Z α G Q) g (fun _ _ h=>h) (fun h=>h) fun ds μ1 vs α1 F1 H1 hm1 R1 e1 p1 g1=>?_)
 rw [List.append_nil]
 exact ⟨Z,α1,F1,ds,μ1,R1,p1,(lt _ _ _ _ hm1).trans hl,GE.noX (GE.ext e1 g1)⟩
theorem cx {x:Str} {p:Pos} {k:Nat} {f:Addr} {fd:FuncData} {φ:Fn} (F:FnOk X.prog X.w X.K X.mg X.base CX0 k f fd [] (spM X.K 0 φ)) (hr:Room k X.A) (hg:Gl X x) (hm:X.mg x=some (.ref f)) (hk:PySem.W.keepIn X.K (.ref f)=true) (hb:Xs X.K fd [] [])
  (hdb:(x == ("__debug__":Str))=false:=by decide):ME X EX (.Call (.Name x p) [] [] pos) (mCall φ mNil):=by
 refine ⟨_,Dn F hr hg hm hk hb .nil Af hdb,fun Z α G H σ ρ μ Q R g=>?_⟩
 exact ⟨Z,α,G,[],μ,R.hp,j6,rfl,GE.noX g⟩
variable {st:Stmt} {sts:List Stmt} {n n1 n2:MSt} {t:MB}
noncomputable def jv:MSt:=fun ρ μ=>.ok (.nx ρ) μ
noncomputable def jx (n1 n2:MSt):MSt:=fun ρ μ=>(n1 ρ μ).bind fun o μ1=>match o with
 | .nx ρ1=>n2 ρ1 μ1
 | o=>.ok o μ1
noncomputable def ju (m:MX):MSt:=fun ρ μ=>(m ρ μ).bind fun d μ1=>.ok (.rt d) μ1
noncomputable def Ux (m:MX):MSt:=fun ρ μ=>(m ρ μ).bind fun _ μ1=>.ok (.nx ρ) μ1
noncomputable def J2 (i:Nat) (m:MX):MSt:=fun ρ μ=>(m ρ μ).bind fun d μ1=>.ok (.nx (ρ.set i (some d))) μ1
noncomputable def jk (t:MB) (n1 n2:MSt):MSt:=fun ρ μ=>(t ρ μ).bind fun k μ1=>match k with
 | true=>n1 ρ μ1
 | false=>n2 ρ μ1
theorem j8:MSs X EX [] jv:=⟨_,B6,fun Z α F H σ ρ μ N R g=>g σ α F H R (Ext.refl _ _)⟩
theorem j3 (h:MS X EX st n):MSs X EX [st] n:=let ⟨t,p,s⟩:=h;⟨t,B5 p,s⟩
theorem j1 (h1:MS X EX st n1) (h2:MSs X EX sts n2):MSs X EX (st::sts) (jx n1 n2):=by
 obtain ⟨t,p,s⟩:=h1
 obtain ⟨u,q,r⟩:=h2
 refine ⟨_,D8 p q,fun Z α F H σ ρ μ N R g=>?_⟩
 refine s Z α F H σ ρ μ _ R ?_
 unfold jx at g
 cases e:n1 ρ μ with
 | ok o μ1 =>
  rw [e] at g
  cases o with
  | nx ρ1=>exact fun σ' α' F' H' R' e'=>r Z α' F' H' σ' ρ1 μ1 N R' (GS.ext e' g)
  | rt d=>exact g
  | bk ρ1=>exact g
  | ct ρ1=>exact g
 | exc x μ1=>rw [e] at g;exact g
 | bad=>rw [e] at g;exact g
theorem j5 (h:ME X EX e m):MS X EX (.Return (some e) pos) (ju m):=by
 obtain ⟨t,p,s⟩:=h
 refine ⟨_,a40 p,fun Z α F H σ ρ μ N R g=>?_⟩
 exact s Z α F H σ ρ μ _ R (GE.step (G:=GS X.K EX Z α F N) g (fun _ _ h=>h) (fun h=>h) fun d μ1 v α1 F1 H1 R1 e1 p1 g1=>g1 v α1 F1 H1 R1 e1 p1)
theorem yv (h:ME X EX e m) (hs:swapsWith e none pos.line X.env=pure false:=by rfl):MS X EX (.Expr e pos) (Ux m):=by
 obtain ⟨t,p,s⟩:=h
 refine ⟨_,B7 p hs,fun Z α F H σ ρ μ N R g=>?_⟩
 exact s Z α F H σ ρ μ _ R (GE.step (G:=GS X.K EX Z α F N) g (fun _ _ h=>h) (fun h=>h) fun d μ1 v α1 F1 H1 R1 e1 p1 g1=>g1 σ α1 F1 H1 (R.to R1 e1) e1)
theorem RS.set {K:PySem.W.Frag} {Z:ZS} {F H:Hp} {α:List Addr} {σ:L2.St} {ρ:En} {μ:Mu} {d:D} {v:V} (i:Nat) (R:RS K Z α F H σ ρ μ) (p:Rep K F α d v):RS K Z α F H (σ.set i (some v)) (ρ.set i (some d)) μ:=by
 refine ⟨R.hp,by simpa using R.len,fun j e h=>?_⟩
 by_cases hj:j=i
 ·subst hj
  have hl:j < ρ.length:=by
   have:=(List.getElem?_eq_some_iff.mp h).1
   simpa using this
  rw [List.getElem?_set_self hl] at h
  cases h
  exact ⟨v,List.getElem?_set_self (by rw [← R.len];exact hl),p⟩
 ·rw [List.getElem?_set_ne (Ne.symm hj)] at h
  obtain ⟨u,h1,h2⟩:=R.sl j e h
  exact ⟨u,by rw [List.getElem?_set_ne (Ne.symm hj)];exact h1,h2⟩
theorem a72 {i:Nat} {x:Str} {pos':Pos} (hN:X.N.Nodup) (hi:X.N[i]? =some x) (hx:Loc X.env.scope x) (hf:X.fn x=true∨X.env.scope.names.lookup x=some .local) (h:ME X EX e m) (hs:swapsWith e (some (.Name x pos')) pos.line X.env=pure false:=by rfl) :
  MS X EX (.Assign [.Name x pos'] e pos) (J2 i m):=by
 obtain ⟨t,p,s⟩:=h
 refine ⟨_,a39 hN hi hx p hs hf,fun Z α F H σ ρ μ N R g=>?_⟩
 exact s Z α F H σ ρ μ _ R (GE.step (G:=GS X.K EX Z α F N) g (fun _ _ h=>h) (fun h=>h) fun d μ1 v α1 F1 H1 R1 e1 p1 g1=>g1 _ α1 F1 H1 ((R.to R1 e1).set i p1) e1)
theorem jn {sa sb:List Stmt} (hc:MT X EX c t) (ha:MSs X EX sa n1) (hb:MSs X EX sb n2):MS X EX (.If c sa sb pos) (jk t n1 n2):=by
 obtain ⟨tc,pc,sc⟩:=hc
 obtain ⟨ta,pa,ga⟩:=ha
 obtain ⟨tb,pb,gb⟩:=hb
 refine ⟨_,ae5 pc pa pb,fun Z α F H σ ρ μ N R g=>?_⟩
 refine sc Z α F H σ ρ μ _ R (GB.step (G:=GS X.K EX Z α F N) g (fun _ _ h=>h) (fun h=>h) fun k μ1 α1 F1 H1 R1 e1 g1=>?_)
 cases k with
 | true=>exact ga Z α1 F1 H1 σ ρ μ1 N (R.to R1 e1) (GS.ext e1 g1)
 | false=>exact gb Z α1 F1 H1 σ ρ μ1 N (R.to R1 e1) (GS.ext e1 g1)
noncomputable abbrev MG:=D→En→Option En
noncomputable def MTg (X:Cx) (tg:Expr) (mg:MG):Prop:=∃ g:TG,PG X tg g∧∀ Z α F H σ ρ μ v d ρ' Q,RS X.K Z α F H σ ρ μ→Rep X.K F α d v→mg d ρ=some ρ'→(∀ σ',RS X.K Z α F H σ' ρ' μ→Q σ' H)→g v σ H Q
noncomputable def gN (i:Nat):MG:=fun d ρ=>some (ρ.set i (some d))
theorem Gk {i:Nat} {x:Str} (hN:X.N.Nodup) (hi:X.N[i]? =some x) (hx:Loc X.env.scope x) (hf:X.fn x=true∨X.env.scope.names.lookup x=some .local):MTg X (.Name x pos) (gN i) :=
 ⟨_,Bv hN hi hx hf,fun Z α F H σ ρ μ v d ρ' Q R p h k=>by cases h;exact k _ (R.set i p)⟩
noncomputable def Jq (tg:MG) (n:MSt):List D→En→Mu→Res Out
 | [],ρ,μ=>.ok (.nx ρ) μ
 | d::ds,ρ,μ=>match tg d ρ with
  | none=>.bad
  | some ρ1=>(n ρ1 μ).bind fun o μ1=>match o with
   | .nx ρ2=>Jq tg n ds ρ2 μ1
   | .ct ρ2=>Jq tg n ds ρ2 μ1
   | .bk ρ2=>.ok (.nx ρ2) μ1
   | .rt d=>.ok (.rt d) μ1
noncomputable abbrev MIt:=En→Mu→Res (List D)
noncomputable def Q2 (tg:MG) (it:MIt) (n:MSt):MSt:=fun ρ μ=>(it ρ μ).bind fun ds μ1=>Jq tg n ds ρ μ1
noncomputable def uf (K:PySem.W.Frag) (α:List Addr) (F:Hp) (J:It) (ds:List D):Prop :=
 ∀ (Z:ZS) α' F' H' (μ':Mu),RH K Z α' F' H' μ'→Ext α F α' F'→∀ i,(i < ds.length→J.go i H'∧∀ x H2,J.yld i H' x H2→∃ d F2,ds[i]? =some d∧RH K Z α' F2 H2 μ'∧jr F' F2∧Rep K F2 α' d x)∧(ds.length=i→J.stop i H')
noncomputable def MI (X:Cx) (EX:EXT) (tg e:Expr) (m:MIt):Prop:=∃ wi:TI,PI X tg e wi∧∀ Z α F H σ ρ μ Rr,RS X.K Z α F H σ ρ μ →
 (match m ρ μ with
  | .ok ds μ'=>∀ J α' F' H',RH X.K Z α' F' H' μ'→Ext α F α' F'→uf X.K α' F' J ds→Rr J H'
  | .exc x μ'=>EX.P Z x μ'
  | .bad=>False)→wi σ H Rr
theorem Y6 {tg it:Expr} {body:List Stmt} {mi:MIt} {g:MG} (hp:PassesOwn (model X.prog X.w) X.A X.env X.xe) (hc:X.calm=true) (hi:MI X EX tg it mi) (hg:MTg X tg g) (hb:MSs X EX body n)
  (hs:∀ x,foldedSetIterable it X.env x=pure x:=by intro _;rfl):MS X EX (.For tg it body [] pos) (Q2 g mi n):=by
 obtain ⟨wi,pi,si⟩:=hi
 obtain ⟨tgt,pg,sg⟩:=hg
 obtain ⟨tb,pb,sb⟩:=hb
 refine ⟨_,a41 hp hc pi pg pb hs,fun Z α F H σ ρ μ N R gd=>?_⟩
 refine si Z α F H σ ρ μ _ R ?_
 unfold Q2 at gd
 cases hm:mi ρ μ with
 | exc x μ1=>rw [hm] at gd;exact gd
 | bad=>rw [hm] at gd;exact gd
 | ok ds μ1 =>
  rw [hm] at gd
  intro J α1 F1 H1 R1 e1 wk
  let W:Nat→Nat→L2.St→Hp→Prop:=fun i k σ' H'=>k=ds.length - i∧i≤ds.length∧∃ α' F' ρ' μ',RS X.K Z α' F' H' σ' ρ' μ'∧Ext α1 F1 α' F'∧GS X.K EX Z α' F' N (Jq g n (ds.drop i) ρ' μ')
  refine ⟨W,⟨ds.length,rfl,Nat.zero_le _,α1,F1,ρ,μ1,R.to R1 e1,Ext.refl _ _,GS.ext e1 gd⟩,?_⟩
  rintro i k σ2 H2 ⟨rfl,hi2,α2,F2,ρ2,μ2,R2,e2,g2⟩
  obtain ⟨w1,w2⟩:=wk Z α2 F2 H2 μ2 R2.hp e2 i
  by_cases hlt:i < ds.length
  ·obtain ⟨w3,w4⟩:=w1 hlt
   refine .inr ⟨w3,fun σ' H'=>W (i + 1) (ds.length - (i + 1)) σ' H',fun σ' H' h=>⟨_,by omega,h⟩,fun x H3 y=>?_⟩
   obtain ⟨d,F3,hd,R3,s3,p3⟩:=w4 x H3 y
   have e3:Ext α2 F2 α2 F3:=⟨s3,fun _ _ h=>h⟩
   rw [List.drop_eq_getElem_cons hlt] at g2
   have hd':ds[i]=d:=by
    rw [List.getElem?_eq_getElem hlt] at hd
    exact Option.some.inj hd
   rw [hd'] at g2
   have R3':RS X.K Z α2 F3 H3 σ2 ρ2 μ2:=R2.to R3 e3
   simp only [Jq] at g2
   cases ht:g d ρ2 with
   | none=>rw [ht] at g2;exact g2.elim
   | some ρ4 =>
    rw [ht] at g2
    simp only at g2
    refine sg Z α2 F3 H3 σ2 ρ2 μ2 x d ρ4 _ R3' p3 ht fun σ4 R4=>?_
    refine sb Z α2 F3 H3 σ4 ρ4 μ2 _ R4 ?_
    cases hn:n ρ4 μ2 with
    | exc x μ1=>rw [hn] at g2;exact g2
    | bad=>rw [hn] at g2;exact g2
    | ok o μ5 =>
     rw [hn] at g2
     cases o with
     | nx ρ5=>exact fun σ' α' F' H' R' e'=>⟨rfl,hlt,α',F',ρ5,μ5,R',e2.trans (e3.trans e'),GS.ext (e3.trans e') g2⟩
     | ct ρ5=>exact fun σ' α' F' H' R' e'=>⟨rfl,hlt,α',F',ρ5,μ5,R',e2.trans (e3.trans e'),GS.ext (e3.trans e') g2⟩
     | bk ρ5=>exact fun σ' α' F' H' R' e'=>g2 σ' α' F' H' R' (e3.trans e')
     | rt d=>exact fun v α' F' H' R' e' q=>g2 v α' F' H' R' (e3.trans e') q
  ·refine .inl ⟨w2 (by omega),?_⟩
   rw [List.drop_eq_nil_of_le (by omega)] at g2
   exact g2 σ2 α2 F2 H2 R2 (Ext.refl _ _)
noncomputable def qe (n:Nat):List D:=(List.range n).map fun k=>.int (k:Nat)
noncomputable def ql (ds:List D):Option (List D):=match ds with
 | [.int j]=>if -(2 ^ 62)≤j∧j < 2 ^ 62 then some (qe j.toNat) else none
 | _=>none
noncomputable def uu (m:MX):MIt:=fun ρ μ=>(m ρ μ).bind fun d μ1=>ofO μ1 (ql [d])
theorem K5 {K:PySem.W.Frag} {F:Hp} {α:List Addr} (n:Nat):uf K α F (Itr 0 n) (qe n):=by
 intro Z α' F' H' μ' R e i
 have hl:(qe n).length=n:=by simp [qe]
 refine ⟨fun h=>⟨by rw [hl] at h;exact h,fun x H2 y=>?_⟩,fun h=>by rw [hl] at h;exact Nat.le_of_eq h⟩
 obtain ⟨rfl,rfl⟩:=y
 rw [hl] at h
 refine ⟨.int (i:Nat),F',by simp [qe,h],R,jr.refl _,?_⟩
 rw [Int.zero_add]
 exact uv _
theorem ym {tg:Expr} {p:Pos} (hg:Gl X "range") (hm:X.mg "range"=none) (ha:ME X EX a m) (hs:starEach [a] X.env=[(false,eval a X.env)]:=by rfl):MI X EX tg (.Call (.Name "range" p) [a] [] pos) (uu m):=by
 obtain ⟨t,pt,st⟩:=ha
 refine ⟨_,Fk hg hm (Qh pt Kj hs) hs,fun Z α F H σ ρ μ Rr R g=>?_⟩
 unfold uu at g
 refine st Z α F H σ ρ μ _ R ?_
 cases h1:m ρ μ with
 | exc x μ1=>rw [h1] at g;exact g
 | bad=>rw [h1] at g;exact g
 | ok d μ1 =>
  rw [h1] at g
  intro v α' F' H' R' e' p
  cases d with
  | int j =>
   unfold Rep at p
   subst p
   simp only [bind_ok,ql] at g
   by_cases hj:-(2 ^ 62)≤j∧j < 2 ^ 62
   ·rw [if_pos hj] at g
    exact ⟨j,rfl,hj.1,hj.2,g _ α' F' H' R' e' (K5 _)⟩
   ·rw [if_neg hj] at g;exact g.elim
  | _=>exact g.elim
noncomputable def Xt (d:D):Option (List D):=match d with
 | .lst xs=>some xs
 | _=>none
noncomputable def je (m:MX):MIt:=fun ρ μ=>(m ρ μ).bind fun d μ1=>ofO μ1 (Xt d)
theorem F9 {K:PySem.W.Frag} {F:Hp} {α:List Addr} {a:Addr} {ds:List D} {vs:List V} (hs:SqL K F a vs) (hr:Reps K F α ds vs):uf K α F (Itl K a) ds:=by
 intro Z α' F' H' μ' R e i
 have hl:=hr.length
 have hq:SqL K H' a vs:=(e.fr.trans R.sub).seq hs
 refine ⟨fun h=>?_,fun h=>⟨vs,hq,by omega⟩⟩
 obtain ⟨v,h1,h2⟩:=hr.get (List.getElem?_eq_getElem h)
 refine ⟨⟨vs,v,hq,h1⟩,fun x H2 y=>?_⟩
 obtain ⟨rfl,y⟩:=y
 have hx:=y vs hq
 rw [h1] at hx
 cases hx
 exact ⟨_,F',List.getElem?_eq_getElem h,R,jr.refl _,h2.mono e⟩
theorem Uy {tg:Expr} (ha:ME X EX a m):MI X EX tg a (je m):=by
 obtain ⟨t,pt,st⟩:=ha
 refine ⟨_,Bx pt,fun Z α F H σ ρ μ Rr R g=>?_⟩
 unfold je at g
 refine st Z α F H σ ρ μ _ R ?_
 cases h1:m ρ μ with
 | exc x μ1=>rw [h1] at g;exact g
 | bad=>rw [h1] at g;exact g
 | ok d μ1 =>
  rw [h1] at g
  intro v α' F' H' R' e' p
  cases d with
  | lst ds =>
   unfold Rep at p
   obtain ⟨b,vs,rfl,hs,hr⟩:=p
   exact ⟨b,rfl,⟨vs,R'.sub.seq hs⟩,g _ α' F' H' R' e' (F9 hs hr)⟩
  | _=>exact g.elim
end
noncomputable def fin (r:Res Out):Res D:=r.bind fun o μ1=>match o with
 | .rt d=>.ok d μ1
 | .nx _=>.ok .non μ1
 | _=>.bad
noncomputable def fnOf (k:Nat) (n:MSt):Fn:=fun ds μ=>fin (n (ds.map some++List.replicate k none) μ)
section
variable {P:Program} {w:World} {K:PySem.W.Frag} {mg:Str→Option Value} {base:Heap}
theorem dc {Z:ZS} {F H:Hp} {α:List Addr} {μ:Mu} {ds:List D} {vs:List V} (N:List Str) (k:Nat) (hk:N.length - vs.length=k) (R:RH K Z α F H μ) (r:Reps K F α ds vs):RS K Z α F H (start N vs) (ds.map some++List.replicate k none) μ:=by
 have hl:=r.length
 refine ⟨R,by simp [L2.start,hl,hk],fun i d h=>?_⟩
 by_cases hi:i < ds.length
 ·rw [List.getElem?_append_left (by simpa using hi),List.getElem?_map] at h
  cases e:ds[i]? with
  | none=>rw [e] at h;cases h
  | some d' =>
   rw [e] at h
   cases h
   obtain ⟨v,h1,h2⟩:=r.get e
   refine ⟨v,?_,h2⟩
   unfold L2.start
   rw [List.getElem?_append_left (by rw [List.length_map];omega),List.getElem?_map,h1]
   rfl
 ·rw [List.getElem?_append_right (by simp;omega)] at h
  have:=List.getElem?_replicate (a:=(none:Option D)) (n:=k) (i:=i - (ds.map some).length)
  rw [this] at h
  split at h <;> cases h
theorem ai5 {x qual:Str} {st:Stmt} {f:Addr} {fd:FuncData} {N ps:List Str} {k j:Nat} {n:MSt} (F:Fun K x qual st f fd) (S:FnScope N ps (defScope st)) (hj:N.length - ps.length=j)
  (hb:∀ (cdv:Value) (A:Around) (outer:List Env) (s:Shared) (H:Hp) (E:XK),Room k (A.deeper (envOfC qual (defScope st) s.heap.objs.size f cdv)) →
   MSs (X9 CX0 P w K mg base N qual (defScope st) f cdv A outer s H E).nox NoX (defBody st) n):FnOk P w K mg base CX0 (k + 1) f fd ps (spM K ps.length (fnOf j n)):=by
 refine F.ok S (fun vs H Q E h=>?_) (fun cdv A outer s H vs Q E hr h=>?_)
 ·obtain ⟨Z,α,G,ds,μ,R,r,hl,_⟩:=h
  rw [← hl,r.length]
 ·obtain ⟨Z,α,G,ds,μ,R,r,hl,g⟩:=h
  obtain ⟨t,p,s'⟩:=hb cdv A outer s H E hr
  refine ⟨t,p,s' Z α G H (start N vs) (ds.map some++List.replicate j none) μ _ (dc N j (by rw [← r.length,hl];exact hj) R r) ?_⟩
  unfold fnOf fin at g
  cases e:n (ds.map some++List.replicate j none) μ with
  | exc x μ1=>rw [e] at g;exact g
  | bad=>rw [e] at g;exact g
  | ok o μ1 =>
   rw [e] at g
   cases o with
   | rt d=>exact g
   | nx ρ=>exact fun σ' α' F' H' R' e'=>g .non α' F' H' R'.hp e' Gx
   | bk ρ=>exact g.elim
   | ct ρ=>exact g.elim
structure Ct (X:Cx) (N G:List Str):Prop where
 hN:X.N=N
 nd:N.Nodup
 loc:∀ x∈N,Loc X.env.scope x∧(x == ("__debug__":Str))=false∧(x == ("__classdict__":Str))=false
 gl:∀ x∈G,Gl X x
 fn:∀ x,X.fn x=true
 calm:X.calm=true
 un:X.A.units + 200 < cLine
theorem Ct.ndX {X:Cx} {N G:List Str} (C:Ct X N G):X.N.Nodup:=by rw [C.hN];exact C.nd
theorem Ct.at {X:Cx} {N G:List Str} (C:Ct X N G) {i:Nat} {x:Str} (h:N[i]? =some x):X.N[i]? =some x:=by rw [C.hN];exact h
theorem mem_at {N:List Str} {i:Nat} {x:Str} (h:N[i]? =some x):x∈N:=List.mem_of_getElem? h
theorem Loc.vis {sc:Scope} {x:Str} (h:Loc sc x):Vis sc x:=h.elim .inl fun z=>.inr (.inl z)
theorem sv {X:Cx} {EX:EXT} {N G:List Str} (C:Ct X N G) (i:Nat) {x:Str} {pos:Pos} (h:N[i]? =some x):ME X EX (.Name x pos) (mVar i) :=
 c6 (C.at h) (Loc.vis (C.loc x (mem_at h)).1) (C.loc x (mem_at h)).2.1 (C.loc x (mem_at h)).2.2
theorem sa {X:Cx} {EX:EXT} {N G:List Str} (C:Ct X N G) (i:Nat) {x:Str} {pos pos':Pos} {e:Expr} {m:MX} (h:N[i]? =some x) (he:ME X EX e m) (hs:swapsWith e (some (.Name x pos')) pos.line X.env=pure false:=by rfl) :
  MS X EX (.Assign [.Name x pos'] e pos) (J2 i m):=a72 (C.ndX) (C.at h) (C.loc x (mem_at h)).1 (.inl (C.fn x)) he hs
theorem st {X:Cx} {N G:List Str} (C:Ct X N G) (i:Nat) {x:Str} {pos:Pos} (h:N[i]? =some x):MTg X (.Name x pos) (gN i):=Gk (C.ndX) (C.at h) (C.loc x (mem_at h)).1 (.inl (C.fn x))
theorem Ct.g {X:Cx} {N G:List Str} (C:Ct X N G) (j:Nat) {x:Str} (h:G[j]? =some x):Gl X x:=C.gl x (mem_at h)
theorem a09 {CX:CXT} {N G:List Str} {qual:Str} {sc:Scope} {f:Addr} {cdv:Value} {A:Around} {outer:List Env} {s:Shared} {H:Hp} {E:XK} {k:Nat} (nd:N.Nodup)
  (loc:∀ x∈N,Loc sc x∧(x == ("__debug__":Str))=false∧(x == ("__classdict__":Str))=false) (gl:∀ x∈G,sc.names.lookup x=some .globalImplicit) (hr:Room k (A.deeper (envOfC qual sc s.heap.objs.size f cdv))) :
  Ct (X9 CX P w K mg base N qual sc f cdv A outer s H E).nox N G :=
 ⟨rfl,nd,loc,gl,fun _=>rfl,rfl,by have:=hr.un;show (A.deeper _).units + 200 < cLine;omega⟩
end
end M
set_option Elab.async false
set_option linter.all false
set_option maxRecDepth 100000
set_option maxHeartbeats 4000000
namespace M
open PySem PySem.Spec PyProof.Rows L2
noncomputable def Yl (m:MX):MX:=fun ρ μ=>(m ρ μ).bind fun d μ1=>ofO μ1 (match d with
 | .int i=>some (.int (-i))
 | _=>none)
theorem Ua {X:Cx} {EX:EXT} {e:Expr} {pos:Pos} {m:MX} (h:ME X EX e m):ME X EX (.UnaryOp .USub e pos) (Yl m):=by
 obtain ⟨t,p,s⟩:=h
 refine ⟨_,ae8 a22 p,fun Z α F H σ ρ μ Q R g=>?_⟩
 refine s Z α F H σ ρ μ _ R (GE.step (G:=GE X.K EX Z α F Q) g (fun _ _ h=>h) (fun h=>h) fun d μ1 v α1 F1 H1 R1 e1 p1 g1=>?_)
 cases d with
 | int i=>unfold Rep at p1;exact ⟨i,p1,g1 _ α1 F1 H1 R1 e1 (uv _)⟩
 | _=>exact g1.elim
theorem boot_bool:bootBuiltins "bool"=some (.type "bool"):=by decide +kernel
theorem boot_str:bootBuiltins "str"=some (.type "str"):=by decide +kernel
theorem boot_list:bootBuiltins "list"=some (.type "list"):=by decide +kernel
theorem boot_tuple:bootBuiltins "tuple"=some (.type "tuple"):=by decide +kernel
noncomputable def Jj (K:PySem.W.Frag) (mg:Str→Option Value) (x:Str) (d:D):Prop:=∃ v u,mg x=some u∧jl v u∧∀ F α,Rep K F α d v
theorem ja {X:Cx} {EX:EXT} {x:Str} {d:D} {pos:Pos} (c:Jj X.K X.mg x d) (hg:Gl X x) (hd:(x == ("__debug__":Str))=false:=by decide):ME X EX (.Name x pos) (mC d):=by
 obtain ⟨v,u,h1,h2,h3⟩:=c
 exact cw (Bu hg h1 h2 hd) h3
noncomputable def Qx (fd:FuncData) (ps:List Str):Prop:=∀ us:List Value,us.length=ps.length→bindArgs fd ⟨us,[]⟩=pure (ps.zip us)
noncomputable def J3 (K:PySem.W.Frag) (mg:Str→Option Value) (x:Str) (st:Stmt) (ps:List Str):Prop:=∃ f fd,mg x=some (.ref f)∧Fun K x x st f fd∧Qx fd ps
noncomputable def ul (P:Program) (w:World) (K:PySem.W.Frag) (mg:Str→Option Value) (base:Heap) (x:Str) (k n:Nat) (φ:Fn):Prop :=
 ∃ f fd ps,mg x=some (.ref f)∧PySem.W.keepIn K (.ref f)=true∧Qx fd ps∧ps.length=n∧FnOk P w K mg base CX0 k f fd ps (spM K n φ)
theorem fo {P:Program} {w:World} {K:PySem.W.Frag} {mg:Str→Option Value} {base:Heap} {x:Str} {st:Stmt} {N ps:List Str} {k j n:Nat} {b:MSt} {f:Addr} {fd:FuncData} (F:Fun K x x st f fd) (S:FnScope N ps (defScope st)) (hj:N.length - ps.length=j) (hn:ps.length=n)
  (hb:∀ (cdv:Value) (A:Around) (outer:List Env) (s:Shared) (H:Hp) (E:XK),Room k (A.deeper (envOfC x (defScope st) s.heap.objs.size f cdv)) →
   MSs (X9 CX0 P w K mg base N x (defScope st) f cdv A outer s H E).nox NoX (defBody st) b):FnOk P w K mg base CX0 (k + 1) f fd ps (spM K n (fnOf j b)):=by
 subst hn
 exact ai5 F S hj hb
theorem ad {P:Program} {w:World} {K:PySem.W.Frag} {mg:Str→Option Value} {base:Heap} {x:Str} {st:Stmt} {ps:List Str} {k n:Nat} {φ:Fn} (D:J3 K mg x st ps) (hn:ps.length=n)
  (hb:∀ (f:Addr) (fd:FuncData),Fun K x x st f fd→FnOk P w K mg base CX0 k f fd ps (spM K n φ)):ul P w K mg base x k n φ:=by
 obtain ⟨f,fd,h1,h2,h3⟩:=D
 exact ⟨f,fd,ps,h1,h2.kp,h3,hn,hb f fd h2⟩
theorem aa3 {K:PySem.W.Frag} {mg:Str→Option Value} {h:Heap} {x:Str} {st:Stmt} {ps:List Str} {f:Addr} {oc:Value} {od an:Option Addr} {osl:Array (Option Value)} {kV doc pm cdv ct:Value} (X:K.In h) (G:h.Ns mainGlobals mg)
  (a:PySem.W.nsIn K mainGlobals x=some (some (.ref f))) (l:K.lookup f=some ⟨oc,od,.func (PySem.W.fnOf x x (defArgs st) (defBody st) (defScope st) .none kV doc pm an cdv ct),osl⟩)
  (c:PySem.W.codeIn K cdv x=true) (k:PySem.W.keepIn K (.ref f)=true) (hb:Qx (PySem.W.fnOf x x (defArgs st) (defBody st) (defScope st) .none kV doc pm an cdv ct) ps):J3 K mg x st ps :=
 ⟨f,_,PySem.W.mg_of X G a,a96 (st:=st) l c k,hb⟩
theorem yf {K:PySem.W.Frag} {mg:Str→Option Value} {h:Heap} {x:Str} {i:Int} {t:Tok} (X:K.In h) (G:h.Ns mainGlobals mg) (a:PySem.W.nsIn K mainGlobals x=some (some (.int i t))):Jj K mg x (.int i) :=
 ⟨.int i,_,PySem.W.mg_of X G a,⟨t,rfl⟩,fun _ _=>uv i⟩
theorem uc {K:PySem.W.Frag} {mg:Str→Option Value} {h:Heap} {x:Str} {p:Addr} {od:Option Addr} {its:Array Value} {n:Nat} {sl:Array (Option Value)} {ds:List D} {vs:List V} (X:K.In h) (G:h.Ns mainGlobals mg)
  (a:PySem.W.nsIn K mainGlobals x=some (some (.ref p))) (l:K.lookup p=some ⟨.type "tuple",od,.seq its n,sl⟩) (hz:its.size≤16777216) (hv:jq vs its.toList) (hr:∀ F α,Reps K F α ds vs):Jj K mg x (.tup ds) :=
 ⟨.ref p,_,PySem.W.mg_of X G a,rfl,fun F α=>by unfold Rep;exact ⟨p,vs,rfl,.inr ⟨_,its,n,l,rfl,rfl,by rw [sizeLine_eq];exact hz,hv⟩,hr F α⟩⟩
theorem zl {K:PySem.W.Frag} {F:Hp} {α:List Addr}:∀ ns:List Int,Reps K F α (ns.map D.int) (ns.map V.int)
 | []=>j6
 | n::ns=>j2 (uv n) (zl ns)
theorem me_fn {X:Cx} {EX:EXT} {x:Str} {p pos:Pos} {k n:Nat} {φ:Fn} {e:Expr} {es:List Expr} {ms:MAs} (F:ul X.prog X.w X.K X.mg X.base x k n φ) (hr:Room k X.A) (hg:Gl X x)
  (ha:MA X EX (e::es) ms) (hl:(e::es).length=n) (hdb:(x == ("__debug__":Str))=false:=by decide) (he:starEach (e::es) X.env=(false,eval e X.env)::starEach es X.env:=by rfl) (hpl:(backTo pos (starEach es X.env)).any (·.1)=false:=by rfl) :
  ME X EX (.Call (.Name x p) (e::es) [] pos) (mCall φ ms):=by
 obtain ⟨f,fd,ps,h1,h2,h3,h4,h5⟩:=F
 subst h4
 exact ay h5 hr hg h1 h2 (.all h3) ha hl hdb he hpl
theorem a78 {X:Cx} {EX:EXT} {x:Str} {p pos:Pos} {k:Nat} {φ:Fn} (F:ul X.prog X.w X.K X.mg X.base x k 0 φ) (hr:Room k X.A) (hg:Gl X x) (hdb:(x == ("__debug__":Str))=false:=by decide):ME X EX (.Call (.Name x p) [] [] pos) (mCall φ mNil):=by
 obtain ⟨f,fd,ps,h1,h2,h3,h4,h5⟩:=F
 obtain rfl:ps=[]:=List.length_eq_zero_iff.mp h4
 exact cx h5 hr hg h1 h2 (.all h3) hdb
noncomputable def ag7 (sc:Scope) (N:List Str):Bool:=N.all fun x=>(sc.names.lookup x == some .local || sc.names.lookup x == some .cell) && !(x == ("__debug__":Str)) && !(x == ("__classdict__":Str))
noncomputable def glB (sc:Scope) (N:List Str):Bool:=N.all fun x=>sc.names.lookup x == some .globalImplicit
theorem cr {sc:Scope} {N:List Str} (h:ag7 sc N=true):∀ x∈N,Loc sc x∧(x == ("__debug__":Str))=false∧(x == ("__classdict__":Str))=false:=fun x hx=>by
 have:=List.all_eq_true.mp h x hx
 simp only [Bool.and_eq_true,Bool.or_eq_true,beq_iff_eq,Bool.not_eq_true'] at this
 exact ⟨this.1.1,this.1.2,this.2⟩
theorem a02 {sc:Scope} {N:List Str} (h:glB sc N=true):∀ x∈N,sc.names.lookup x=some .globalImplicit:=fun x hx=>by
 have:=List.all_eq_true.mp h x hx
 simpa using this
end M
set_option Elab.async false
set_option linter.all false
set_option maxRecDepth 100000
set_option maxHeartbeats 4000000
namespace M
open PySem PySem.Spec PyProof.Rows L2
section
variable (ρ:En) (μ:Mu) (m ma mb mc:MX) (ms:MAs) (t t1 t2:MB) (n n1 n2:MSt) (x y d:D) (ds:List D) (g g':G2) (gl:GL) (b:Bool) (φ:Fn) (i:Nat) (tg:MG) (it:MIt)
noncomputable def ah6 (g:G2) (x y:D) (μ:Mu):Res D:=ofO μ (g (j4 μ x) (j4 μ y))
noncomputable def ah5 (g g':G2) (mb mc:MX) (ρ:En) (x:D) (μ1:Mu):Res D:=(mb ρ μ1).bind fun y μ2=>(ofO μ2 ((g (j4 μ2 x) (j4 μ2 y)).bind asB)).bind fun k μ3=>match k with
 | true=>(mc ρ μ3).bind fun z μ4=>ofO μ4 (g' (j4 μ4 y) (j4 μ4 z))
 | false=>.ok (.bl false) μ3
noncomputable def ah4 (g g':G2) (mc:MX) (ρ:En) (x y:D) (μ2:Mu):Res D:=(ofO μ2 ((g (j4 μ2 x) (j4 μ2 y)).bind asB)).bind fun k μ3=>match k with
 | true=>(mc ρ μ3).bind fun z μ4=>ofO μ4 (g' (j4 μ4 y) (j4 μ4 z))
 | false=>.ok (.bl false) μ3
noncomputable def ah3 (g':G2) (mc:MX) (ρ:En) (y:D) (k:Bool) (μ3:Mu):Res D:=match k with
 | true=>(mc ρ μ3).bind fun z μ4=>ofO μ4 (g' (j4 μ4 y) (j4 μ4 z))
 | false=>.ok (.bl false) μ3
theorem aa0:y0 g g' ma mb mc ρ μ=(ma ρ μ).bind (ah5 g g' mb mc ρ):=rfl
theorem a07:ah5 g g' mb mc ρ x μ=(mb ρ μ).bind (ah4 g g' mc ρ x):=rfl
theorem a06:ah4 g g' mc ρ x y μ=(ofO μ ((g (j4 μ x) (j4 μ y)).bind asB)).bind (ah3 g' mc ρ y):=rfl
theorem Cp:ah3 g' mc ρ y true μ=(mc ρ μ).bind (ah6 g' y):=rfl
noncomputable def ca (ms:MAs) (ρ:En) (d:D) (μ1:Mu):Res (List D):=(ms ρ μ1).bind fun ds μ2=>.ok (d::ds) μ2
noncomputable def cb (d:D) (ds:List D) (μ2:Mu):Res (List D):=.ok (d::ds) μ2
theorem a99:mCons m ms ρ μ=(m ρ μ).bind (ca ms ρ):=rfl
theorem A2:ca ms ρ d μ=(ms ρ μ).bind (cb d):=rfl
theorem A1:cb d ds μ=.ok (d::ds) μ:=rfl
noncomputable def kFor (tg:MG) (n:MSt) (ρ:En) (ds:List D) (μ1:Mu):Res Out:=Jq tg n ds ρ μ1
theorem ai7:Q2 tg it n ρ μ=(it ρ μ).bind (kFor tg n ρ):=rfl
noncomputable def Ga (d:D) (μ1:Mu):Res (List D):=ofO μ1 (ql [d])
theorem Cs:uu m ρ μ=(m ρ μ).bind Ga:=rfl
theorem E1:Ga d μ=ofO μ (ql [d]):=rfl
noncomputable def a88 (d:D) (μ1:Mu):Res (List D):=ofO μ1 (Xt d)
theorem A0:je m ρ μ=(m ρ μ).bind a88:=rfl
noncomputable def ah2 (o:Out) (μ1:Mu):Res D:=match o with
 | .rt d=>.ok d μ1
 | .nx _=>.ok .non μ1
 | _=>.bad
theorem ai8 (r:Res Out):fin r=r.bind ah2:=by cases r with
 | ok o μ=>cases o <;> rfl
 | exc _ _=>rfl
 | bad=>rfl
theorem Cr (k:Nat):fnOf k n ds μ=(n (ds.map some++List.replicate k none) μ).bind ah2:=ai8 _
noncomputable def kTurn (tg:MG) (n:MSt) (ds:List D) (o:Out) (μ1:Mu):Res Out:=match o with
 | .nx ρ2=>Jq tg n ds ρ2 μ1
 | .ct ρ2=>Jq tg n ds ρ2 μ1
 | .bk ρ2=>.ok (.nx ρ2) μ1
 | .rt d=>.ok (.rt d) μ1
theorem wm (i:Nat):Jq (gN i) n (d::ds) ρ μ=(n (ρ.set i (some d)) μ).bind (kTurn (gN i) n ds):=by
 simp only [Jq,gN]
 cases n (ρ.set i (some d)) μ with
 | ok o μ=>cases o <;> rfl
 | exc _ _=>rfl
 | bad=>rfl
end
section
variable (i j:Int) (a b:List Nat) (xs ys:List D) (k l:Bool)
theorem gx (h:-18446744073709551616 < i) (h2:i < 18446744073709551616):Qm (.int i) (.int j)=some (.int (i * j)):=by
 simp only [Qm,qv];rw [if_pos (.inl ⟨h,h2⟩)];rfl
theorem C8 (h:-18446744073709551616 < j) (h2:j < 18446744073709551616):Qm (.int i) (.int j)=some (.int (i * j)):=by
 simp only [Qm,qv];rw [if_pos (.inr ⟨h,h2⟩)];rfl
theorem fw (h:0 < j) (h2:j < 18446744073709551616):Ut (.int i) (.int j)=some (.int (i / j)):=by
 simp only [Ut,qv];rw [if_pos ⟨h,h2⟩];rfl
theorem g_mod (h:0 < j):Jf (.int i) (.int j)=some (.int (i % j)):=by
 simp only [Jf,qv];rw [if_pos h];rfl
theorem a94:gLe (.int i) (.int j)=some (.bl (decide (i≤j))):=rfl
theorem ai2:gEq (.int i) (.int j)=some (.bl (i == j)):=by
 unfold gEq;rw [if_pos (by rfl)];simp [eqD]
theorem ai1:ef [.int i,.int j]=some (.int (if j > i then j else i)):=rfl
theorem zd {β:Type} {xs:List β} {i:Int} (h0:0≤i):atI xs i=xs[i.toNat]?:=by
 unfold atI ixN
 rw [if_pos h0]
 by_cases h:i < xs.length
 ·rw [if_pos h];rfl
 ·rw [if_neg h]
  simp only [Option.bind_none]
  symm
  rw [List.getElem?_eq_none_iff]
  omega
end
end M
set_option Elab.async false
set_option linter.all false
set_option maxRecDepth 100000
set_option maxHeartbeats 4000000
namespace M
open PySem PySem.Spec PyProof.Rows L2
noncomputable def closL (env:Env):List (Str×NameKind)→List (Str×Addr)→List (Str×Addr)
 | [],acc=>acc
 | p::r,acc=>closL env r (if (p.2 == .free)=true then (p.1,(env.cells.lookup p.1).getD 0)::acc else acc)
theorem Zq {env:Env} {scope:Scope} (h:∀ p∈scope.names,p.2=.free→∃ c,env.cells.lookup p.1=some c):closureFor scope env=pure (closL env scope.names []):=by
 simp only [closureFor]
 generalize ([]:List (Str×Addr))=acc
 generalize scope.names=l at h
 induction l generalizing acc with
 | nil=>rfl
 | cons p r ih =>
  obtain ⟨n,k⟩:=p
  rw [List.forIn_cons]
  by_cases hk:(k == NameKind.free)=true
  ·obtain ⟨c,hc⟩:=h (n,k) List.mem_cons_self (by simpa using hk)
   have hc':cellOf env n=pure c:=by unfold cellOf;rw [hc]
   simp only [hk,if_true,hc',pure_bind,closL]
   rw [hc]
   exact ih _ (fun p hp=>h p (List.mem_cons_of_mem _ hp))
  ·simp only [hk,if_false,pure_bind,closL]
   exact ih _ (fun p hp=>h p (List.mem_cons_of_mem _ hp))
theorem wg {env:Env}:∀ (l:List (Str×NameKind)) (acc:List (Str×Addr)),(∀ p∈l,p.2=.free→∃ c,env.cells.lookup p.1=some c)→(∀ p∈acc,env.cells.lookup p.1=some p.2)→∀ p∈closL env l acc,env.cells.lookup p.1=some p.2
 | [],_,_,ha=>ha
 | q::r,acc,h,ha=>by
  refine wg r _ (fun p hp=>h p (List.mem_cons_of_mem _ hp)) ?_
  by_cases hk:(q.2 == NameKind.free)=true
  ·rw [if_pos hk]
   intro p hp
   rcases List.mem_cons.mp hp with rfl | hp
   ·obtain ⟨c,hc⟩:=h q List.mem_cons_self (by simpa using hk)
    simp [hc]
   ·exact ha p hp
  ·rw [if_neg hk];exact ha
theorem Y8 {β:Type} {l:List (Str×β)} {x:Str} {c:β} (h:l.lookup x=some c):(x,c)∈l:=by
 induction l with
 | nil=>cases h
 | cons p r ih =>
  obtain ⟨n,k⟩:=p
  rw [List.lookup_cons] at h
  by_cases e:x=n
  ·subst e
   simp at h
   subst h
   exact List.mem_cons_self
  ·have e':(x == n)=false:=by simpa using e
   rw [e'] at h
   exact List.mem_cons_of_mem _ (ih h)
theorem Kc {β:Type} {l:List (Str×β)} {x:Str} {c:β} (h:(x,c)∈l):∃ c',l.lookup x=some c':=by
 induction l with
 | nil=>cases h
 | cons p r ih =>
  obtain ⟨n,k⟩:=p
  rw [List.lookup_cons]
  by_cases e:x=n
  ·subst e;exact ⟨k,by simp⟩
  ·rcases List.mem_cons.mp h with h | h
   ·cases h;exact absurd rfl e
   ·obtain ⟨c',hc⟩:=ih h
    have e':(x == n)=false:=by simpa using e
    exact ⟨c',by rw [e'];exact hc⟩
theorem wf {env:Env}:∀ (l:List (Str×NameKind)) (acc:List (Str×Addr)) (p:Str×Addr),p∈acc→p∈closL env l acc
 | [],_,_,h=>h
 | q::r,acc,p,h=>by
  refine wf r _ p ?_
  split
  ·exact List.mem_cons_of_mem _ h
  ·exact h
theorem Qz {env:Env}:∀ (l:List (Str×NameKind)) (acc:List (Str×Addr)) (x:Str),(x,NameKind.free)∈l→∃ c,(closL env l acc).lookup x=some c
 | [],_,_,h=>nomatch h
 | q::r,acc,x,h=>by
  rcases List.mem_cons.mp h with rfl | h
  ·exact Kc (wf r _ (x,(env.cells.lookup x).getD 0) (by simp))
  ·exact Qz r _ x h
structure CompScope (scope:Scope) (env:Env):Prop where
 kind:scope.kind=.function
 nocell:∀ y∈scope.names,y.2≠.cell
 loc:∀ y∈scope.names,y.2=.local→scope.names.lookup y.1=some .local
 cap:∀ y∈scope.names,y.2=.free→env.kindOf y.1=some .cell∨env.kindOf y.1=some .free
noncomputable abbrev Xy (scope:Scope) (env:Env):List (Str×Addr):=closL env scope.names []
theorem W7 {scope:Scope} {env:Env} {x:Str} (hn:∀ y∈scope.names,y.2≠.cell) (h:(relabel scope env).names.lookup x=some .cell∨(relabel scope env).names.lookup x=some .free):(x,NameKind.free)∈scope.names:=by
 have:∃ k,(x,k)∈(relabel scope env).names∧(k=.cell∨k=.free):=by
  rcases h with h | h
  ·exact ⟨_,Y8 h,.inl rfl⟩
  ·exact ⟨_,Y8 h,.inr rfl⟩
 obtain ⟨k,hm,hk⟩:=this
 unfold relabel at hm
 obtain ⟨⟨n,k'⟩,hq,e⟩:=List.mem_map.mp hm
 simp only at e
 split at e
 ·rename_i hc
  simp only [Bool.and_eq_true,beq_iff_eq] at hc
  cases e
  rw [hc.1.1] at hq
  exact hq
 ·cases e
  rcases hk with rfl | rfl
  ·exact absurd rfl (hn _ hq)
  ·exact hq
noncomputable abbrev NoE:Value→Shared→Prop:=fun _ _=>False
theorem vt {prog:Program} {w:World} {A:Around} {R:Result→Shared→Prop} {s:Shared} {elt target iter:Expr} {ifs:List Expr} {scope:Scope} {pos:Pos} {it acc:Value} {env:Env} (I:Nat→Shared→Prop)
  (turn:∀ n s,I n s→wpAny (model prog w) A (pyNext it) (fun r s₁=>match r with
   | none=>R (.ok .next) s₁
   | some v=>wpAny (model prog w) A (letOwnedTupleGo target it v) (fun _ s₁'=>wpAny (model prog w) A (assign target env v) (fun _ s₂ =>
     wpAny (model prog w) A (forIn ifs true fun c r=>if r=true then do let ok ← isTrue c env (eval c env);pure (ForInStep.yield ok) else pure (ForInStep.yield r)) (fun ok s₃ =>
      if ok=true then wpAny (model prog w) A (eval elt env) (fun x s₄ =>
       wpAny (model prog w) A (call (.builtin "list.append") [acc,x]) (fun _ s₅=>∃ m,m < n∧I m s₅) NoE s₄) NoE s₃
      else ∃ m,m < n∧I m s₃) NoE s₂) NoE s₁') NoE s₁) NoE s)
  (n:Nat) (h:I n s):codeAny (model prog w) A (.compLoop (.ListComp elt [⟨target,iter,ifs,0⟩] scope pos) 0 it acc env) R s:=by
 refine codeAny_loop rfl I (fun n s hI=>?_) n h
 show wpAny _ A ((compTurn (.ListComp elt [⟨target,iter,ifs,0⟩] scope pos) 0 it acc env).onRaise (fun x=>do noteFrame x env;theTreesLotGoes x)) _ _ s
 refine wpAny_noted ?_
 rw [compTurn_list]
 refine wpAny_bind (wpAny_standAt (wpAny_bind (wpAny_mono (turn n s hI) (fun r s₁ h₁=>?_) fun _ _ h'=>h'.elim)))
 cases r with
 | none=>exact wpAny_pure h₁
 | some v =>
  refine wpAny_bind (wpAny_mono h₁ (fun _ s₁' h₁'=>?_) fun _ _ h'=>h'.elim)
  refine wpAny_bind (wpAny_mono h₁' (fun _ s₂ h₂=>wpAny_bind (wpAny_mono h₂ (fun ok s₃ h₃=>?_) fun _ _ h'=>h'.elim)) fun _ _ h'=>h'.elim)
  cases ok with
  | false=>exact wpAny_pure ⟨rfl,h₃⟩
  | true =>
   exact wpAny_bind (wpAny_bind (wpAny_mono h₃ (fun x s₄ h₄=>wpAny_bind (wpAny_mono h₄ (fun _ s₅ h₅=>wpAny_pure (wpAny_pure ⟨rfl,h₅⟩)) fun _ _ h'=>h'.elim)) fun _ _ h'=>h'.elim))
noncomputable def Ur (X:Cx) (N':List Str) (scope:Scope) (C:Addr) (s:Shared) (H:Hp) (ex:List Addr):Cx :=
 { X with N:=N',s₀:=s,H₀:=H,env:=compEnvC scope (Xy scope X.env) C X.env,outer:=X.stack,ex:=ex,fn:=fun _=>false,pn:=[],xe:=NoE}
section
variable {X:Cx} {EX:EXT} {pins:List (Addr×Obj)} {σ:L2.St} {H:Hp} {s:Shared} {scope:Scope} {C:Addr} {ex:List Addr} {N':List Str}
theorem CompScope.had (cs:CompScope scope X.env) (ok:X.Ok):∀ p∈scope.names,p.2=.free→∃ c,X.env.cells.lookup p.1=some c:=fun p hp hk=>ok.has p.1 (cs.cap p hp hk)
theorem Ug (cs:CompScope scope X.env) (ok:X.Ok) {x:Str} {c:Addr} (h:(Xy scope X.env).lookup x=some c):X.env.cells.lookup x=some c :=
 wg scope.names [] (cs.had ok) (fun _ z=>nomatch z) (x,c) (Y8 h)
theorem E9 (I:Inv X pins σ H s) (cs:CompScope scope X.env) (hC:s.heap.objs.size≤C) (hex:∀ b∈ex,Yw X pins H b∧∃ o,s.heap.get? b=some o):(Ur X N' scope C s H ex).Ok:=by
 refine ⟨I.ok.mod,cs.kind,I.ok.glob,I.ok.blt,hC,fun x y c h1 h2=>I.ok.inj x y c (Ug cs I.ok h1) (Ug cs I.ok h2),fun x h=>?_,fun x c h=>(by cases h),I.ok.hd,I.ok.frames,.inl rfl,fun b hb=>⟨?_,fun x c h=>?_⟩,I.bs,Nat.le_trans I.ok.bsz I.sz,fun b o e hb=>?_,fun b hb hf=>?_,I.stack,I.stkFree⟩
 ·exact Qz scope.names [] x (W7 cs.nocell h)
 ·obtain ⟨o,e⟩:=(hex b hb).2
  exact Nat.ne_of_lt (Nat.lt_of_lt_of_le (Heap.lt_size e) hC)
 ·exact (hex b hb).1.2.2.2.2.1 x c (Ug cs I.ok h)
 ·rcases (hex b hb).1.2.2.2.1 with z | z
  ·exact I.ok.noex b o e z
  ·exact absurd (Nat.lt_of_lt_of_le (Heap.lt_size e) (Nat.le_trans I.ok.bsz z)) (Nat.lt_irrefl _)
 ·rcases List.mem_cons.mp (I.stkSub b hf) with z | z
  ·exact (hex b hb).1.2.1 z
  ·exact (hex b hb).1.2.2.1 z
theorem Zb {env:Env} {scope:Scope} {x:Str} (h:scope.names.lookup x=some .free):(relabel scope env).names.lookup x=some .cell∨(relabel scope env).names.lookup x=some .free:=by
 unfold relabel
 generalize scope.names=l at h
 simp only
 induction l with
 | nil=>cases h
 | cons p r ih =>
  obtain ⟨n,k⟩:=p
  rw [List.lookup_cons] at h
  simp only [List.map_cons]
  by_cases e:(x == n)=true
  ·rw [e] at h
   cases h
   split
   ·left;rw [List.lookup_cons,e]
   ·right;rw [List.lookup_cons,e]
  ·have e':(x == n)=false:=by simpa using e
   rw [e'] at h
   have:=ih h
   split
   ·rw [List.lookup_cons,e'];exact this
   ·rw [List.lookup_cons,e'];exact this
structure Caps (X:Cx) (scope:Scope) (T caps:List Str) (ix:List Nat):Prop where
 len:ix.length=caps.length
 at':∀ (j:Nat) (x:Str) (i:Nat),caps[j]? =some x→ix[j]? =some i→X.N[i]? =some x∧scope.names.lookup x=some .free
noncomputable def blk {β:Type} (k:Nat) (ix:List Nat) (σ:List (Option β)):List (Option β):=List.replicate k none++ix.map fun i=>(σ[i]?).getD none
theorem gt {T caps:List Str} {ix:List Nat} (I:Inv X pins σ H s) (cs:CompScope scope X.env) (cp:Caps X scope T caps ix) {h':Heap} {tk:Nat} (hC:C=s.heap.objs.size) (hex:∀ b∈ex,Yw X pins H b∧∃ o,s.heap.get? b=some o)
  (hn:h'.Ns C fun _=>none) (hk:∀ b o,s.heap.get? b=some o→h'.get? b=some o) :
  Inv (Ur X (T++caps) scope C s H ex) [] (blk T.length ix σ) H { s with heap:=h',toks:=tk}:=by
 have ok:=E9 (N':=T++caps) (C:=C) I cs (by rw [hC];exact Nat.le_refl _) hex
 refine ⟨ok,rfl,I.bare,Un.kept hk,⟨_,hn,fun i x v e1 e2 e3=>?_⟩,fun x c e=>?_,?_,fun x c e=>I.freeC x c (Ug cs I.ok e),fun p hp=>(by simp [Ur] at hp),I.hok.kept hk,by simp [blk,Ur,cp.len]⟩
 ·have e1:(T++caps)[i]? =some x:=e1
  unfold blk at e2
  by_cases hi:i < T.length
  ·rw [List.getElem?_append_left (by simpa using hi),List.getElem?_replicate] at e2
   split at e2 <;> cases e2
  ·rw [List.getElem?_append_right (by simp;omega)] at e2
   rw [List.getElem?_append_right (by omega)] at e1
   simp only [List.length_replicate,List.getElem?_map] at e2
   cases q:ix[i - T.length]? with
   | none=>rw [q] at e2;cases e2
   | some j =>
    rw [q] at e2
    obtain ⟨hN,hl⟩:=cp.at' _ x j e1 q
    have e2:(σ[j]?).getD none=some v:=by simpa using e2
    have hσ:σ[j]? =some (some v):=by
     cases z:σ[j]? with
     | none=>rw [z] at e2;cases e2
     | some o=>rw [z] at e2;simp at e2;rw [e2]
    have hm:(x,NameKind.free)∈scope.names:=Y8 hl
    have hkind:=cs.cap (x,.free) hm rfl
    obtain ⟨m,hns,hloc⟩:=I.loc
    obtain ⟨u,ru,look⟩:=hloc j x v hN hσ (hkind.elim (fun z=>.inr (.inl z)) fun z=>.inr (.inr z))
    refine ⟨u,ru,.inr ⟨Zb hl,?_⟩⟩
    rcases look with ⟨z,_⟩ | ⟨_,c,hc,hcell⟩
    ·rcases hkind with y | y
     ·rw [z] at y;cases y
     ·rw [z] at y;cases y
    ·obtain ⟨c',hc'⟩:=Qz (env:=X.env) scope.names [] x hm
     have:=Ug cs I.ok hc'
     rw [hc] at this
     cases this
     obtain ⟨o,ho,hd⟩:=hcell
     exact ⟨c,hc',o,hk _ _ ho,hd⟩
 ·obtain ⟨v,o,ho,hd⟩:=I.cell x c (Ug cs I.ok e)
  exact ⟨v,o,hk _ _ ho,hd⟩
 ·show H C=none
  rw [hC]
  exact I.fresh
theorem E8 {T caps:List Str} {σ':L2.St} {H1 H':Hp} {s2 s3 s':Shared} {D:Addr} {o:HO} (I2:Inv X pins σ H1 s2) (hD:s2.heap.objs.size≤D) (h3:s3.os=s2.os) (hk:∀ b u,s2.heap.get? b=some u→s3.heap.get? b=some u)
  (hex:∀ b∈ex,Yw X pins H1 b) (I':Inv (Ur X (T++caps) scope C s3 (upd H1 D o) ex) [] σ' H' s'):Inv X pins σ H' s':=by
 have hos:s'.os=s2.os:=I'.os.trans h3
 have u0:Un (frs X.stack) ex H1 (upd H1 D o) s2.heap s3.heap:=Un.laid hk hD (I2.hok.fresh hD)
 have u:Un (frs X.stack) ex H1 H' s2.heap s'.heap:=u0.trans I'.base
 exact I2.call' hos u I'.hok I'.bare fun b hb=>⟨(hex b hb).2.2.2.1,(hex b hb).2.1,(hex b hb).2.2.2.2.1,(hex b hb).2.2.2.2.2⟩
end
end M
set_option Elab.async false
set_option linter.all false
set_option maxRecDepth 100000
set_option maxHeartbeats 4000000
namespace M
open PySem PySem.Spec PyProof.Rows L2
noncomputable def jy (tg:MG) (t:MB) (m:MX):List D→En→Mu→List D→Res (List D)
 | [],_,μ,acc=>.ok acc μ
 | d::ds,ρ,μ,acc=>match tg d ρ with
  | none=>.bad
  | some ρ1=>(noX (t ρ1 μ)).bind fun k μ1=>if k=true then (noX (m ρ1 μ1)).bind fun x μ2=>jy tg t m ds ρ1 μ2 (acc++[x]) else jy tg t m ds ρ1 μ1 acc
noncomputable def jc (k:Nat) (ix:List Nat) (tg:MG) (it:MIt) (t:MB) (m:MX):MX:=fun ρ μ=>(it ρ μ).bind fun ds μ1=>if ds.length≤16777216 then (jy tg t m ds (blk k ix ρ) μ1 []).bind fun xs μ2=>.ok (.lst xs) μ2 else .bad
noncomputable def mTT:MB:=fun _ μ=>.ok true μ
noncomputable def Au (X:Cx) (ifs:List Expr) (t:MB):Prop:=∀ pins s Z α F H σ ρ μ Q,Inv X pins σ H s→RS X.K Z α F H σ ρ μ→GB X.K NoX Z α F Q (t ρ μ) →
 wpAny (model X.prog X.w) X.A (forIn ifs true fun c r=>if r=true then do let ok ← isTrue c X.env (eval c X.env);pure (ForInStep.yield ok) else pure (ForInStep.yield r)) (TP X pins σ Q) X.xe s
theorem mifs_nil {X:Cx}:Au X [] mTT:=fun pins s Z α F H σ ρ μ Q I R g=>wpAny_tests_nil ⟨H,I,g α F H R.hp (Ext.refl _ _)⟩
theorem mifs_one {X:Cx} {c:Expr} {t:MB} (h:MT X NoX c t):Au X [c] t:=by
 obtain ⟨tt,pt,st⟩:=h
 exact fun pins s Z α F H σ ρ μ Q I R g=>wpAny_tests_one (pt pins s σ H Q I (st Z α F H σ ρ μ Q R g))
theorem a34 {K:PySem.W.Frag} {Z:ZS} {F H:Hp} {α:List Addr} {σ:L2.St} {ρ:En} {μ:Mu} (k:Nat) (ix:List Nat) (R:RS K Z α F H σ ρ μ):RS K Z α F H (blk k ix σ) (blk k ix ρ) μ:=by
 refine ⟨R.hp,by simp [blk],fun i d h=>?_⟩
 unfold blk at h ⊢
 by_cases hi:i < k
 ·rw [List.getElem?_append_left (by simpa using hi),List.getElem?_replicate] at h
  split at h <;> cases h
 ·rw [List.getElem?_append_right (by simp;omega)] at h ⊢
  simp only [List.length_replicate,List.getElem?_map] at h ⊢
  cases q:ix[i - k]? with
  | none=>rw [q] at h;cases h
  | some j =>
   rw [q] at h
   have e2:(ρ[j]?).getD none=some d:=by simpa using h
   have hρ:ρ[j]? =some (some d):=by
    cases z:ρ[j]? with
    | none=>rw [z] at e2;cases e2
    | some o=>rw [z] at e2;simp at e2;rw [e2]
   obtain ⟨v,h1,h2⟩:=R.sl j d hρ
   exact ⟨v,by simp [h1],h2⟩
theorem RH.rehold {K:PySem.W.Frag} {Z:ZS} {F H:Hp} {α:List Addr} {μ:Mu} {p:Addr} {o:HO} (o':HO) (r:RH K (ZS.up Z p o) α F H μ):RH K (ZS.up Z p o') α F (upd H p o') μ:=by
 have fp:F p=none:=r.zf p o Jb
 have nc:∀ (k:Nat) (a:Addr) (c:Cell),α[k]? =some a→μ[k]? =some c→c≠.dead→a≠p:=fun k a c ha hc hd z=>by
  have:=r.zc k a c ha hc hd
  rw [z,Jb] at this
  cases this
 refine ⟨fun b u e=>?_,r.len,fun k a c ha hc=>?_,fun b u e=>?_,fun b u e=>?_,fun k a c ha hc hd=>?_,r.dis,r.ext⟩
 ·rw [j9 (jt e fp)];exact r.sub b u e
 ·exact (r.cell k a c ha hc).go (Ext.refl _ _) (fun _=>rfl) fun hd=>j9 (nc k a c ha hc hd)
 ·by_cases hb:b=p
  ·subst hb;rw [Jb] at e;rw [js];exact e
  ·rw [yw hb] at e;rw [j9 hb];exact r.zs b u (by rw [yw hb];exact e)
 ·by_cases hb:b=p
  ·subst hb;exact fp
  ·rw [yw hb] at e;exact r.zf b u (by rw [yw hb];exact e)
 ·have:=r.zc k a c ha hc hd
  rw [yw (nc k a c ha hc hd)] at this ⊢
  exact this
theorem d7 {H:Hp} {p:Addr} {o:HO} (h:H p=some o):upd H p o=H:=by
 funext b
 unfold upd
 split
 ·rename_i e;rw [e,h]
 ·rfl
section
variable {X:Cx} {EX:EXT} {elt tg iter:Expr} {ifs:List Expr} {scope:Scope} {pos:Pos} {T caps:List Str} {ix:List Nat} {g:MG} {t:MB} {m:MX}
noncomputable def Blk (X:Cx) (scope:Scope) (N':List Str) (tg:Expr) (ifs:List Expr) (elt:Expr) (g:MG) (t:MB) (m:MX):Prop :=
 ∀ C s H ex,MTg (Ur X N' scope C s H ex) tg g∧Au (Ur X N' scope C s H ex) ifs t∧ME (Ur X N' scope C s H ex) NoX elt m
inductive CSt (Y:Cx) (Z:ZS) (D':Addr) (fp:List Addr) (tn:Nat→Heap→Prop) (α:List Addr) (F:Hp) (g:MG) (t:MB) (m:MX) (ds:List D) (G:Res (List D)→Prop):Nat→Shared→Prop
 | mk {i:Nat} {σ':L2.St} {H':Hp} {α':List Addr} {F':Hp} {ρ':En} {μ':Mu} {xs:List D} {vs:List V} {s':Shared}:i≤ds.length→xs.length≤i→Inv Y [] σ' H' s'→tn i s'.heap→(∀ b∈fp,H' b=none)→RS Y.K (ZS.up Z D' (.lst vs)) α' F' H' σ' ρ' μ'→Ext α F α' F'→Reps Y.K F' α' xs vs→G (jy g t m (ds.drop i) ρ' μ' xs)→CSt Y Z D' fp tn α F g t m ds G (ds.length + 1 - i) s'
theorem E7 {Y:Cx} {Rr:Result→Shared→Prop} {s:Shared} {σ:L2.St} {Z:ZS} {H F:Hp} {α:List Addr} {ρ:En} {μ:Mu} {ds:List D} {J:It} {fp:List Addr} {it D':Addr} {tn:Nat→Heap→Prop} {G:Res (List D)→Prop} (hxe:Y.xe=NoE) (hcalm:Y.calm=true)
  (hgt:MTg Y tg g) (hif:Au Y ifs t) (he:ME Y NoX elt m) (Tn:Turn Y.prog Y.w Y.K tg J fp it tn) (stat:∀ H',(∀ b∈fp,H' b=none)→∀ b∈fp,Yw Y [] H' b) (I:Inv Y [] σ H s) (ht0:tn 0 s.heap) (hf0:∀ b∈fp,H b=none)
  (R:RS Y.K (ZS.up Z D' (.lst [])) α F H σ ρ μ) (wk:uf Y.K α F J ds) (hds:ds.length≤16777216) (hG:G (jy g t m ds ρ μ [])) (hbad:¬ G .bad)
  (hR:∀ (σ':L2.St) (H':Hp) (s':Shared) (α':List Addr) (F':Hp) (xs:List D) (vs:List V) (μ':Mu),Inv Y [] σ' H' s'→RH Y.K (ZS.up Z D' (.lst vs)) α' F' H' μ'→Ext α F α' F'→Reps Y.K F' α' xs vs→G (.ok xs μ')→Rr (.ok .next) s') :
  codeAny (model Y.prog Y.w) Y.A (.compLoop (.ListComp elt [⟨tg,iter,ifs,0⟩] scope pos) 0 (.ref it) (.ref D') Y.env) Rr s:=by
 obtain ⟨tgt,pg,sg⟩:=hgt
 obtain ⟨te,pe,se⟩:=he
 have nox:∀ {α:Type} {tr:Sem α} {Q:α→Shared→Prop} {s:Shared},wpAny (model Y.prog Y.w) Y.A tr Q Y.xe s→wpAny (model Y.prog Y.w) Y.A tr Q NoE s:=fun h=>by rw [hxe] at h;exact h
 refine vt (CSt Y Z D' fp tn α F g t m ds G) ?_ (ds.length + 1) (.mk (i:=0) (xs:=[]) (vs:=[]) (Nat.zero_le _) (Nat.zero_le _) I ht0 hf0 R (Ext.refl _ _) j6 hG)
 rintro n s1 (@⟨i,σ1,H1,α1,F1,ρ1,μ1,xs,vs,_,hi,hxl,I1,t1,f1,R1,e1,r1,g1⟩)
 obtain ⟨w1,w2⟩:=wk _ α1 F1 H1 μ1 R1.hp e1 i
 by_cases hlt:i < ds.length
 ·obtain ⟨w3,w4⟩:=w1 hlt
  refine wpAny_mono (Tn.item Y rfl rfl rfl hcalm i [] s1 σ1 H1 NoE I1 (stat H1 f1) t1 w3) (fun r s2 h2=>?_) fun _ _ z=>z
  obtain ⟨u,rfl,h2⟩:=h2
  refine wpAny_mono h2 (fun _ s3 h3=>?_) fun _ _ z=>z
  obtain ⟨x,H3,I3,rx,yl,t3,f3⟩:=h3
  obtain ⟨d,F3,hd,R3,sf3,p3⟩:=w4 x H3 yl
  have e3:Ext α1 F1 α1 F3:=⟨sf3,fun _ _ h=>h⟩
  rw [List.drop_eq_getElem_cons hlt] at g1
  have hd':ds[i]=d:=by
   rw [List.getElem?_eq_getElem hlt] at hd
   exact Option.some.inj hd
  rw [hd'] at g1
  simp only [jy] at g1
  cases ht:g d ρ1 with
  | none=>rw [ht] at g1;exact absurd g1 hbad
  | some ρ4 =>
   rw [ht] at g1
   simp only at g1
   have I3':=I3.pinned (stat H3 f3) (Tn.obj _ _ t3)
   have R3':RS Y.K (ZS.up Z D' (.lst vs)) α1 F3 H3 σ1 ρ1 μ1:=R1.to R3 e3
   refine wpAny_mono (nox (pg _ s3 σ1 H3 x u (fun σ4 H4=>H4=H3∧RS Y.K (ZS.up Z D' (.lst vs)) α1 F3 H3 σ4 ρ4 μ1) I3' rx (sg _ α1 F3 H3 σ1 ρ1 μ1 x d ρ4 _ R3' p3 ht fun σ4 R4=>⟨rfl,R4⟩))) (fun _ s4 h4=>?_) fun _ _ z=>z
   obtain ⟨σ4,H4,I4,rfl,R4⟩:=h4
   have back:∀ {σ5:L2.St} {H5:Hp} {s5:Shared},Inv Y ([]++xv fp s3.heap) σ5 H5 s5→Inv Y [] σ5 H5 s5∧tn (i + 1) s5.heap∧∀ b∈fp,H5 b=none:=fun {σ5 H5 s5} I5=>by
    refine ⟨I5.unpinned,Tn.keep _ _ _ t3 fun b hb o e=>(I5.pin (b,o) (List.mem_append_right _ (List.mem_append_right _ (Y7 hb e)))).1,fun b hb=>?_⟩
    obtain ⟨o,e,_⟩:=Tn.obj _ _ t3 b hb
    exact (I5.pin (b,o) (List.mem_append_right _ (List.mem_append_right _ (Y7 hb e)))).2.1
   refine wpAny_mono (nox (hif _ s4 _ α1 F3 H4 σ4 ρ4 μ1 (fun k H5=>∃ μ5 α5 F5,RH Y.K (ZS.up Z D' (.lst vs)) α5 F5 H5 μ5∧Ext α1 F3 α5 F5∧G (if k=true then (noX (m ρ4 μ5)).bind fun x μ2=>jy g t m (ds.drop (i + 1)) ρ4 μ2 (xs++[x]) else jy g t m (ds.drop (i + 1)) ρ4 μ5 xs)) I4 R4 ?_)) (fun k s5 h5=>?_) fun _ _ z=>z
   ·cases hk:t ρ4 μ1 with
    | ok k μ5=>rw [hk] at g1;exact fun α5 F5 H5 R5 e5=>⟨μ5,α5,F5,R5,e5,g1⟩
    | exc x μ5=>rw [hk] at g1;exact absurd g1 hbad
    | bad=>rw [hk] at g1;exact absurd g1 hbad
   obtain ⟨H5,I5,μ5,α5,F5,R5,e5,g5⟩:=h5
   cases k with
   | false =>
    obtain ⟨b1,b2,b3⟩:=back I5
    exact ⟨_,by omega,.mk (i:=i + 1) hlt (Nat.le_succ_of_le hxl) b1 b2 b3 (R4.to R5 e5) (e1.trans (e3.trans e5)) ((r1.mono e3).mono e5) g5⟩
   | true =>
    simp only [if_true] at g5 ⊢
    refine wpAny_mono (nox (pe _ s5 σ4 H5 (fun v6 H6=>∃ x6 μ6 α6 F6,RH Y.K (ZS.up Z D' (.lst vs)) α6 F6 H6 μ6∧Ext α5 F5 α6 F6∧Rep Y.K F6 α6 x6 v6∧G (jy g t m (ds.drop (i + 1)) ρ4 μ6 (xs++[x6]))) I5 (se _ α5 F5 H5 σ4 ρ4 μ5 _ (R4.to R5 e5) ?_))) (fun y s6 h6=>?_) fun _ _ z=>z
    ·cases hm:m ρ4 μ5 with
     | ok x6 μ6=>rw [hm] at g5;exact fun v6 α6 F6 H6 R6 e6 p6=>⟨x6,μ6,α6,F6,R6,e6,p6,g5⟩
     | exc x μ5=>rw [hm] at g5;exact absurd g5 hbad
     | bad=>rw [hm] at g5;exact absurd g5 hbad
    obtain ⟨v6,H6,I6,rv,x6,μ6,α6,F6,R6,e6,p6,g6⟩:=h6
    have hHD:H6 D'=some (.lst vs):=R6.zs _ _ Jb
    have hvl:vs.length < sizeLine:=by rw [← r1.length,sizeLine_eq];omega
    refine wpAny_mono (nox (wx (X:=Y) _ s6 σ4 H6 (.ref D') [v6] (.ref D') [y] (fun _ H7=>H7=upd H6 D' (.lst (vs++[v6]))) I6 rfl (.cons rv .nil) ⟨D',vs,v6,rfl,rfl,hHD,hvl,rfl⟩)) (fun z s7 h7=>?_) fun _ _ z=>z
    obtain ⟨_,H7,I7,_,rfl⟩:=h7
    obtain ⟨b1,b2,b3⟩:=back I7
    have R7:=R6.rehold (.lst (vs++[v6]))
    refine ⟨_,by omega,.mk (i:=i + 1) (xs:=xs++[x6]) (vs:=vs++[v6]) hlt ?_ b1 b2 b3 ?_ (e1.trans (e3.trans (e5.trans e6))) ?_ g6⟩
    ·rw [List.length_append,List.length_singleton];exact Nat.succ_le_succ hxl
    ·exact ⟨R7,R4.len,fun j dd h=>let ⟨v,h1,h2⟩:=R4.sl j dd h;⟨v,h1,(h2.mono e5).mono e6⟩⟩
    ·exact ((((r1.mono e3).mono e5).mono e6).append (j2 p6 j6))
 ·refine wpAny_mono (Tn.done Y rfl rfl rfl hcalm i [] s1 σ1 H1 NoE I1 (stat H1 f1) t1 (w2 (by omega))) (fun r s2 h2=>?_) fun _ _ z=>z
  obtain ⟨rfl,I2⟩:=h2
  rw [List.drop_eq_nil_of_le (by omega)] at g1
  exact hR σ1 H1 s2 α1 F1 xs vs μ1 I2 R1.hp e1 r1 g1
theorem Xz {pins:List (Addr×Obj)} {σ:L2.St} {H1:Hp} {s2:Shared} {E:Value→Shared→Prop} {RR:Value→Addr→Result→Shared→Prop} {it:Addr} {fp:List Addr} {tn:Nat→Heap→Prop} {J:It} {Z:ZS} {α:List Addr} {F:Hp} {ρ:En} {μ:Mu} {ds:List D} {G:Res (List D)→Prop}
  (cs:CompScope scope X.env) (cp:Caps X scope T caps ix) (hcalm:X.calm=true) (hb:Blk X scope (T++caps) tg ifs elt g t m)
  (I2:Inv X pins σ H1 s2) (Tn:Turn X.prog X.w X.K tg J fp it tn) (ht0:tn 0 s2.heap) (hfp:∀ b∈fp,Yw X pins H1 b) (R:RS X.K Z α F H1 σ ρ μ) (wk:uf X.K α F J ds) (hds:ds.length≤16777216)
  (hG:G (jy g t m ds (blk T.length ix ρ) μ [])) (hbad:¬ G .bad)
  (hRR:∀ (D' C:Addr) (H':Hp) (s':Shared) (α':List Addr) (F':Hp) (xs:List D) (vs:List V) (μ':Mu) (mm:Str→Option Value),Inv X pins σ H' s'→Yw X pins H' C→s'.heap.Ns C mm→RH X.K (ZS.up Z D' (.lst vs)) α' F' H' μ'→Z.z D'=none→Ext α F α' F'→Reps X.K F' α' xs vs→G (.ok xs μ')→RR (.ref D') C (.ok .next) s') :
  wpAny (model X.prog X.w) X.A (newList []) (fun acc s₃=>wpAny (model X.prog X.w) X.A (newFunctionEnv scope X.env.globals (Xy scope X.env) [] X.env.qual none .none (some X.env)) (fun cenv s₄ =>
   codeAny (model X.prog X.w) X.A (.compStart (.ListComp elt [⟨tg,iter,ifs,0⟩] scope pos) 0 (.ref it) acc { cenv with scope:=relabel scope X.env}) (RR acc cenv.locals) s₄) E s₃) E s2:=by
 have hD:H1 s2.heap.objs.size=none:=I2.fresh
 have hZ:Z.z s2.heap.objs.size=none:=by
  cases e:Z.z s2.heap.objs.size with
  | none=>rfl
  | some u=>rw [R.hp.zs _ _ e] at hD;cases hD
 have I3:Inv X pins σ (upd H1 s2.heap.objs.size (.lst [])) { s2 with heap:=s2.heap.push { cls:=.type "list",data:=.seq ([]:List Value).toArray},toks:=s2.toks}:=I2.lnew (its:=[]) (ys:=[]) .nil (Nat.zero_le _)
 have k3:∀ b u,s2.heap.get? b=some u→(s2.heap.push { cls:=.type "list",data:=.seq ([]:List Value).toArray}).get? b=some u:=fun b u e=>Heap.get?_push_of_some _ e
 refine wpAny_newObj_type (wpAny_newFunctionEnv cs.nocell (by intro y hy;simp at hy) (fun h₁ hns₁ hsb₁=>?_) cs.kind)
 have hobj:∀ b∈fp,∃ o,s2.heap.get? b=some o:=fun b hb=>let ⟨o,e,_⟩:=Tn.obj 0 _ ht0 b hb;⟨o,e⟩
 have hnD:∀ b∈fp,b≠s2.heap.objs.size:=fun b hb=>let ⟨o,e⟩:=hobj b hb;Nat.ne_of_lt (Heap.lt_size e)
 have hex3:∀ b∈fp,Yw X pins (upd H1 s2.heap.objs.size (.lst [])) b∧∃ o,(s2.heap.push { cls:=.type "list",data:=.seq ([]:List Value).toArray}).get? b=some o:=fun b hb=>by
  obtain ⟨f0,f1⟩:=hfp b hb
  obtain ⟨o,e⟩:=hobj b hb
  exact ⟨⟨by rw [j9 (hnD b hb)];exact f0,f1⟩,o,k3 b o e⟩
 have keep1:∀ b o,(s2.heap.push { cls:=.type "list",data:=.seq ([]:List Value).toArray}).get? b=some o→h₁.get? b=some o:=fun b o e =>
  hsb₁.extBut b o (Nat.ne_of_lt (Heap.lt_size e)) (Heap.get?_push_of_some _ e)
 have I4:=gt (scope:=scope) (T:=T) (caps:=caps) (ix:=ix) (ex:=fp) (tk:=s2.toks + ([]:List (Str×Value)).length) I3 cs cp rfl hex3 (by simpa using hns₁) keep1
 obtain ⟨hgt,hif,he⟩:=hb (s2.heap.push { cls:=.type "list",data:=.seq ([]:List Value).toArray}).objs.size { s2 with heap:=s2.heap.push { cls:=.type "list",data:=.seq ([]:List Value).toArray},toks:=s2.toks} (upd H1 s2.heap.objs.size (.lst [])) fp
 have t1:tn 0 h₁:=Tn.keep 0 _ _ ht0 fun b _ o e=>keep1 b o (k3 b o e)
 have stat:∀ H':Hp,(∀ b∈fp,H' b=none)→∀ b∈fp,Yw (Ur X (T++caps) scope (s2.heap.push { cls:=.type "list",data:=.seq ([]:List Value).toArray}).objs.size { s2 with heap:=s2.heap.push { cls:=.type "list",data:=.seq ([]:List Value).toArray},toks:=s2.toks} (upd H1 s2.heap.objs.size (.lst [])) fp) [] H' b:=fun H' hn b hb=>by
  refine ⟨hn b hb,(I4.ok.exf b hb).1,I4.ok.exfs b hb,.inl hb,(I4.ok.exf b hb).2,fun p hp=>?_⟩
  exact absurd hp (by simp [Ur])
 have loop:codeAny (model X.prog X.w) X.A (.compLoop (.ListComp elt [⟨tg,iter,ifs,0⟩] scope pos) 0 (.ref it) (.ref s2.heap.objs.size) (compEnvC scope (Xy scope X.env) (s2.heap.push { cls:=.type "list",data:=.seq ([]:List Value).toArray}).objs.size X.env))
   (RR (.ref s2.heap.objs.size) (s2.heap.push { cls:=.type "list",data:=.seq ([]:List Value).toArray}).objs.size) { s2 with heap:=h₁,toks:=s2.toks + ([]:List (Str×Value)).length}:=by
  refine E7 (Y:=Ur X (T++caps) scope (s2.heap.push { cls:=.type "list",data:=.seq ([]:List Value).toArray}).objs.size { s2 with heap:=s2.heap.push { cls:=.type "list",data:=.seq ([]:List Value).toArray},toks:=s2.toks} (upd H1 s2.heap.objs.size (.lst [])) fp) (Z:=Z) (G:=G) rfl hcalm hgt hif he Tn stat I4 t1 (fun b hb=>by rw [j9 (hnD b hb)];exact (hfp b hb).1)
   (a34 T.length ix ⟨R.hp.hold (.lst []) hD,R.len,R.sl⟩) wk hds hG hbad fun σ' H' s' α' F' xs vs μ' I' R' e' r' g'=>?_
  have Ib:=E8 (T:=T) (caps:=caps) (s3:={ s2 with heap:=s2.heap.push { cls:=.type "list",data:=.seq ([]:List Value).toArray},toks:=s2.toks}) I2 (Nat.le_refl _) rfl k3 hfp I'
  obtain ⟨mm,hmm,_⟩:=I'.loc
  exact hRR _ _ H' s' α' F' xs vs μ' mm Ib (I3.fpOk (Nat.le_refl _) I'.free) hmm R' hZ e' r' g'
 exact codeAny_compStart_list loop (Tn.self X.A 0 _ _ _ t1 loop)
theorem wj {pins:List (Addr×Obj)} {σ:L2.St} {H1:Hp} {s2:Shared} {E:Value→Shared→Prop} {RR:Value→Addr→Result→Shared→Prop} {it:Addr} {fp:List Addr} {tn:Nat→Heap→Prop} {J:It} {Z:ZS} {α:List Addr} {F:Hp} {ρ:En} {μ:Mu} {ds:List D} {G:Res (List D)→Prop}
  (cs:CompScope scope X.env) (cp:Caps X scope T caps ix) (hcalm:X.calm=true) (hb:Blk X scope (T++caps) tg ifs elt g t m)
  (I2:Inv X pins σ H1 s2) (Tn:Turn X.prog X.w X.K tg J fp it tn) (ht0:tn 0 s2.heap) (hfp:∀ b∈fp,Yw X pins H1 b) (R:RS X.K Z α F H1 σ ρ μ) (wk:uf X.K α F J ds) (hds:ds.length≤16777216)
  (hG:G (jy g t m ds (blk T.length ix ρ) μ [])) (hbad:¬ G .bad)
  (hRR:∀ (D' C:Addr) (H':Hp) (s':Shared) (α':List Addr) (F':Hp) (xs:List D) (μ':Mu) (mm:Str→Option Value),Inv X pins σ H' s'→Yw X pins H' C→s'.heap.Ns C mm→RH X.K Z α' F' H' μ'→Ext α F α' F'→Rep X.K F' α' (.lst xs) (.ref D')→G (.ok xs μ')→RR (.ref D') C (.ok .next) s') :
  wpAny (model X.prog X.w) X.A (newList []) (fun acc s₃=>wpAny (model X.prog X.w) X.A (newFunctionEnv scope X.env.globals (Xy scope X.env) [] X.env.qual none .none (some X.env)) (fun cenv s₄ =>
   codeAny (model X.prog X.w) X.A (.compStart (.ListComp elt [⟨tg,iter,ifs,0⟩] scope pos) 0 (.ref it) acc { cenv with scope:=relabel scope X.env}) (RR acc cenv.locals) s₄) E s₃) E s2:=by
 refine Xz (G:=G) cs cp hcalm hb I2 Tn ht0 hfp R wk hds hG hbad fun D' C H' s' α' F' xs vs μ' mm I' fC hn R' hZ e' r' g'=>?_
 have hHD:H' D'=some (.lst vs):=R'.zs _ _ Jb
 obtain ⟨R2,s2'⟩:=R'.unhold (.lst vs) hZ
 rw [d7 hHD] at R2
 refine hRR _ _ H' s' α' _ xs μ' mm I' fC hn R2 (e'.trans ⟨s2',fun _ _ h=>h⟩) ?_ g'
 unfold Rep
 exact ⟨_,vs,rfl,SqL.of js,r'.mono ⟨s2',fun _ _ h=>h⟩⟩
theorem Wf {pins:List (Addr×Obj)} {σ:L2.St} {H:Hp} {s:Shared} {C:Addr} {h':Heap} (I:Inv X pins σ H s) (f:Yw X pins H C) (hs:Heap.SameBut C s.heap h'):Inv X pins σ H { s with heap:=h'} :=
 I.turned (t':=s.toks) (fun b o hb e=>hs.extBut b o hb e) f.1 f.2.1 f.2.2.2.1 f.2.2.2.2.1 f.2.2.2.2.2
theorem Uj {mi:MIt} (cs:CompScope scope X.env) (cp:Caps X scope T caps ix) (hcalm:X.calm=true) (hi:MI X EX tg iter mi) (hb:Blk X scope (T++caps) tg ifs elt g t m) (hs:∀ x,foldedSetIterable iter X.env x=pure x:=by intro _;rfl) :
  ME X EX (.ListComp elt [⟨tg,iter,ifs,0⟩] scope pos) (jc T.length ix g mi t m):=by
 obtain ⟨wi,pi,si⟩:=hi
 refine ⟨fun σ H Q=>∀ pins s,Inv X pins σ H s→wpAny (model X.prog X.w) X.A (eval (.ListComp elt [⟨tg,iter,ifs,0⟩] scope pos) X.env) (EP X pins σ Q) X.xe s,fun pins s σ H Q I h=>h pins s I,fun Z α F H σ ρ μ Q R gd pins s I=>?_⟩
 rw [eval_ListComp]
 refine wpAny_comprehension_free (use:=none) rfl hs (Zq (cs.had I.ok)) cs.kind cs.loc ?_
 unfold jc at gd
 cases hm:mi ρ μ with
 | exc x μ1 =>
  rw [hm] at gd
  have hw:wi σ H fun _ _=>False:=si Z α F H σ ρ μ _ R (by rw [hm];exact gd)
  refine thn (pi pins s σ H _ I hw) fun v s1 h1=>thn h1 fun itv s2 h2=>?_
  obtain ⟨_,_,_,_,_,_,_,_,_,_,z⟩:=h2
  exact z.elim
 | bad=>rw [hm] at gd;exact gd.elim
 | ok ds μ1 =>
  rw [hm] at gd
  simp only [bind_ok] at gd
  by_cases hds:ds.length≤16777216
  ·rw [if_pos hds] at gd
   have hw:wi σ H fun J H1=>∃ α1 F1,RH X.K Z α1 F1 H1 μ1∧Ext α F α1 F1∧uf X.K α1 F1 J ds:=si Z α F H σ ρ μ _ R (by rw [hm];exact fun J α' F' H' R' e' w'=>⟨α',F',R',e',w'⟩)
   refine thn (pi pins s σ H _ I hw) fun v s1 h1=>thn h1 fun itv s2 h2=>?_
   obtain ⟨it,fp,tn,J,H2,rfl,I2,Tn,t0,f2,α1,F1,R1,e1,wk⟩:=h2
   refine wj (G:=fun r=>GE X.K NoX Z α F Q (r.bind fun xs μ2=>.ok (.lst xs) μ2)∨GE X.K EX Z α F Q (r.bind fun xs μ2=>.ok (.lst xs) μ2)) cs cp hcalm hb I2 Tn t0 f2 (R.to R1 e1) wk hds (.inr gd) (fun z=>z.elim id id) fun D' C H' s' α' F' xs μ' mm I' fC hn R' e' rp gg=>?_
   refine ⟨mm,hn,fun h' hs'=>⟨.ref D',H',Wf I' fC hs',rfl,?_⟩⟩
   rcases gg with gg | gg
   ·exact gg _ α' F' H' R' (e1.trans e') rp
   ·exact gg _ α' F' H' R' (e1.trans e') rp
  ·rw [if_neg hds] at gd;exact gd.elim
theorem Ba {i:Nat} {x:Str} {pos':Pos} {mi:MIt} {spos:Pos} (hN:X.N.Nodup) (hi':X.N[i]? =some x) (hx:Loc X.env.scope x) (hf:X.fn x=true∨X.env.scope.names.lookup x=some .local) (cs:CompScope scope X.env) (cp:Caps X scope T caps ix) (hcalm:X.calm=true) (hi:MI X EX tg iter mi)
  (hb:Blk X scope (T++caps) tg ifs elt g t m) (hsw:swapsWith (.ListComp elt [⟨tg,iter,ifs,0⟩] scope pos) (some (.Name x pos')) spos.line X.env=pure true) (hs:∀ x,foldedSetIterable iter X.env x=pure x:=by intro _;rfl) :
  MS X EX (.Assign [.Name x pos'] (.ListComp elt [⟨tg,iter,ifs,0⟩] scope pos) spos) (J2 i (jc T.length ix g mi t m)):=by
 obtain ⟨wi,pi,si⟩:=hi
 refine ⟨fun N σ H=>∀ pins s,Inv X pins σ H s→wpAny (model X.prog X.w) X.A (exec (.Assign [.Name x pos'] (.ListComp elt [⟨tg,iter,ifs,0⟩] scope pos) spos) X.env) (SP X pins N) X.xe s,fun pins s σ H N I h=>h pins s I,fun Z α F H σ ρ μ N R gd pins s I=>?_⟩
 rw [exec_Assign_Name_used _ _ _ _ hsw]
 refine wpAny_bind (wpAny_standAt (wpAny_bind ?_))
 show wpAny _ X.A (do let _ ← comprehension (.ListComp elt [⟨tg,iter,ifs,0⟩] scope pos) scope X.env _ (newList []) false (eval iter X.env) (some (assign (.Name x pos') X.env))) _ _ s
 refine wpAny_bind (wpAny_mono (wpAny_comprehension_free (use:=some (assign (.Name x pos') X.env)) (Q:=fun _ s'=>SP X pins N .next s') rfl hs (Zq (cs.had I.ok)) cs.kind cs.loc ?_) (fun _ s' hq=>wpAny_pure (wpAny_pure hq)) fun _ _ e=>e)
 unfold J2 jc at gd
 cases hm:mi ρ μ with
 | exc y μ1 =>
  rw [hm] at gd
  have hw:wi σ H fun _ _=>False:=si Z α F H σ ρ μ _ R (by rw [hm];exact gd)
  refine thn (pi pins s σ H _ I hw) fun v s1 h1=>thn h1 fun itv s2 h2=>?_
  obtain ⟨_,_,_,_,_,_,_,_,_,_,z⟩:=h2
  exact z.elim
 | bad=>rw [hm] at gd;exact gd.elim
 | ok ds μ1 =>
  rw [hm] at gd
  simp only [bind_ok] at gd
  by_cases hds:ds.length≤16777216
  ·rw [if_pos hds] at gd
   have hw:wi σ H fun J H1=>∃ α1 F1,RH X.K Z α1 F1 H1 μ1∧Ext α F α1 F1∧uf X.K α1 F1 J ds:=si Z α F H σ ρ μ _ R (by rw [hm];exact fun J α' F' H' R' e' w'=>⟨α',F',R',e',w'⟩)
   refine thn (pi pins s σ H _ I hw) fun v s1 h1=>thn h1 fun itv s2 h2=>?_
   obtain ⟨it,fp,tn,J,H2,rfl,I2,Tn,t0,f2,α1,F1,R1,e1,wk⟩:=h2
   refine wj (G:=fun r=>GS X.K EX Z α F N ((r.bind fun xs μ2=>.ok (.lst xs) μ2).bind fun d μ1=>.ok (.nx (ρ.set i (some d))) μ1)) cs cp hcalm hb I2 Tn t0 f2 (R.to R1 e1) wk hds gd (fun z=>z) fun D' C H' s' α' F' xs μ' mm I' fC hn R' e' rp gg=>?_
   show wpAny _ X.A (assign (.Name x pos') X.env (.ref D')) _ _ _
   refine wpAny_assign_Name (Xf (v:=.ref D') I' hN hi' hx rfl (fun s'' I'' hsb=>?_) hf)
   obtain ⟨a,hsb,ha⟩:=hsb
   have hCa:C≠a:=by
    rcases ha with rfl | ha
    ·exact fC.2.1
    ·exact fun z=>fC.2.2.2.2.1 x a ha z.symm
   refine ⟨mm,hn.sameBut hsb hCa,fun h' hs'=>⟨_,H',Wf I'' fC hs',?_⟩⟩
   exact gg _ α' F' H' ((R.to R' (e1.trans e')).set i rp) (e1.trans e')
  ·rw [if_neg hds] at gd;exact gd.elim
end
end M
set_option Elab.async false
set_option linter.all false
set_option maxRecDepth 100000
set_option maxHeartbeats 4000000
namespace M
open PySem PySem.Spec PyProof.Rows L2
section
variable {prog:Program} {w:World} {A:Around}
theorem E2 (hh:A.handled=none) (j tp:Addr) (hne:tp≠j) (xs:Array Value):Draws prog w A j [j,tp] xs.size (fun i v=>xs[i]? =some v) (fun i h=>h.IsTupleIter j tp i∧h.IsTuple tp xs):=by
 have start:∀ {s:Shared} {Q:Value→Shared→Prop} {E:Value→Shared→Prop} {i:Nat},s.heap.IsTupleIter j tp i→s.heap.IsTuple tp xs →
   wpAny (model prog w) A.in1 (match xs[i]? with
    | some x=>do setField (.ref j) 1 (rawInt ((i:Int) + 1));ret x
    | none=>do rule "tuple_iterator.__next__.end";setField (.ref j) 0 .none;Builtin.SmallTypes.stopIteration) (fun f s'=>∃ v,f=.done (.ret v)∧wpAny (model prog w) A (pure v) Q E s') E s →
   wpAny (model prog w) A (Builtin.SmallTypes.nextOf (.ref j)) Q E s:=fun {s Q E i} a b h=>by
  obtain ⟨oj,ej,_,dj⟩:=id a
  obtain ⟨ot,et,_,n,dt⟩:=b
  unfold Builtin.SmallTypes.nextOf
  refine wpAny_bind (wpAny_callSpecial?_slot (name:="__next__") a.typeIs PySem.F.slot_tuple_iterator_next (wpAny_call_entry PySem.F.slot_tuple_iterator_next a.typeIs PySem.F.entry_tuple_iterator_next ?_ (PySem.F.args_tuple_iterator_next_1 _)))
  refine (wpAny_bind (wpAny_field ej dj (x:=.ref tp) rfl ?_):wpAny _ _ (field (.ref j) 0 >>= _) _ _ s)
  refine (wpAny_bind (wpAny_field ej dj (x:=.int i 0) rfl ?_):wpAny _ _ (field (.ref j) 1 >>= _) _ _ s)
  refine (wpAny_bind (wpAny_seqItems et dt ?_):wpAny _ _ (seqItems? (.ref tp) >>= _) _ _ s)
  simp only [Int.toNat_natCast]
  exact h
 refine ⟨fun _ _ st=>let ⟨o,e,_⟩:=st.1;⟨o,e⟩,fun i h h' st k=>?_,fun i s Q E hi st q=>start st.1 st.2 ?_,fun s Q E st q=>start st.1 st.2 ?_⟩
 ·obtain ⟨⟨o,e,r⟩,⟨o2,e2,r2⟩⟩:=st
  exact ⟨⟨o,k j (by simp) o e,r⟩,⟨o2,k tp (by simp) o2 e2,r2⟩⟩
 ·obtain ⟨⟨o,e,c,d⟩,b⟩:=id st
  rw [Array.getElem?_eq_getElem hi]
  refine wpAny_bind (wpAny_setField e d (by simp) (wpAny_pure ⟨_,rfl,wpAny_pure (q _ _ _ (by simp [hi]) ⟨⟨_,Heap.get?_update_self _ e (Obj.isFreed_of_fields (Obj.data_mapFields d _)),(Obj.cls_mapFields ..).trans c,by rw [Obj.data_mapFields d];simp [rawInt]⟩,b.extBut (Heap.SameBut.update ..).extBut hne⟩ (Heap.SameBut.update ..))⟩))
 ·obtain ⟨⟨o,e,c,d⟩,b⟩:=id st
  rw [show xs[xs.size]? =none by simp]
  refine wpAny_bind (wpAny_rule (wpAny_bind (wpAny_setField e d (by simp) ?_)))
  simp only [Builtin.SmallTypes.stopIteration,newExc,newTuple]
  refine wpAny_bind (wpAny_bind (wpAny_newObj_type (wpAny_bind (m:=firstArgMember _ _) (wpAny_of_eq (a:=Value.none) (by first | rfl | (simp only [firstArgMember];rfl)) (wpAny_newObj_type ?_ (by size_fits)))) (by size_fits)))
  simp only [raiseNew]
  refine wpAny_bind (wpAny_handled ?_)
  rw [show A.in1.handled=none from hh]
  exact wpAny_bind (wpAny_pure (wpAny_throw (q _ _ (((Heap.SameBut.update ..).extBut.push _).push _) ⟨_,Heap.get?_push_size _ rfl,rfl⟩)))
structure Apart (z tI tO i1 i2:Addr) (f1 f2:List Addr):Prop where
 a:z≠tO
 b:z≠tI
 c:tI≠tO
 z1:z∉f1
 z2:z∉f2
 o1:tO∉f1
 o2:tO∉f2
 m1:i1∈f1
 m2:i2∈f2
 x1:i1∉f2
 x2:i2∉f1
 t1:tI∉f1
 t2:tI∉f2
theorem Apart.ne1 {z tI tO i1 i2:Addr} {f1 f2:List Addr} (P:Apart z tI tO i1 i2 f1 f2):i1≠z∧i1≠tO∧i1≠i2∧i1≠tI:=⟨fun e=>P.z1 (e ▸ P.m1),fun e=>P.o1 (e ▸ P.m1),fun e=>P.x1 (e ▸ P.m2),fun e=>P.t1 (e ▸ P.m1)⟩
theorem Apart.ne2 {z tI tO i1 i2:Addr} {f1 f2:List Addr} (P:Apart z tI tO i1 i2 f1 f2):i2≠z∧i2≠tO∧i2≠tI:=⟨fun e=>P.z2 (e ▸ P.m2),fun e=>P.o2 (e ▸ P.m2),fun e=>P.t2 (e ▸ P.m2)⟩
theorem Jo {f:List Addr} {c:Addr} {h h':Heap} (hc:c∉f) (k:Heap.ExtBut c h h'):∀ b∈f,∀ o,h.get? b=some o→h'.get? b=some o:=fun b hb o e=>k b o (fun z=>hc (z ▸ hb)) e
variable {E:Value→Shared→Prop} {s:Shared} {z tI tO i1 i2:Addr} {f1 f2:List Addr} {n1 n2 k:Nat} {P1 P2:Nat→Value→Prop} {S1 S2:Nat→Heap→Prop} {p q:Value}
theorem Eo {Q:Value→Shared→Prop} (D1:Draws prog w A.in1 i1 f1 n1 P1 S1) (D2:Draws prog w A.in1 i2 f2 n2 P2 S2) (ap:Apart z tI tO i1 i2 f1 f2) (hz:IsZip s.heap z tI tO .none) (hI:IsPair s.heap tI (.ref i1) (.ref i2)) (hO:IsPair s.heap tO p q)
  (s1:S1 k s.heap) (s2:S2 k s.heap) (l1:k < n1) (l2:k < n2)
  (fin:∀ x y h' tk,P1 k x→P2 k y→IsZip h' z tI tO (rawInt s.heap.objs.size)→IsPair h' tO x y→S1 (k + 1) h'→S2 (k + 1) h'→IsPair h' s.heap.objs.size x y→(∀ c o,c≠z→c≠tO→c≠i1→c≠i2→s.heap.get? c=some o→h'.get? c=some o) →
   Q (.ref s.heap.objs.size) { s with heap:=h',toks:=tk}) :
  wpAny (model prog w) A.in1 (Builtin.«zip.__next__» ⟨[.ref z],[]⟩) (fun f s'=>∃ v,f=.done (.ret v)∧Q v s') E s:=by
 obtain ⟨u1,u2,u3,u4⟩:=ap.ne1
 obtain ⟨v1,v2,v3⟩:=ap.ne2
 refine (wpAny_bind (wpAny_field hz rfl (x:=.bool false) rfl ?_):wpAny _ _ (field (.ref z) 2 >>= _) _ _ _)
 refine (wpAny_bind (wpAny_field hz rfl (x:=.ref tI) rfl ?_):wpAny _ _ (field (.ref z) 3 >>= _) _ _ _)
 refine wpAny_bind (wpAny_seqItems hI rfl ?_)
 have free:∀ {R:Bool→Shared→Prop},R true s→wpAny (model prog w) A.in1 (Builtin.SmallTypes.ownedTupleIsFree (.ref z)) R E s:=fun r=>by
  unfold Builtin.SmallTypes.ownedTupleIsFree
  exact wpAny_bind (wpAny_field hz rfl (x:=.none) rfl (wpAny_pure r))
 refine (wpAny_bind (free ?_):wpAny _ _ (Builtin.SmallTypes.ownedTupleIsFree (.ref z) >>= _) _ _ _)
 simp only [if_true]
 refine wpAny_bind (wpAny_rule ?_)
 refine wpAny_bind (wpAny_field hz rfl (x:=.ref tO) rfl ?_)
 refine wpAny_bind (wpAny_setField_rec hz (by simp) fun g1 z1 k1=>wpAny_bind ?_)
 simp only [List.zipIdx_cons,List.zipIdx_nil,List.forIn_cons,List.forIn_nil]
 have a1:S1 k g1:=D1.frame _ _ _ s1 (Jo ap.z1 k1.extBut)
 have a2:S2 k g1:=D2.frame _ _ _ s2 (Jo ap.z2 k1.extBut)
 have aO:IsPair g1 tO p q:=k1.extBut _ _ ap.a.symm hO
 refine wpAny_bind (wpAny_bind (wpAny_onRaise ((wpAny_bind (D1.item k _ _ _ l1 a1 fun x g2 tk2 px b1 k2=>wpAny_pure ?_)):wpAny _ _ (Builtin.SmallTypes.nextOf (.ref i1) >>= _) _ _ _)))
 have b2:S2 k g2:=D2.frame _ _ _ a2 (Jo ap.x1 k2.extBut)
 have bO:IsPair g2 tO p q:=k2.extBut _ _ u2.symm aO
 refine wpAny_bind (wpAny_seqItems bO rfl (wpAny_bind (wpAny_updateSeq_pair bO fun g3 cO k3=>wpAny_bind (wpAny_letGo (wpAny_pure ?_)))))
 have cO':IsPair g3 tO x q:=cO
 have c1:S1 (k + 1) g3:=D1.frame _ _ _ b1 (Jo ap.o1 k3.extBut)
 have c2:S2 k g3:=D2.frame _ _ _ b2 (Jo ap.o2 k3.extBut)
 refine wpAny_bind (wpAny_bind (wpAny_onRaise ((wpAny_bind (D2.item k _ _ _ l2 c2 fun y g4 tk4 py d2 k4=>wpAny_pure ?_)):wpAny _ _ (Builtin.SmallTypes.nextOf (.ref i2) >>= _) _ _ _)))
 have d1:S1 (k + 1) g4:=D1.frame _ _ _ c1 (Jo ap.x2 k4.extBut)
 have dO:IsPair g4 tO x q:=k4.extBut _ _ v2.symm cO'
 refine wpAny_bind (wpAny_seqItems dO rfl (wpAny_bind (wpAny_updateSeq_pair dO fun g5 eO k5=>wpAny_bind (wpAny_letGo (wpAny_pure (wpAny_pure ?_))))))
 have eO':IsPair g5 tO x y:=eO
 have e1:S1 (k + 1) g5:=D1.frame _ _ _ d1 (Jo ap.o1 k5.extBut)
 have e2:S2 (k + 1) g5:=D2.frame _ _ _ d2 (Jo ap.o2 k5.extBut)
 have sz:g5.objs.size=s.heap.objs.size:=by rw [k5.1,k4.1,k3.1,k2.1,k1.1]
 have z5:IsZip g5 z tI tO .ellipsis:=k5.extBut _ _ ap.a (k4.extBut _ _ v1.symm (k3.extBut _ _ ap.a (k2.extBut _ _ u1.symm z1)))
 have old:∀ c o,c≠z→c≠tO→c≠i1→c≠i2→s.heap.get? c=some o→g5.get? c=some o:=fun c o n1 n2 n3 n4 e=>k5.extBut _ _ n2 (k4.extBut _ _ n4 (k3.extBut _ _ n2 (k2.extBut _ _ n3 (k1.extBut _ _ n1 e))))
 refine wpAny_bind (wpAny_seqItems eO' rfl (wpAny_bind (wpAny_newTuple ?_)))
 have z6:IsZip (g5.push { cls:=.type "tuple",data:=.seq #[x,y]}) z tI tO .ellipsis:=Heap.get?_push_of_some _ z5
 have out:∀ {R:Unit→Shared→Prop},(∀ g7,IsZip g7 z tI tO (rawInt g5.objs.size)→Heap.ExtBut z (g5.push { cls:=.type "tuple",data:=.seq #[x,y]}) g7→R () { s with heap:=g7,toks:=tk4}) →
   wpAny (model prog w) A.in1 (Builtin.SmallTypes.ownedTupleHandOut (.ref z) (.ref g5.objs.size)) R E { s with heap:=g5.push { cls:=.type "tuple",data:=.seq #[x,y]},toks:=tk4}:=fun r=>by
  unfold Builtin.SmallTypes.ownedTupleHandOut
  refine wpAny_bind (wpAny_setField_rec z6 (by simp) fun g7 z7 k7=>wpAny_setField_rec (show IsZip g7 z tI tO (rawInt g5.objs.size) from z7) (by simp) fun g8 z8 k8=>r g8 z8 fun c o hc e=>k8.extBut c o hc (k7.extBut c o hc e))
 show wpAny _ _ (Builtin.SmallTypes.ownedTupleHandOut (.ref z) (.ref g5.objs.size) >>= _) _ _ _
 refine wpAny_bind (out fun g7 z7 k7=>?_)
 refine wpAny_pure ⟨_,rfl,?_⟩
 have up:∀ c o,c≠z→g5.get? c=some o→g7.get? c=some o:=fun c o hc e=>k7 c o hc (Heap.get?_push_of_some _ e)
 have zlt:z < g5.objs.size:=Heap.lt_size z5
 show Q (.ref g5.objs.size) _
 rw [sz] at z7 ⊢
 refine fin x y g7 tk4 px py z7 (up _ _ ap.a.symm eO') (D1.frame _ _ _ e1 fun b hb o e=>up b o (fun zz=>ap.z1 (zz ▸ hb)) e) (D2.frame _ _ _ e2 fun b hb o e=>up b o (fun zz=>ap.z2 (zz ▸ hb)) e) ?_ fun c o n1 n2 n3 n4 e=>up c o n1 (old c o n1 n2 n3 n4 e)
 rw [← sz]
 exact k7 _ _ (Nat.ne_of_gt zlt) (Heap.get?_push_size _ rfl)
theorem Em {Q:PySem.Fin→Shared→Prop} (D1:Draws prog w A.in1 i1 f1 n1 P1 S1) (D2:Draws prog w A.in1 i2 f2 n2 P2 S2) (ap:Apart z tI tO i1 i2 f1 f2) (hz:IsZip s.heap z tI tO .none) (hI:IsPair s.heap tI (.ref i1) (.ref i2)) (hO:IsPair s.heap tO p q)
  (s1:S1 k s.heap) (s2:S2 k s.heap) (le1:k≤n1) (le2:k≤n2) (hend:k=n1∨k=n2)
  (fin:∀ h' e tk,(∀ c o,c≠z→c≠tO→c≠i1→c≠i2→s.heap.get? c=some o→h'.get? c=some o)→(∃ o,h'.get? e=some o∧o.cls=.type "StopIteration")→E (.ref e) { s with heap:=h',toks:=tk}) :
  wpAny (model prog w) A.in1 (Builtin.«zip.__next__» ⟨[.ref z],[]⟩) Q E s:=by
 obtain ⟨u1,u2,u3,u4⟩:=ap.ne1
 obtain ⟨v1,v2,v3⟩:=ap.ne2
 refine (wpAny_bind (wpAny_field hz rfl (x:=.bool false) rfl ?_):wpAny _ _ (field (.ref z) 2 >>= _) _ _ _)
 refine (wpAny_bind (wpAny_field hz rfl (x:=.ref tI) rfl ?_):wpAny _ _ (field (.ref z) 3 >>= _) _ _ _)
 refine wpAny_bind (wpAny_seqItems hI rfl ?_)
 have free:∀ {R:Bool→Shared→Prop},R true s→wpAny (model prog w) A.in1 (Builtin.SmallTypes.ownedTupleIsFree (.ref z)) R E s:=fun r=>by
  unfold Builtin.SmallTypes.ownedTupleIsFree
  exact wpAny_bind (wpAny_field hz rfl (x:=.none) rfl (wpAny_pure r))
 refine (wpAny_bind (free ?_):wpAny _ _ (Builtin.SmallTypes.ownedTupleIsFree (.ref z) >>= _) _ _ _)
 simp only [if_true]
 refine wpAny_bind (wpAny_rule ?_)
 refine wpAny_bind (wpAny_field hz rfl (x:=.ref tO) rfl ?_)
 refine wpAny_bind (wpAny_setField_rec hz (by simp) fun g1 z1 k1=>wpAny_bind ?_)
 simp only [List.zipIdx_cons,List.zipIdx_nil,List.forIn_cons,List.forIn_nil]
 have a1:S1 k g1:=D1.frame _ _ _ s1 (Jo ap.z1 k1.extBut)
 have a2:S2 k g1:=D2.frame _ _ _ s2 (Jo ap.z2 k1.extBut)
 have aO:IsPair g1 tO p q:=k1.extBut _ _ ap.a.symm hO
 have pass:∀ {g:Heap} {e:Addr} {tk:Nat},IsZip g z tI tO .ellipsis→(∃ o,g.get? e=some o∧o.cls=.type "StopIteration")→(∀ c o,c≠z→c≠tO→c≠i1→c≠i2→s.heap.get? c=some o→g.get? c=some o) →
   wpAny (model prog w) A.in1 (setField (.ref z) 0 .none) (fun _ s'=>E (.ref e) s') E { s with heap:=g,toks:=tk}:=fun {g e tk} zg he kg=>by
  obtain ⟨oe,ee,ce⟩:=he
  have nez:e≠z:=fun x=>by rw [x,zg] at ee;cases ee;simp at ce
  exact wpAny_setField_rec zg (by simp) fun g' _ k'=>fin g' e tk (fun c o m1 m2 m3 m4 x=>k'.extBut _ _ m1 (kg c o m1 m2 m3 m4 x)) ⟨oe,k'.extBut _ _ nez ee,ce⟩
 by_cases h1:k=n1
 ·subst h1
  refine wpAny_bind (wpAny_bind (wpAny_onRaise ((wpAny_bind (D1.done _ _ _ a1 fun g2 e k2 he=>?_)):wpAny _ _ (Builtin.SmallTypes.nextOf (.ref i1) >>= _) _ _ _)))
  exact pass (tk:=s.toks) (k2 _ _ u1.symm z1) he fun c o m1 m2 m3 m4 x=>k2 _ _ m3 (k1.extBut _ _ m1 x)
 ·have h2:k=n2:=hend.resolve_left h1
  subst h2
  refine wpAny_bind (wpAny_bind (wpAny_onRaise ((wpAny_bind (D1.item k _ _ _ (by omega) a1 fun x g2 tk2 px b1 k2=>wpAny_pure ?_)):wpAny _ _ (Builtin.SmallTypes.nextOf (.ref i1) >>= _) _ _ _)))
  have b2:S2 k g2:=D2.frame _ _ _ a2 (Jo ap.x1 k2.extBut)
  have bO:IsPair g2 tO p q:=k2.extBut _ _ u2.symm aO
  refine wpAny_bind (wpAny_seqItems bO rfl (wpAny_bind (wpAny_updateSeq_pair bO fun g3 cO k3=>wpAny_bind (wpAny_letGo (wpAny_pure ?_)))))
  have c2:S2 k g3:=D2.frame _ _ _ b2 (Jo ap.o2 k3.extBut)
  refine wpAny_bind (wpAny_bind (wpAny_onRaise ((wpAny_bind (D2.done _ _ _ c2 fun g4 e k4 he=>?_)):wpAny _ _ (Builtin.SmallTypes.nextOf (.ref i2) >>= _) _ _ _)))
  exact pass (tk:=tk2) (k4 _ _ v1.symm (k3.extBut _ _ ap.a (k2.extBut _ _ u1.symm z1))) he fun c o m1 m2 m3 m4 x=>k4 _ _ m4 (k3.extBut _ _ m2 (k2.extBut _ _ m3 (k1.extBut _ _ m1 x)))
end
section
variable {X:Cx} {pins:List (Addr×Obj)} {σ:L2.St} {H:Hp} {s:Shared} {h':Heap} {fp:List Addr}
theorem k9 {vs:List V} {us:List Value} {t':Nat} (I:Inv X pins σ H s) (hf:∀ b∈fp,Yw X pins H b) (hk:∀ b o,b∉fp→s.heap.get? b=some o→h'.get? b=some o) (rv:jq vs us) (hz:vs.length≤sizeLine) (hT:IsTup h' s.heap.objs.size us.toArray) :
  Inv X pins σ (upd H s.heap.objs.size (.tup vs)) { s with heap:=h',toks:=t'}:=by
 have hn:H s.heap.objs.size=none:=I.fresh
 have nfp:∀ b o,H b=some o→b∉fp:=fun b o e z=>by rw [(hf b z).1] at e;cases e
 refine I.step (g':=s.gens) (d':=s.drawn) (ch:=fp) (fun b hb=>⟨(hf b hb).2.2.2.1,(hf b hb).2.1,(hf b hb).2.2.2.2.1,(hf b hb).2.2.2.2.2⟩) (fun b o _ _ hc e _=>hk b o hc e) (fun b o _ _ hc e _=>⟨o.slots,hk b o hc e⟩)
  (fun b o _ e n=>by rw [j9 (Nat.ne_of_lt (Heap.lt_size e))];exact n) (fun b o hc e=>⟨o,hk b o hc e⟩) (fun b xs e=>by rw [j9 (jt e hn)];exact e) (fun b o xs e=>by rw [j9 (jt e hn)];exact e)
  (fun b ps e=>⟨#[],by rw [j9 (jt e hn),e];simp⟩) (fun m hm=>?_) (fun b u e=>?_) I.bare
 ·obtain ⟨o,es,ep,e,r⟩:=hm
  exact ⟨o,es,ep,hk _ o (fun z=>(hf _ z).2.1 rfl) e,r⟩
 ·by_cases hb:b=s.heap.objs.size
  ·subst hb
   rw [js] at e
   cases e
   exact ⟨hz,us,rv,hT⟩
  ·rw [j9 hb] at e
   refine (I.hok b u e).stay (fun c v hc q=>hk c v ?_ q) (fun c q=>by rw [j9 (jt q hn)];exact q) fun c xs q=>by rw [j9 (jt q hn)];exact q
   rcases hc with rfl | hc
   ·exact nfp _ _ e
   ·exact nfp _ _ hc
theorem k6 {t':Nat} (I:Inv X pins σ H s) (hf:∀ b∈fp,Yw X pins H b) (hk:∀ b o,b∉fp→s.heap.get? b=some o→h'.get? b=some o):Inv X pins σ H { s with heap:=h',toks:=t'}:=by
 have nfp:∀ b o,H b=some o→b∉fp:=fun b o e z=>by rw [(hf b z).1] at e;cases e
 refine I.step (g':=s.gens) (d':=s.drawn) (ch:=fp) (fun b hb=>⟨(hf b hb).2.2.2.1,(hf b hb).2.1,(hf b hb).2.2.2.2.1,(hf b hb).2.2.2.2.2⟩) (fun b o _ _ hc e _=>hk b o hc e) (fun b o _ _ hc e _=>⟨o.slots,hk b o hc e⟩)
  (fun b o _ e n=>n) (fun b o hc e=>⟨o,hk b o hc e⟩) (fun b xs e=>e) (fun b o xs e=>e) (fun b ps e=>⟨#[],by rw [e];simp⟩) (fun m hm=>?_) (fun b u e=>?_) I.bare
 ·obtain ⟨o,es,ep,e,r⟩:=hm
  exact ⟨o,es,ep,hk _ o (fun z=>(hf _ z).2.1 rfl) e,r⟩
 ·refine (I.hok b u e).stay (fun c v hc q=>hk c v ?_ q) (fun c q=>q) fun c xs q=>q
  rcases hc with rfl | hc
  ·exact nfp _ _ e
  ·exact nfp _ _ hc
end
end M
set_option Elab.async false
set_option linter.all false
set_option maxRecDepth 100000
set_option maxHeartbeats 4000000
namespace M
open PySem PySem.Spec PyProof.Rows L2
noncomputable def SqB (K:PySem.W.Frag) (b:Bool) (H:Hp) (a:Addr) (xs:List V):Prop:=match b with
 | true=>SqT K H a xs
 | false=>SqL K H a xs
noncomputable def SqH (b:Bool) (h:Heap) (a:Addr) (xs:Array Value):Prop:=match b with
 | true=>h.IsTuple a xs
 | false=>h.IsList a xs
noncomputable def ItH (b:Bool) (h:Heap) (it a:Addr) (k:Nat):Prop:=match b with
 | true=>h.IsTupleIter it a k
 | false=>h.IsListIter it a k
noncomputable abbrev Va (b:Bool) (a:Addr):Obj:={ cls:=.type (match b with | true=>"tuple_iterator" | false=>"list_iterator"),data:=.fields #[.ref a,.int 0 0]}
theorem SqB.mono {K:PySem.W.Frag} {b:Bool} {H H':Hp} {a:Addr} {xs:List V} (x:SqB K b H a xs) (e:jr H H'):SqB K b H' a xs:=by
 cases b
 ·exact e.seq x
 ·exact jr.tup e x
theorem Inv.sqB {X:Cx} {pins:List (Addr×Obj)} {σ:L2.St} {H:Hp} {s:Shared} {b:Bool} {a:Addr} {xs:List V} (I:L2.Inv X pins σ H s) (h:SqB X.K b H a xs):∃ its:List Value,jq xs its∧SqH b s.heap a its.toArray:=by
 cases b
 ·obtain ⟨its,r,p,_⟩:=I.list h
  exact ⟨its,r,p.isList⟩
 ·obtain ⟨its,r,p,_⟩:=I.tuple h
  exact ⟨its,r,p⟩
theorem G4 {X:Cx} {pins:List (Addr×Obj)} {σ:L2.St} {H:Hp} {s:Shared} {b:Bool} {a:Addr} {xs ys:List V} (I:L2.Inv X pins σ H s) (h:SqB X.K b H a xs) (h':SqB X.K b H a ys):xs=ys:=by
 cases b
 ·exact I.list_inj h h'
 ·exact I.tuple_inj h h'
theorem SqH.lt {b:Bool} {h:Heap} {a:Addr} {xs:Array Value} (x:SqH b h a xs):a < h.objs.size:=by
 cases b
 ·obtain ⟨o,e,_⟩:=x;exact Heap.lt_size e
 ·obtain ⟨o,e,_⟩:=x;exact Heap.lt_size e
theorem SqH.kept {b:Bool} {h h':Heap} {a:Addr} {xs:Array Value} (x:SqH b h a xs) (k:∀ o,h.get? a=some o→h'.get? a=some o):SqH b h' a xs:=by
 cases b
 ·obtain ⟨o,e,r⟩:=x;exact ⟨o,k o e,r⟩
 ·obtain ⟨o,e,r⟩:=x;exact ⟨o,k o e,r⟩
theorem ItH.kept {b:Bool} {h h':Heap} {it a:Addr} {k:Nat} (x:ItH b h it a k) (kk:∀ o,h.get? it=some o→h'.get? it=some o):ItH b h' it a k:=by
 cases b
 ·obtain ⟨o,e,r⟩:=x;exact ⟨o,kk o e,r⟩
 ·obtain ⟨o,e,r⟩:=x;exact ⟨o,kk o e,r⟩
theorem ItH.ob {b:Bool} {h:Heap} {it a:Addr} {k:Nat} (x:ItH b h it a k):∃ o,h.get? it=some o∧∀ v,o.data≠.cell v:=by
 cases b
 ·obtain ⟨o,e,c,d⟩:=x;exact ⟨o,e,fun v z=>by rw [d] at z;cases z⟩
 ·obtain ⟨o,e,c,d⟩:=x;exact ⟨o,e,fun v z=>by rw [d] at z;cases z⟩
theorem v9 {prog:Program} {w:World} {A:Around} (b:Bool) (hh:A.handled=none) (it a:Addr) (hne:a≠it) (xs:Array Value):Draws prog w A it [it,a] xs.size (fun i v=>xs[i]? =some v) (fun i h=>ItH b h it a i∧SqH b h a xs):=by
 cases b
 ·exact Draws.list hh it a hne xs
 ·exact E2 hh it a hne xs
theorem Gw {prog:Program} {w:World} {A:Around} {E:Value→Shared→Prop} {s:Shared} {b:Bool} {a:Addr} {xs:Array Value} {Q:Value→Shared→Prop} (h:SqH b s.heap a xs) (q:Q (.ref s.heap.objs.size) { s with heap:=s.heap.push (Va b a)}):wpAny (model prog w) A (pyIter (.ref a)) Q E s:=by
 cases b
 ·exact wpAny_pyIter_list h q
 ·exact wpAny_pyIter_tuple h q
theorem wr {b:Bool} {h:Heap} {a:Addr}:ItH b (h.push (Va b a)) h.objs.size a 0:=by
 cases b
 ·exact ⟨_,Heap.get?_push_size _ rfl,rfl,rfl⟩
 ·exact ⟨_,Heap.get?_push_size _ rfl,rfl,rfl⟩
noncomputable abbrev zp1 (h:Heap) (b1:Bool) (l1:Addr):Heap:=h.push (Va b1 l1)
noncomputable abbrev zp2 (h:Heap) (b1 b2:Bool) (l1 l2:Addr):Heap:=(zp1 h b1 l1).push (Va b2 l2)
noncomputable abbrev zp3 (h:Heap) (b1 b2:Bool) (l1 l2:Addr):Heap:=(zp2 h b1 b2 l1 l2).push { cls:=.type "tuple",data:=.seq #[.ref h.objs.size,.ref (zp1 h b1 l1).objs.size]}
noncomputable abbrev zp4 (h:Heap) (b1 b2:Bool) (l1 l2:Addr):Heap:=(zp3 h b1 b2 l1 l2).push { cls:=.type "tuple",data:=.seq #[.none,.none]}
noncomputable abbrev zp5 (h:Heap) (b1 b2:Bool) (l1 l2:Addr):Heap:=(zp4 h b1 b2 l1 l2).push { cls:=.type "zip",data:=.fields #[.none,.bool false,.bool false,.ref (zp2 h b1 b2 l1 l2).objs.size,.ref (zp3 h b1 b2 l1 l2).objs.size]}
theorem F8 (b1 b2:Bool) (l1 l2:Addr) (xs ys:Array Value) :
  PySem.Meets (Builtin.«zip.__new__» ⟨[.type "zip",.ref l1,.ref l2],[]⟩) (fun _ R s=>SqH b1 s.heap l1 xs∧SqH b2 s.heap l2 ys∧R (.ok (.ret (.ref (zp4 s.heap b1 b2 l1 l2).objs.size))) { s with heap:=zp5 s.heap b1 b2 l1 l2}) :=
 .of_wp fun prog w A R s h=>by
  obtain ⟨hp,g,d,tk,os⟩:=s
  obtain ⟨q1,q2,q⟩:=h
  have sub:=sub_zip
  have e1:SqH b1 (Shared.heap ⟨hp,g,d,tk,os⟩) l1 xs:=q1
  have e2:SqH b2 (Shared.heap ⟨hp.push (Va b1 l1),g,d,tk,os⟩) l2 ys:=q2.kept fun o e=>Heap.get?_push_of_some _ e
  wp_walk using Gw e1,Gw e2
  exact ⟨_,rfl,q⟩
end M
set_option Elab.async false
set_option linter.all false
set_option maxRecDepth 100000
set_option maxHeartbeats 4000000
namespace M
open PySem PySem.Spec PyProof.Rows L2
noncomputable def Itz (K:PySem.W.Frag) (b1 b2:Bool) (l1 l2:Addr):It :=
  ⟨fun i H=>∃ xs ys x y,SqB K b1 H l1 xs∧SqB K b2 H l2 ys∧xs[i]? =some x∧ys[i]? =some y,
   fun i H v H'=>∃ p x y,v=.ref p∧H p=none∧(∀ xs,SqB K b1 H l1 xs→xs[i]? =some x)∧(∀ ys,SqB K b2 H l2 ys→ys[i]? =some y)∧H'=upd H p (.tup [x,y]),
   fun i H=>∃ xs ys,SqB K b1 H l1 xs∧SqB K b2 H l2 ys∧i≤xs.length∧i≤ys.length∧(i=xs.length∨i=ys.length)⟩
noncomputable def aj4 (b1 b2:Bool) (z tI tO i1 i2 l1 l2:Addr) (i:Nat) (h:Heap):Prop:=∃ p q,IsZip h z tI tO .none∧IsPair h tI (.ref i1) (.ref i2)∧IsPair h tO p q∧ItH b1 h i1 l1 i∧ItH b2 h i2 l2 i
theorem d8 {P:Program} {w:World} {K:PySem.W.Frag} {elts:List Expr} {x1:Nat} {tpos:Pos} {b1 b2:Bool} {z tI tO i1 i2 l1 l2:Addr} (ap:Apart z tI tO i1 i2 [i1,l1] [i2,l2]) (n1:l1≠i1) (n2:l2≠i2) :
  Turn P w K (.Tuple elts x1 tpos) (Itz K b1 b2 l1 l2) [z,tI,tO,i1,i2] z (aj4 b1 b2 z tI tO i1 i2 l1 l2) where
 mem:=by simp
 obj:=fun i h st b hb=>by
  obtain ⟨p,q,hz,hI,hO,h1,h2⟩:=st
  simp only [List.mem_cons,List.not_mem_nil,or_false] at hb
  rcases hb with rfl | rfl | rfl | rfl | rfl
  ·exact ⟨_,hz,fun v e=>by cases e⟩
  ·exact ⟨_,hI,fun v e=>by cases e⟩
  ·exact ⟨_,hO,fun v e=>by cases e⟩
  ·exact h1.ob
  ·exact h2.ob
 keep:=fun i h h' st k=>by
  obtain ⟨p,q,hz,hI,hO,h1,h2⟩:=st
  exact ⟨p,q,k z (by simp) _ hz,k tI (by simp) _ hI,k tO (by simp) _ hO,h1.kept (k i1 (by simp)),h2.kept (k i2 (by simp))⟩
 item:=by
  intro X hP hw hK hc i pins s σ H E I hf st hg
  subst hP hw hK
  obtain ⟨p,q,hz,hI,hO,h1,h2⟩:=st
  obtain ⟨xs,ys,x,y,q1,q2,ex,ey⟩:=hg
  obtain ⟨us,r1,g1⟩:=Inv.sqB I q1
  obtain ⟨ws,r2,g2⟩:=Inv.sqB I q2
  have hh:X.A.in1.handled=none:=I.ok.hd hc
  have lx:i < us.toArray.size:=by
   have:=(List.getElem?_eq_some_iff.mp ex).1
   simp only [List.size_toArray,← r1.length];exact this
  have ly:i < ws.toArray.size:=by
   have:=(List.getElem?_eq_some_iff.mp ey).1
   simp only [List.size_toArray,← r2.length];exact this
  have hT:s.TypeIs (.ref z) "zip":=⟨_,hz,rfl⟩
  unfold pyNext
  refine wpAny_bind (wpAny_attempt (wpAny_callSpecial?_slot (name:="__next__") hT PySem.F.slot_zip_next (wpAny_call_entry PySem.F.slot_zip_next hT PySem.F.entry_zip_next (Eo (v9 b1 hh i1 l1 n1 us.toArray) (v9 b2 hh i2 l2 n2 ws.toArray) ap hz hI hO ⟨h1,g1⟩ ⟨h2,g2⟩ lx ly fun a c h' tk pa pc z' O' t1 t2 T' kp=>wpAny_pure ?_) (PySem.F.args_zip_next_1 _))))
  refine ⟨_,rfl,wpAny_letOwnedTupleGo_zip z' fun h'' z'' sb=>?_⟩
  have fz:s.heap.objs.size≠z:=Nat.ne_of_gt (Heap.lt_size hz)
  have kp':∀ b o,b∉[z,tI,tO,i1,i2]→s.heap.get? b=some o→h''.get? b=some o:=fun b o hb e=>by
   simp only [List.mem_cons,List.not_mem_nil,or_false,not_or] at hb
   exact sb.extBut b o hb.1 (kp b o hb.1 hb.2.2.1 hb.2.2.2.1 hb.2.2.2.2 e)
  obtain ⟨a',ea,ra⟩:=r1.get ex
  obtain ⟨c',ec,rc⟩:=r2.get ey
  have pa':a=a':=by
   have:us.toArray[i]? =some a:=pa
   simp only [List.getElem?_toArray] at this
   rw [ea] at this
   exact (Option.some.inj this).symm
  have pc':c=c':=by
   have:ws.toArray[i]? =some c:=pc
   simp only [List.getElem?_toArray] at this
   rw [ec] at this
   exact (Option.some.inj this).symm
  subst pa' pc'
  have T'':h''.get? s.heap.objs.size=some { cls:=.type "tuple",data:=.seq #[a,c]}:=sb.extBut _ _ fz T'
  have I':=k9 (t':=tk) I hf kp' (vs:=[x,y]) (us:=[a,c]) (.cons ra (.cons rc .nil)) (by rw [sizeLine_eq];show 2≤16777216;decide) ⟨_,T'',rfl,_,rfl⟩
  refine ⟨.ref s.heap.objs.size,_,I',rfl,⟨_,x,y,rfl,I.fresh,fun xs' hx=>by rw [G4 I hx q1];exact ex,fun ys' hy=>by rw [G4 I hy q2];exact ey,rfl⟩,?_,fun b hb=>?_⟩
  ·have hI':IsPair h' tI (.ref i1) (.ref i2):=kp _ _ ap.b.symm ap.c ap.ne1.2.2.2.symm ap.ne2.2.2.symm hI
   exact ⟨a,c,z'',sb.extBut _ _ ap.b.symm hI',sb.extBut _ _ ap.a.symm O',t1.1.kept fun o e=>sb.extBut _ _ ap.ne1.1 e,t2.1.kept fun o e=>sb.extBut _ _ ap.ne2.1 e⟩
  ·have:b < s.heap.objs.size:=by
    simp only [List.mem_cons,List.not_mem_nil,or_false] at hb
    rcases hb with rfl | rfl | rfl | rfl | rfl
    ·exact Heap.lt_size hz
    ·exact Heap.lt_size hI
    ·exact Heap.lt_size hO
    ·obtain ⟨o,e,_⟩:=h1.ob;exact Heap.lt_size e
    ·obtain ⟨o,e,_⟩:=h2.ob;exact Heap.lt_size e
   rw [j9 (Nat.ne_of_lt this)]
   exact (hf b hb).1
 done:=by
  intro X hP hw hK hc i pins s σ H E I hf st hg
  subst hP hw hK
  obtain ⟨p,q,hz,hI,hO,h1,h2⟩:=st
  obtain ⟨xs,ys,q1,q2,le1,le2,hend⟩:=hg
  obtain ⟨us,r1,g1⟩:=Inv.sqB I q1
  obtain ⟨ws,r2,g2⟩:=Inv.sqB I q2
  have hh:X.A.in1.handled=none:=I.ok.hd hc
  have hT:s.TypeIs (.ref z) "zip":=⟨_,hz,rfl⟩
  unfold pyNext
  refine wpAny_bind (wpAny_attempt (wpAny_callSpecial?_slot (name:="__next__") hT PySem.F.slot_zip_next (wpAny_call_entry PySem.F.slot_zip_next hT PySem.F.entry_zip_next (Em (k:=i) (v9 b1 hh i1 l1 n1 us.toArray) (v9 b2 hh i2 l2 n2 ws.toArray) ap hz hI hO ⟨h1,g1⟩ ⟨h2,g2⟩ (by simp only [List.size_toArray,← r1.length];exact le1) (by simp only [List.size_toArray,← r2.length];exact le2)
   (by simp only [List.size_toArray,← r1.length,← r2.length];exact hend) fun h' e tk kp he=>?_) (PySem.F.args_zip_next_1 _))))
  obtain ⟨o,eo,co⟩:=he
  refine wpAny_bind (wpAny_isInstance (T:="StopIteration") (b:=true) ⟨o,eo,co⟩ isSubtype_stop (wpAny_pure ⟨rfl,?_⟩))
  exact k6 (t':=tk) I hf fun b o hb e=>by
   simp only [List.mem_cons,List.not_mem_nil,or_false,not_or] at hb
   exact kp b o hb.1 hb.2.2.1 hb.2.2.2.1 hb.2.2.2.2 e
 self:=fun A i s Q E st h=>by
  obtain ⟨p,q,hz,_⟩:=st
  exact wpAny_pyIter_zip hz h
noncomputable def pairD (xs ys:List D):List D:=(xs.zip ys).map fun p=>.tup [p.1,p.2]
theorem w8:∀ (xs ys:List D) (i:Nat),(pairD xs ys)[i]? =match xs[i]?,ys[i]? with
  | some x,some y=>some (.tup [x,y])
  | _,_=>none
 | [],ys,i=>by simp [pairD]
 | x::xs,[],i=>by
  simp only [pairD,List.zip_nil_right,List.map_nil,List.getElem?_nil]
  cases (x::xs)[i]? <;> rfl
 | x::xs,y::ys,0=>rfl
 | x::xs,y::ys,i + 1=>by
  have:=w8 xs ys i
  simpa [pairD] using this
theorem Fg (xs ys:List D):(pairD xs ys).length=min xs.length ys.length:=by simp [pairD]
theorem Ej {K:PySem.W.Frag} {F:Hp} {α:List Addr} {b1 b2:Bool} {l1 l2:Addr} {xs ys:List D} {us vs:List V} (h1:SqB K b1 F l1 us) (r1:Reps K F α xs us) (h2:SqB K b2 F l2 vs) (r2:Reps K F α ys vs):uf K α F (Itz K b1 b2 l1 l2) (pairD xs ys):=by
 intro Z α' F' H' μ' R e i
 have g1:SqB K b1 H' l1 us:=h1.mono (e.fr.trans R.sub)
 have g2:SqB K b2 H' l2 vs:=h2.mono (e.fr.trans R.sub)
 have e1:=r1.length
 have e2:=r2.length
 rw [Fg]
 refine ⟨fun hi=>?_,fun hi=>⟨us,vs,g1,g2,by omega,by omega,by omega⟩⟩
 obtain ⟨u,a1,a2⟩:=r1.get (List.getElem?_eq_getElem (show i < xs.length by omega))
 obtain ⟨v,c1,c2⟩:=r2.get (List.getElem?_eq_getElem (show i < ys.length by omega))
 refine ⟨⟨us,vs,u,v,g1,g2,a1,c1⟩,fun x H2 y=>?_⟩
 obtain ⟨p,x',y',rfl,hp,m1,m2,rfl⟩:=y
 have k1:=m1 us g1
 rw [a1] at k1
 cases k1
 have k2:=m2 vs g2
 rw [c1] at k2
 cases k2
 obtain ⟨R2,s2,p2⟩:=zj R (j2 (a2.mono e) (j2 (c2.mono e) j6)) hp
 refine ⟨_,_,?_,R2,s2,p2⟩
 rw [w8,List.getElem?_eq_getElem (show i < xs.length by omega),List.getElem?_eq_getElem (show i < ys.length by omega)]
theorem Er (n l1 l2:Nat) (h1:l1 < n) (h2:l2 < n):Apart (n + 4) (n + 2) (n + 3) n (n + 1) [n,l1] [n + 1,l2]:=by
 have nat:∀ {a b:Nat},a≠b→ @Ne Addr a b:=fun h=>h
 constructor
 ·exact nat (by omega)
 ·exact nat (by omega)
 ·exact nat (by omega)
 all_goals first
  | exact List.mem_cons_self
  | (refine List.not_mem_cons_of_ne_of_not_mem (nat (by omega)) (List.not_mem_cons_of_ne_of_not_mem (nat (by omega)) List.not_mem_nil))
theorem Kg {n l:Nat} (h:l < n):@Ne Addr l (n + 1):=fun e=>by
 have e':l=n + 1:=e
 omega
noncomputable def gn (b:Bool) (d:D):Option (List D):=match b,d with
 | true,.tup xs=>some xs
 | false,.lst xs=>some xs
 | _,_=>none
noncomputable def Wr (b1 b2:Bool) (ma mb:MX):MIt:=fun ρ μ=>(ma ρ μ).bind fun x μ1=>(mb ρ μ1).bind fun y μ2=>ofO μ2 ((gn b1 x).bind fun xs=>(gn b2 y).map fun ys=>pairD xs ys)
theorem K0 {K:PySem.W.Frag} {F:Hp} {α:List Addr} {b:Bool} {d:D} {v:V} {xs:List D} (h:gn b d=some xs) (r:Rep K F α d v):∃ a vs,v=.ref a∧SqB K b F a vs∧Reps K F α xs vs:=by
 cases b <;> cases d <;> first | (cases h;done) | skip
 ·cases h
  unfold Rep at r
  exact r
 ·cases h
  unfold Rep at r
  exact r
section
variable {X:Cx} {EX:EXT} {a b:Expr} {pos p tpos:Pos} {ma mb:MX} {elts:List Expr} {x1:Nat}
theorem Db (b1 b2:Bool) (hg:Gl X "zip") (hm:X.mg "zip"=none) (ha:ME X EX a ma) (hb:ME X EX b mb) (hs:starEach [a,b] X.env=[(false,eval a X.env),(false,eval b X.env)]:=by rfl) (hs2:starEach [b] X.env=[(false,eval b X.env)]:=by rfl) :
  MI X EX (.Tuple elts x1 tpos) (.Call (.Name "zip" p) [a,b] [] pos) (Wr b1 b2 ma mb):=by
 obtain ⟨t,pt,st,lt⟩:=ma_cons ha (ma_cons hb ma_nil hs2) (by rw [hs,hs2])
 refine ⟨fun σ H R=>∀ pins s,Inv X pins σ H s→wpAny (model X.prog X.w) X.A (eval (.Call (.Name "zip" p) [a,b] [] pos) X.env) (fun v s1=>wpAny (model X.prog X.w) X.A (pyIter v) (PIE X pins σ (.Tuple elts x1 tpos) R) X.xe s1) X.xe s,fun pins s σ H R I h=>h pins s I,fun Z α F H σ ρ μ Rr R g pins s I=>?_⟩
 have hw:t σ H fun vs H1=>∃ x y α1 F1 μ1 xs ys,RH X.K Z α1 F1 H1 μ1∧Ext α F α1 F1∧Reps X.K F1 α1 [x,y] vs∧gn b1 x=some xs∧gn b2 y=some ys∧(∀ J α' F' H',RH X.K Z α' F' H' μ1→Ext α F α' F'→uf X.K α' F' J (pairD xs ys)→Rr J H'):=by
  refine st Z α F H σ ρ μ _ R ?_
  unfold Wr at g
  unfold mCons
  cases h1:ma ρ μ with
  | exc x μ1=>rw [h1] at g;exact g
  | bad=>rw [h1] at g;exact g
  | ok x μ1 =>
   rw [h1] at g
   simp only [bind_ok] at g ⊢
   cases h2:mb ρ μ1 with
   | exc x μ1=>rw [h2] at g;exact g
   | bad=>rw [h2] at g;exact g
   | ok y μ2 =>
    rw [h2] at g
    simp only [bind_ok,mNil] at g ⊢
    intro vs α1 F1 H1 R1 e1 r1
    cases q1:gn b1 x with
    | none=>rw [q1] at g;exact g.elim
    | some xs =>
     cases q2:gn b2 y with
     | none=>rw [q1,q2] at g;exact g.elim
     | some ys =>
      rw [q1,q2] at g
      exact ⟨x,y,α1,F1,μ2,xs,ys,R1,e1,r1,q1,q2,g⟩
 refine Call_ (Y9 I hg hm PyProof.Rows.boot_zip (PyProof.Rows.callWith_type1 (thn (pt pos pins s σ H _ I hw) fun us s1 ⟨vs,H1,I1,rr,q⟩=>?_) (by rw [hs,hs2]) (by rw [hs2];rfl)))
 obtain ⟨x,y,α1,F1,μ1,xs,ys,R1,e1,r1,q1,q2,fin⟩:=q
 obtain ⟨v,u,rfl,p1,p2⟩:=r1.two
 obtain ⟨u1,u2,rfl,rv,ru⟩:=V1 rr
 obtain ⟨l1,v1,rfl,g1,h1⟩:=K0 q1 p1
 obtain ⟨l2,v2,rfl,g2,h2⟩:=K0 q2 p2
 cases rv
 cases ru
 obtain ⟨w1,k1,z1⟩:=Inv.sqB I1 (g1.mono R1.sub)
 obtain ⟨w2,k2,z2⟩:=Inv.sqB I1 (g2.mono R1.sub)
 refine callType_new PySem.F.called_zip (by decide) (PySem.F.typeCall_zip_2 _ _) (PySem.F.newCall_zip_2 _ _) (fun obj=>PySem.F.args_object_init_3 obj _ _) PySem.F.entry_zip_new (F8 b1 b2 l1 l2 w1.toArray w2.toArray) ⟨z1,z2,?_⟩
 have n1:(zp1 s1.heap b1 l1).objs.size=s1.heap.objs.size + 1:=Heap.size_push ..
 have n2:(zp2 s1.heap b1 b2 l1 l2).objs.size=s1.heap.objs.size + 2:=by rw [Heap.size_push,n1]
 have n3:(zp3 s1.heap b1 b2 l1 l2).objs.size=s1.heap.objs.size + 3:=by rw [Heap.size_push,n2]
 have n4:(zp4 s1.heap b1 b2 l1 l2).objs.size=s1.heap.objs.size + 4:=by rw [Heap.size_push,n3]
 have kp:∀ c o,s1.heap.get? c=some o→(zp5 s1.heap b1 b2 l1 l2).get? c=some o:=fun c o e=>Heap.get?_push_of_some _ (Heap.get?_push_of_some _ (Heap.get?_push_of_some _ (Heap.get?_push_of_some _ (Heap.get?_push_of_some _ e))))
 have c5:(zp5 s1.heap b1 b2 l1 l2).get? (zp4 s1.heap b1 b2 l1 l2).objs.size=some _:=Heap.get?_push_size _ rfl
 have c4:(zp5 s1.heap b1 b2 l1 l2).get? (zp3 s1.heap b1 b2 l1 l2).objs.size=some _:=Heap.get?_push_of_some _ (Heap.get?_push_size _ rfl)
 have c3:(zp5 s1.heap b1 b2 l1 l2).get? (zp2 s1.heap b1 b2 l1 l2).objs.size=some _:=Heap.get?_push_of_some _ (Heap.get?_push_of_some _ (Heap.get?_push_size _ rfl))
 have t2:ItH b2 (zp5 s1.heap b1 b2 l1 l2) (zp1 s1.heap b1 l1).objs.size l2 0:=(wr (h:=zp1 s1.heap b1 l1)).kept fun o e=>Heap.get?_push_of_some _ (Heap.get?_push_of_some _ (Heap.get?_push_of_some _ e))
 have t1:ItH b1 (zp5 s1.heap b1 b2 l1 l2) s1.heap.objs.size l1 0:=(wr (h:=s1.heap)).kept fun o e=>Heap.get?_push_of_some _ (Heap.get?_push_of_some _ (Heap.get?_push_of_some _ (Heap.get?_push_of_some _ e)))
 rw [n1] at t2 c3
 rw [n2] at c3
 rw [n3] at c4
 rw [n2,n3,n4] at c5
 have a1:=z1.lt
 have a2:=z2.lt
 show _∧_
 rw [n4]
 refine ⟨⟨_,c5,rfl⟩,?_⟩
 refine wpAny_pyIter_zip (s:={ s1 with heap:=zp5 s1.heap b1 b2 l1 l2}) c5 ?_
 have ap:=Er s1.heap.objs.size l1 l2 a1 a2
 have I5:Inv X pins σ H1 { s1 with heap:=zp5 s1.heap b1 b2 l1 l2}:=I1.kept (t':=s1.toks) kp
 refine ⟨s1.heap.objs.size + 4,_,_,Itz X.K b1 b2 l1 l2,H1,rfl,I5,d8 ap (Nat.ne_of_lt a1) (Kg a2),⟨_,_,c5,c3,c4,t1,t2⟩,fun b hb=>?_,fin _ α1 F1 H1 R1 e1 (Ej g1 h1 g2 h2)⟩
 have hb':s1.heap.objs.size≤b:=by
  simp only [List.mem_cons,List.not_mem_nil,or_false] at hb
  rcases hb with rfl | rfl | rfl | rfl | rfl
  ·exact Nat.le_add_right _ _
  ·exact Nat.le_add_right _ _
  ·exact Nat.le_add_right _ _
  ·exact Nat.le_refl _
  ·exact Nat.le_add_right _ _
 exact I1.fpOk hb' (I1.hok.fresh hb')
end
end M
set_option Elab.async false
set_option linter.all false
set_option maxRecDepth 100000
set_option maxHeartbeats 4000000
namespace M
open PySem PySem.Spec PyProof.Rows L2
noncomputable abbrev MGs:=List D→En→Option En
noncomputable def zq:MGs:=fun ds ρ=>match ds with
 | []=>some ρ
 | _=>none
noncomputable def Jv (g:MG) (gs:MGs):MGs:=fun ds ρ=>match ds with
 | d::r=>(g d ρ).bind (gs r)
 | []=>none
noncomputable def zp (gs:MGs):MG:=fun d ρ=>match d with
 | .tup ds=>gs ds ρ
 | _=>none
noncomputable def Av (X:Cx) (es:List Expr) (n:Nat) (mg:MGs):Prop:=∃ g:TGs,PGs X es g∧(∀ ds ρ ρ',mg ds ρ=some ρ'→ds.length=n)∧∀ Z α F H σ ρ μ vs ds ρ' Q,RS X.K Z α F H σ ρ μ→Reps X.K F α ds vs→mg ds ρ=some ρ'→(∀ σ',RS X.K Z α F H σ' ρ' μ→Q σ' H)→g vs σ H Q
section
variable {X:Cx} {EX:EXT} {e a b c:Expr} {pos:Pos} {m ma mb mc:MX} {es:List Expr}
theorem q9:Av X [] 0 zq:=by
 refine ⟨ai3,Bw,fun ds ρ ρ' h=>?_,fun Z α F H σ ρ μ vs ds ρ' Q R r h k=>?_⟩
 ·cases ds with
  | nil=>rfl
  | cons _ _=>cases h
 ·cases ds with
  | nil =>
   have:=r.length
   cases vs with
   | nil=>cases h;exact ⟨rfl,k σ R⟩
   | cons _ _=>simp at this
  | cons _ _=>cases h
theorem mts_cons {n:Nat} {g:MG} {gs:MGs} (h1:MTg X e g) (h2:Av X es n gs) (hs:(assignEach (e::es) X.env).map (·.2)=assign e X.env::(assignEach es X.env).map (·.2):=by rfl):Av X (e::es) (n + 1) (Jv g gs):=by
 obtain ⟨t,p,s⟩:=h1
 obtain ⟨ts,ps,hn,ss⟩:=h2
 refine ⟨_,Dx p ps hs,fun ds ρ ρ' h=>?_,fun Z α F H σ ρ μ vs ds ρ' Q R r h k=>?_⟩
 ·cases ds with
  | nil=>cases h
  | cons d r =>
   simp only [Jv,Option.bind_eq_some_iff] at h
   obtain ⟨ρ1,_,h2⟩:=h
   simp [hn _ _ _ h2]
 ·cases ds with
  | nil=>cases h
  | cons d dr =>
   simp only [Jv,Option.bind_eq_some_iff] at h
   obtain ⟨ρ1,h1,h2⟩:=h
   unfold Reps at r
   obtain ⟨v,vr,rfl,r1,r2⟩:=r
   exact ⟨v,vr,rfl,s Z α F H σ ρ μ v d ρ1 _ R r1 h1 fun σ' R'=>ss Z α F H σ' ρ1 μ vr dr ρ' Q R' r2 h2 k⟩
theorem mt_tup {x1 n:Nat} {gs:MGs} (hc:X.calm=true) (h:Av X es n gs) (hn:(assignEach es X.env).length=n:=by rfl) (hst:(assignEach es X.env).findIdx? (·.1)=none:=by rfl):MTg X (.Tuple es x1 pos) (zp gs):=by
 obtain ⟨ts,ps,hl,ss⟩:=h
 refine ⟨_,a44 hc ps hn hst,fun Z α F H σ ρ μ v d ρ' Q R r h k=>?_⟩
 cases d with
 | tup ds =>
  unfold Rep at r
  obtain ⟨p,vs,rfl,hs,hr⟩:=r
  exact ⟨p,vs,rfl,jr.tup R.hp.sub hs,by rw [← hr.length];exact hl _ _ _ h,ss Z α F H σ ρ μ vs ds ρ' Q R hr h k⟩
 | _=>cases h
noncomputable abbrev MOp:=En→Mu→Res (Option Int)
noncomputable def Vi:MOp:=fun _ μ=>.ok none μ
noncomputable def Qs (m:MX):MOp:=fun ρ μ=>(m ρ μ).bind fun d μ1=>match d with
 | .int i=>.ok (some i) μ1
 | _=>.bad
noncomputable def GO (K:PySem.W.Frag) (EX:EXT) (Z:ZS) (α:List Addr) (F:Hp) (Q:Option Int→Hp→Prop):Res (Option Int)→Prop
 | .ok o μ=>∀ α' F' H',RH K Z α' F' H' μ→Ext α F α' F'→Q o H'
 | .exc x μ=>EX.P Z x μ
 | .bad=>False
theorem GO.step {K:PySem.W.Frag} {Z:ZS} {α:List Addr} {F:Hp} {r:Res (Option Int)} {β:Type} {f:Option Int→Mu→Res β} {G:Res β→Prop} {Q:Option Int→Hp→Prop} (h:G (r.bind f)) (hx:∀ x μ,G (.exc x μ)→EX.P Z x μ) (hb:¬ G .bad)
  (hk:∀ d μ' α' F' H',RH K Z α' F' H' μ'→Ext α F α' F'→G (f d μ')→Q d H'):GO K EX Z α F Q r:=by
 cases r with
 | ok d μ=>exact fun α' F' H' R e=>hk d μ α' F' H' R e h
 | exc x μ=>exact hx _ _ h
 | bad=>exact hb h
noncomputable def MPt (X:Cx) (EX:EXT) (o:Option Expr) (mo:MOp):Prop:=∃ t:TO,PO X o t∧∀ Z α F H σ ρ μ Q,RS X.K Z α F H σ ρ μ→GO X.K EX Z α F Q (mo ρ μ)→t σ H Q
theorem Wu:MPt X EX none Vi:=⟨_,By,fun Z α F H σ ρ μ Q R g=>g α F H R.hp (Ext.refl _ _)⟩
theorem Wv (h:ME X EX e m):MPt X EX (some e) (Qs m):=by
 obtain ⟨t,p,s⟩:=h
 refine ⟨_,Bz p,fun Z α F H σ ρ μ Q R g=>?_⟩
 refine s Z α F H σ ρ μ _ R (GE.step (G:=GO X.K EX Z α F Q) g (fun _ _ h=>h) (fun h=>h) fun d μ1 v α1 F1 H1 R1 e1 p1 g1=>?_)
 cases d with
 | int i=>unfold Rep at p1;exact ⟨i,p1,g1 α1 F1 H1 R1 e1⟩
 | _=>exact g1.elim
noncomputable def cutD (xs:List D) (lo hi:Option Int):List D:=(xs.drop (HT.sIx xs.length 0 lo)).take (HT.sIx xs.length xs.length hi - HT.sIx xs.length 0 lo)
noncomputable def gSl (d:D) (lo hi:Option Int):Option D:=match d with
 | .tup xs=>if HT.sIx xs.length 0 lo=0∧HT.sIx xs.length xs.length hi=xs.length then none else some (.tup (cutD xs lo hi))
 | .lst xs=>some (.lst (cutD xs lo hi))
 | _=>none
noncomputable def mSl (m:MX) (lo hi:MOp):MX:=fun ρ μ=>(m ρ μ).bind fun d μ1=>(lo ρ μ1).bind fun l μ2=>(hi ρ μ2).bind fun h μ3=>ofO μ3 (gSl (j4 μ3 d) l h)
theorem Vy {K:PySem.W.Frag} {F:Hp} {α:List Addr} {ds:List D} {vs:List V} {lo hi:Option Int} (h:Reps K F α ds vs):Reps K F α (cutD ds lo hi) (kn vs lo hi):=by
 unfold cutD kn
 rw [h.length]
 exact Reps.take _ (Reps.drop _ h)
theorem xn {lo hi:Option Expr} {l h:MOp} {p2:Pos} (ha:ME X EX a ma) (hl:MPt X EX lo l) (hh:MPt X EX hi h):ME X EX (.Subscript a (.Slice lo hi none p2) pos) (mSl ma l h):=by
 obtain ⟨ta,pa,sa⟩:=ha
 obtain ⟨tl,pl,sl⟩:=hl
 obtain ⟨th,ph,sh⟩:=hh
 refine ⟨_,Dv (SlR.or a30 bf) pa pl ph,fun Z α F H σ ρ μ Q R g=>?_⟩
 refine sa Z α F H σ ρ μ _ R (GE.step (G:=GE X.K EX Z α F Q) g (fun _ _ h=>h) (fun h=>h) fun d μ1 v α1 F1 H1 R1 e1 p1 g1=>?_)
 refine sl Z α1 F1 H1 σ ρ μ1 _ (R.to R1 e1) (GO.step (G:=GE X.K EX Z α F Q) g1 (fun _ _ h=>h) (fun h=>h) fun l μ2 α2 F2 H2 R2 e2 g2=>?_)
 refine sh Z α2 F2 H2 σ ρ μ2 _ (R.to R2 (e1.trans e2)) (GO.step (G:=GE X.K EX Z α F Q) g2 (fun _ _ h=>h) (fun h=>h) fun h μ3 α3 F3 H3 R3 e3 g3=>?_)
 have p3:=R3.pk ((p1.mono e2).mono e3)
 cases hd:j4 μ3 d with
 | tup xs =>
  rw [hd] at p3 g3
  unfold Pk Rep at p3
  obtain ⟨q,vs,rfl,hs,hr⟩:=p3
  simp only [gSl] at g3
  split at g3
  ·exact g3.elim
  ·rename_i hw
   refine .inl ⟨q,vs,rfl,jr.tup R3.sub hs,by rw [← hr.length];exact hw,fun p hp=>?_⟩
   obtain ⟨a1,a2,a3⟩:=zj R3 (Vy (lo:=l) (hi:=h) hr) hp
   exact g3 _ _ _ _ a1 (e1.trans (e2.trans (e3.trans ⟨a2,fun _ _ h=>h⟩))) a3
 | lst xs =>
  rw [hd] at p3 g3
  obtain ⟨q,vs,rfl,hs,hr⟩:=p3
  refine .inr ⟨q,vs,rfl,hs,fun p hp=>?_⟩
  obtain ⟨a1,a2,a3⟩:=Ui R3 (Vy (lo:=l) (hi:=h) hr) hp
  exact g3 _ _ _ _ a1 (e1.trans (e2.trans (e3.trans ⟨a2,fun _ _ h=>h⟩))) a3
 | _=>rw [hd] at g3;exact g3.elim
noncomputable def Cy:GL:=fun ds=>match ds with
 | [.lst xs]=>some (.lst xs)
 | [.tup xs]=>some (.lst xs)
 | _=>none
theorem A6:zm X (.type "list") Cy:=by
 refine ⟨_,vp,fun Z α F H μ ds c vs Q R hp hg k=>?_⟩
 match ds,hg with
 | [.lst xs],hg =>
  obtain ⟨v,r,rfl,⟨q,us,rfl,hs,hr⟩,hq⟩:=hp
  have hq:r=[]:=hq
  subst hq
  cases hg
  refine ⟨q,us,rfl,.inl hs,fun p hp=>?_⟩
  obtain ⟨a1,a2,a3⟩:=Ui R hr hp
  exact k _ _ _ a1 a2 a3
 | [.tup xs],hg =>
  obtain ⟨v,r,rfl,hv,hq⟩:=hp
  have hq:r=[]:=hq
  subst hq
  unfold Pk Rep at hv
  obtain ⟨q,us,rfl,hs,hr⟩:=hv
  cases hg
  refine ⟨q,us,rfl,.inr (jr.tup R.sub hs),fun p hp=>?_⟩
  obtain ⟨a1,a2,a3⟩:=Ui R hr hp
  exact k _ _ _ a1 a2 a3
noncomputable def Yn:List D→Option (List Bool)
 | []=>some []
 | .bl b::r=>(Yn r).map (b:: ·)
 | _=>none
noncomputable def ag:GL:=fun ds=>match ds with
 | [.lst xs]=>(Yn xs).map fun bs=>.bl (bs.all id)
 | _=>none
noncomputable def gw:GL:=fun ds=>match ds with
 | [.lst xs]=>(Yn xs).map fun bs=>.bl (bs.any id)
 | _=>none
theorem xy {K:PySem.W.Frag} {F:Hp} {α:List Addr}:∀ {ds:List D} {vs:List V} {bs:List Bool},Reps K F α ds vs→Yn ds=some bs→vs=bs.map V.bl
 | [],vs,bs,h,e=>by
  cases e
  have:=h.length
  cases vs with
  | nil=>rfl
  | cons _ _=>simp at this
 | d::ds,vs,bs,h,e=>by
  unfold Reps at h
  obtain ⟨v,vr,rfl,h1,h2⟩:=h
  cases d with
  | bl b =>
   simp only [Yn,Option.map_eq_some_iff] at e
   obtain ⟨br,e1,rfl⟩:=e
   unfold Rep at h1
   rw [h1,xy h2 e1]
   rfl
  | _=>cases e
theorem x0:∀ {bs:List Bool} {us:List Value},jq (bs.map V.bl) us→us=bs.map Value.bool
 | [],us,h=>by cases h;rfl
 | b::bs,us,h=>by
  cases h with
  | cons r rr =>
   have r:_=Value.bool b:=r
   rw [r,x0 rr]
   rfl
theorem ba (bs:List Bool):((List.range bs.length).all fun i=>(bs[i]?).getD true)=bs.all id:=by
 induction bs with
 | nil=>rfl
 | cons b r ih=>rw [List.length_cons,List.range_succ_eq_map,List.all_cons,List.all_map,List.all_cons,← ih];rfl
theorem bc (bs:List Bool):((List.range bs.length).any fun i=>(bs[i]?).getD false)=bs.any id:=by
 induction bs with
 | nil=>rfl
 | cons b r ih=>rw [List.length_cons,List.range_succ_eq_map,List.any_cons,List.any_map,List.any_cons,← ih];rfl
theorem wu {h h':Heap} {o:Obj} (hk:∀ b x,b∉[h.objs.size]→(h.push o).get? b=some x→h'.get? b=some x) (b:Addr) (x:Obj) (e:h.get? b=some x):h'.get? b=some x:=by
 refine hk b x (fun z=>?_) (Heap.get?_push_of_some _ e)
 have z2:=List.mem_singleton.mp z
 have z3:=Heap.lt_size e
 rw [z2] at z3
 exact absurd z3 (Nat.lt_irrefl _)
theorem Eu (hc:X.calm=true):ye X (.builtin "all") (fun xs H Q=>∃ (p:Addr) (bs:List Bool),xs=[.ref p]∧SqL X.K H p (bs.map V.bl)∧Q (.bl (bs.all id)) H):=by
 intro pins s σ H xs us Q I r h
 obtain ⟨p,bs,rfl,hq,q⟩:=h
 obtain ⟨u,rfl,rx⟩:=Zk r
 cases rx
 obtain ⟨its,r',pl,hz⟩:=I.list hq
 obtain rfl:=x0 r'
 have hl:=pl.isList
 have hlt:p < s.heap.objs.size:=by obtain ⟨_,e,_⟩:=hl;exact Heap.lt_size e
 refine call_all_walk (wpAny_pyIter_list hl ⟨_,[_,p],[_],_,_,_,fun i=>(bs[i]?).getD true,rfl,Walks.list (A:=X.A.in1) (I.ok.hd hc) _ p (Nat.ne_of_lt hlt) _,⟨⟨_,Heap.get?_push_size _ rfl,rfl,rfl⟩,hl.push _⟩,?_,?_⟩)
 ·intro i v s' Q' E' hP hQ
  simp only [List.getElem?_toArray,List.getElem?_map,Option.map_eq_some_iff] at hP
  obtain ⟨b,e,rfl⟩:=hP
  simp only [e,Option.getD_some] at hQ
  exact wpAny_truthy_bool hQ
 ·intro h' tk hk
  rw [List.size_toArray,List.length_map,ba]
  exact ⟨.bl _,H,I.kept (t':=tk) (wu hk),rfl,q⟩
theorem Ev (hc:X.calm=true):ye X (.builtin "any") (fun xs H Q=>∃ (p:Addr) (bs:List Bool),xs=[.ref p]∧SqL X.K H p (bs.map V.bl)∧Q (.bl (bs.any id)) H):=by
 intro pins s σ H xs us Q I r h
 obtain ⟨p,bs,rfl,hq,q⟩:=h
 obtain ⟨u,rfl,rx⟩:=Zk r
 cases rx
 obtain ⟨its,r',pl,hz⟩:=I.list hq
 obtain rfl:=x0 r'
 have hl:=pl.isList
 have hlt:p < s.heap.objs.size:=by obtain ⟨_,e,_⟩:=hl;exact Heap.lt_size e
 refine call_any_walk (wpAny_pyIter_list hl ⟨_,[_,p],[_],_,_,_,fun i=>(bs[i]?).getD false,rfl,Walks.list (A:=X.A.in1) (I.ok.hd hc) _ p (Nat.ne_of_lt hlt) _,⟨⟨_,Heap.get?_push_size _ rfl,rfl,rfl⟩,hl.push _⟩,?_,?_⟩)
 ·intro i v s' Q' E' hP hQ
  simp only [List.getElem?_toArray,List.getElem?_map,Option.map_eq_some_iff] at hP
  obtain ⟨b,e,rfl⟩:=hP
  simp only [e,Option.getD_some] at hQ
  exact wpAny_truthy_bool hQ
 ·intro h' tk hk
  rw [List.size_toArray,List.length_map,bc]
  exact ⟨.bl _,H,I.kept (t':=tk) (wu hk),rfl,q⟩
theorem aa7 (hc:X.calm=true):zm X (.builtin "all") ag:=by
 refine ⟨_,Eu hc,fun Z α F H μ ds c vs Q R hp hg k=>?_⟩
 match ds,hg with
 | [.lst xs],hg =>
  obtain ⟨v,r,rfl,⟨q,us,rfl,hs,hr⟩,hq⟩:=hp
  have hq:r=[]:=hq
  subst hq
  simp only [ag,Option.map_eq_some_iff] at hg
  obtain ⟨bs,e,rfl⟩:=hg
  exact ⟨q,bs,rfl,by rw [← xy hr e];exact hs,k _ F H R (jr.refl _) (Uv _)⟩
theorem Ck (hc:X.calm=true):zm X (.builtin "any") gw:=by
 refine ⟨_,Ev hc,fun Z α F H μ ds c vs Q R hp hg k=>?_⟩
 match ds,hg with
 | [.lst xs],hg =>
  obtain ⟨v,r,rfl,⟨q,us,rfl,hs,hr⟩,hq⟩:=hp
  have hq:r=[]:=hq
  subst hq
  simp only [gw,Option.map_eq_some_iff] at hg
  obtain ⟨bs,e,rfl⟩:=hg
  exact ⟨q,bs,rfl,by rw [← xy hr e];exact hs,k _ F H R (jr.refl _) (Uv _)⟩
end
end M
set_option Elab.async false
set_option linter.all false
set_option maxRecDepth 100000
set_option maxHeartbeats 4000000
namespace M
open PySem PySem.Spec PyProof.Rows L2
noncomputable def C7 (a b x:D):Option D:=match a with
 | .dic ks vs=>(qy b).map fun k=>(J7 ks vs k).getD x
 | _=>none
noncomputable def f9:D→Bool
 | .dic _ _=>true
 | _=>false
noncomputable def Wo (m mk mx:MX):MX:=fun ρ μ=>(m ρ μ).bind fun d μ1=>if f9 (j4 μ1 d)=true then (mk ρ μ1).bind fun k μ2=>(mx ρ μ2).bind fun x μ3=>ofO μ3 (C7 (j4 μ3 d) k x) else .bad
section
variable {X:Cx} {EX:EXT} {e a b c f:Expr} {pos:Pos} {m ma mb mc:MX} {es:List Expr}
theorem Wh {K:PySem.W.Frag} {α:List Addr} {F:Hp} {d:D} {v:V} {k:DK} (h:Rep K F α d v) (e:qy d=some k):v=kV (dk k):=by
 cases d with
 | int i=>cases e;unfold Rep at h;exact h
 | str x=>cases e;unfold Rep at h;exact h
 | _=>cases e
theorem c9 {apos cpos:Pos} (hu:X.A.units + 200 < cLine) (ha:ME X EX a ma) (hb:ME X EX b mb) (hc:ME X EX c mc) (m2:L2.M2 X a "get" apos b c cpos):ME X EX (.Call (.Attribute a "get" apos) [b,c] [] cpos) (Wo ma mb mc):=by
 obtain ⟨ta,pa,sa⟩:=ha
 obtain ⟨tb,pb,sb⟩:=hb
 obtain ⟨tc,pc,sc⟩:=hc
 refine ⟨_,Dq (by omega) pa pb pc m2,fun Z α F H σ ρ μ Q R g=>?_⟩
 refine sa Z α F H σ ρ μ _ R (GE.step (G:=GE X.K EX Z α F Q) g (fun _ _ h=>h) (fun h=>h) fun d μ1 v α1 F1 H1 R1 e1 p1 g1=>?_)
 by_cases hd:f9 (j4 μ1 d)=true
 ·rw [if_pos hd] at g1
  have k1:=R1.pk p1
  cases hq:j4 μ1 d with
  | dic ks vs =>
   rw [hq] at k1
   unfold Pk at k1
   obtain ⟨q,us,rfl,hs,hl,hr⟩:=k1
   refine ⟨q,rfl,.inl ⟨_,.inl hs⟩,?_⟩
   refine sb Z α1 F1 H1 σ ρ μ1 _ (R.to R1 e1) (GE.step (G:=GE X.K EX Z α F Q) g1 (fun _ _ h=>h) (fun h=>h) fun k μ2 vk α2 F2 H2 R2 e2 p2 g2=>?_)
   refine sc Z α2 F2 H2 σ ρ μ2 _ (R.to R2 (e1.trans e2)) (GE.step (G:=GE X.K EX Z α F Q) g2 (fun _ _ h=>h) (fun h=>h) fun x μ3 vx α3 F3 H3 R3 e3 p3 g3=>?_)
   have k3:=R3.pk ((p1.mono e2).mono e3)
   cases hq3:j4 μ3 d with
   | dic ks3 ds3 =>
    rw [hq3] at k3 g3
    unfold Pk at k3
    obtain ⟨q3,us3,e3',hs3,hl3,hr3⟩:=k3
    cases e3'
    simp only [C7] at g3
    cases hk:qy k with
    | none=>rw [hk] at g3;exact g3.elim
    | some kk =>
     rw [hk] at g3
     have hy:=Wh p2 hk
     subst hy
     refine ⟨_,Yv.k hs3,?_⟩
     have g3:GE X.K EX Z α F Q (.ok ((J7 ks3 ds3 kk).getD x) μ3):=g3
     rcases yk (k:=kk) hr3 hl3 with ⟨d',v',h1,h2,h3⟩ | ⟨h1,h2⟩
     ·rw [h1] at g3
      rw [h2]
      exact g3 v' α3 F3 H3 R3 (e1.trans (e2.trans e3)) h3
     ·rw [h1] at g3
      rw [h2]
      exact g3 vx α3 F3 H3 R3 (e1.trans (e2.trans e3)) p3
   | _=>rw [hq3] at g3;exact g3.elim
  | _=>rw [hq] at hd;cases hd
 ·rw [if_neg hd] at g1;exact g1.elim
noncomputable def vc (w:World) (K:PySem.W.Frag) (mg:Str→Option Value) (x:Str) (ks:List DK) (ds:List D):Prop :=
 ∃ p us vs,mg x=some (.ref p)∧(p == sysModules)=false∧(∀ (P:Program) (h:Heap),K.In h→h.DictOf (jh P w) p us)∧KV ((ks.map dk).zip vs) us∧ks.length=ds.length∧∀ F α,Reps K F α ds vs
variable {x:Str} {ks:List DK} {ds:List D}
theorem cy {p:Pos} (c:vc X.w X.K X.mg x ks ds) (hg:Gl X x) (hb:ME X EX b mb) (hs:Aw b) (hd:(x == ("__debug__":Str))=false:=by decide):ME X EX (.Subscript (.Name x p) b pos) (mBin J5 (mC (.dic ks ds)) mb):=by
 obtain ⟨q,us,vs,h1,h2,h3,h4,h5,h6⟩:=c
 obtain ⟨tb,pb,sb⟩:=hb
 refine ⟨fun σ H Q=>tb σ H fun y H1=>∃ k v,y=kV k∧yy ((ks.map dk).zip vs) k=some v∧Q v H1,fun pins s σ H Q I h=>?_,fun Z α F H σ ρ μ Q R g=>?_⟩
 ·refine G3 PySem.F.slot_dict_getitem.lookup hs (qz I hg h1 (thn (pb pins s σ H _ I h) fun iv s2 ⟨y,H2,I2,ry,k,v,ey,hv,q2⟩=>?_) hd)
  have dd:=h3 X.prog _ I2.kIn
  refine ⟨dd.typeIs,?_⟩
  subst ey
  obtain ⟨w',hw,rw'⟩:=qk.some_of (v:=v) (o:=valueAt us k) (by rw [← hv];exact h4.val k)
  exact wpAny_getItem_of (Yp ry) dd.mapOf hw ⟨v,H2,I2.tok _,rw',q2⟩
 ·refine sb Z α F H σ ρ μ _ R (GE.step (G:=GE X.K EX Z α F Q) (show GE X.K EX Z α F Q ((mb ρ μ).bind fun d μ1=>ofO μ1 (J5 (j4 μ1 (.dic ks ds)) (j4 μ1 d))) from g) (fun _ _ h=>h) (fun h=>h) fun d μ1 v α1 F1 H1 R1 e1 p1 g1=>?_)
  simp only [deref_dic,J5] at g1
  cases hk:qy (j4 μ1 d) with
  | none=>rw [hk] at g1;exact g1.elim
  | some kk =>
   rw [hk] at g1
   have hy:=Wg (R1.pk p1) hk
   rcases yk (k:=kk) (h6 F1 α1) h5 with ⟨d',v',l1,l2,l3⟩ | ⟨l1,l2⟩
   ·have g1:GE X.K EX Z α F Q (ofO μ1 (J7 ks ds kk)):=g1
    rw [l1] at g1
    exact ⟨_,v',hy,l2,g1 v' α1 F1 H1 R1 e1 l3⟩
   ·have g1:GE X.K EX Z α F Q (ofO μ1 (J7 ks ds kk)):=g1
    rw [l1] at g1
    exact g1.elim
noncomputable def ac7 (neg:Bool) (kvs:List (Key×V)) (ta:TE):TE:=fun σ H Q=>ta σ H fun y H1=>∃ k,y=kV k∧Q (.bl (if neg then !(yy kvs k).isSome else (yy kvs k).isSome)) H1
theorem C4 {neg:Bool} {ta:TE} {vs:List V} (h5:ks.length=ds.length) (h6:∀ F α,Reps X.K F α ds vs) (sa:U9 X EX ta ma):U9 X EX (ac7 neg ((ks.map dk).zip vs) ta) (mBin (zo neg) ma (mC (.dic ks ds))):=by
 intro Z α F H σ ρ μ Q R g
 refine sa Z α F H σ ρ μ _ R (GE.step (G:=GE X.K EX Z α F Q) (show GE X.K EX Z α F Q ((ma ρ μ).bind fun d μ1=>ofO μ1 (zo neg (j4 μ1 d) (j4 μ1 (.dic ks ds)))) from g) (fun _ _ h=>h) (fun h=>h) fun d μ1 v α1 F1 H1 R1 e1 p1 g1=>?_)
 simp only [deref_dic,zo] at g1
 cases hk:qy (j4 μ1 d) with
 | none=>rw [hk] at g1;exact g1.elim
 | some kk =>
  rw [hk] at g1
  have hy:=Wg (R1.pk p1) hk
  refine ⟨_,hy,?_⟩
  have g1:GE X.K EX Z α F Q (.ok (.bl (if neg=true then !(J7 ks ds kk).isSome else (J7 ks ds kk).isSome)) μ1):=g1
  rcases yk (k:=kk) (h6 F1 α1) h5 with ⟨d',v',l1,l2,l3⟩ | ⟨l1,l2⟩
  ·rw [l1] at g1
   rw [l2]
   exact g1 _ α1 F1 H1 R1 e1 (Uv _)
  ·rw [l1] at g1
   rw [l2]
   exact g1 _ α1 F1 H1 R1 e1 (Uv _)
theorem Bo {p:Pos} {ta:TE} {q:Addr} {us:List (Key×Value)} {vs:List V} (h1:X.mg x=some (.ref q)) (h2:(q == sysModules)=false) (h3:∀ (P:Program) (h:Heap),X.K.In h→h.DictOf (jh P X.w) q us) (h4:KV ((ks.map dk).zip vs) us) (hg:Gl X x) (hd:(x == ("__debug__":Str))=false)
  (pa:PE X a ta):PC X .NotIn a (.Name x p) (ac7 true ((ks.map dk).zip vs) ta):=by
 intro pins s σ H Q I h
 refine thn (pa pins s σ H _ I h) fun iv s1 ⟨y,H1,I1,ry,k,ey,q1⟩=>qz I1 hg h1 ?_ hd
 subst ey
 have dd:=h3 X.prog _ I1.kIn
 refine wpAny_notIn_of (Yp ry) h2 dd.mapOf ?_
 rw [← (h4.val k).isSome_eq]
 exact ⟨.bl (!(yy ((ks.map dk).zip vs) k).isSome),H1,I1.tok _,rfl,q1⟩
theorem Kf {p:Pos} (c:vc X.w X.K X.mg x ks ds) (hg:Gl X x) (ha:ME X EX a ma) (hd:(x == ("__debug__":Str))=false:=by decide):MT X EX (.Compare a [.NotIn] [.Name x p] pos) (mTest (mBin (zo true) ma (mC (.dic ks ds)))):=by
 obtain ⟨q,us,vs,h1,h2,h3,h4,h5,h6⟩:=c
 obtain ⟨ta,pa,sa⟩:=ha
 exact ⟨_,W8 (Bo h1 h2 h3 h4 hg hd pa) rfl,Uh (C4 h5 h6 sa)⟩
structure Cb (X:Cx) (N G:List Str):Prop where
 hN:X.N=N
 nd:N.Nodup
 vis:∀ x∈N,Vis X.env.scope x∧(x == ("__debug__":Str))=false∧(x == ("__classdict__":Str))=false
 gl:∀ x∈G,Gl X x
 calm:X.calm=true
 un:X.A.units + 200 < cLine
end
section
variable {X:Cx} {EX:EXT} {N G:List Str}
theorem Cb.at (C:Cb X N G) {i:Nat} {x:Str} (h:N[i]? =some x):X.N[i]? =some x:=by rw [C.hN];exact h
theorem Cb.ndX (C:Cb X N G):X.N.Nodup:=by rw [C.hN];exact C.nd
theorem Cb.g (C:Cb X N G) (j:Nat) {x:Str} (h:G[j]? =some x):Gl X x:=C.gl x (mem_at h)
theorem svb (C:Cb X N G) (i:Nat) {x:Str} {pos:Pos} (h:N[i]? =some x):ME X EX (.Name x pos) (mVar i) :=
 c6 (C.at h) (C.vis x (mem_at h)).1 (C.vis x (mem_at h)).2.1 (C.vis x (mem_at h)).2.2
theorem stb (C:Cb X N G) (i:Nat) {x:Str} {pos:Pos} (h:N[i]? =some x) (hl:X.env.scope.names.lookup x=some .local):MTg X (.Name x pos) (gN i):=Gk C.ndX (C.at h) (.inl hl) (.inr hl)
theorem Zu {env:Env} {scope:Scope} {x:Str} {k:NameKind} (hk:k≠.free) (h:scope.names.lookup x=some k):(relabel scope env).names.lookup x=some k:=by
 unfold relabel
 generalize scope.names=l at h
 simp only
 induction l with
 | nil=>cases h
 | cons p r ih =>
  obtain ⟨n,q⟩:=p
  rw [List.lookup_cons] at h
  simp only [List.map_cons]
  by_cases e:(x == n)=true
  ·rw [e] at h
   cases h
   rw [if_neg (by simp [hk]),List.lookup_cons,e]
  ·have e':(x == n)=false:=by simpa using e
   rw [e'] at h
   have:=ih h
   split
   ·rw [List.lookup_cons,e'];exact this
   ·rw [List.lookup_cons,e'];exact this
noncomputable def Z0 (sc:Scope) (T caps G:List Str):Bool:=T.all (fun x=>sc.names.lookup x == some .local && !(x == ("__debug__":Str)) && !(x == ("__classdict__":Str))) && caps.all (fun x=>sc.names.lookup x == some .free && !(x == ("__debug__":Str)) && !(x == ("__classdict__":Str))) && G.all fun x=>sc.names.lookup x == some .globalImplicit
noncomputable def yr (sc out:Scope):Bool:=sc.kind == .function && sc.names.all fun y=>(match y.2 with
 | .cell=>false
 | .local=>sc.names.lookup y.1 == some .local
 | .free=>out.names.lookup y.1 == some .cell || out.names.lookup y.1 == some .free
 | _=>true)
theorem jg {scope:Scope} {env:Env} (h:yr scope env.scope=true):CompScope scope env:=by
 unfold yr at h
 rw [Bool.and_eq_true] at h
 have hk:=h.1
 have ha:=List.all_eq_true.mp h.2
 refine ⟨by simpa using hk,fun y hy e=>?_,fun y hy e=>?_,fun y hy e=>?_⟩
 ·have:=ha y hy;rw [e] at this;cases this
 ·have:=ha y hy;rw [e] at this;simpa using this
 ·have:=ha y hy
  rw [e] at this
  simpa [Env.kindOf] using this
noncomputable def a11 (sc:Scope) (N caps:List Str) (ix:List Nat):Bool:=ix.length == caps.length && (caps.zip ix).all fun p=>N[p.2]? == some p.1 && sc.names.lookup p.1 == some .free
theorem ug {scope:Scope} {T caps:List Str} {ix:List Nat} (hN:X.N=N) (h:a11 scope N caps ix=true):Caps X scope T caps ix:=by
 unfold a11 at h
 rw [Bool.and_eq_true] at h
 refine ⟨by simpa using h.1,fun j x i e1 e2=>?_⟩
 have hm:(x,i)∈caps.zip ix:=by
  refine List.mem_of_getElem? (i:=j) ?_
  rw [List.getElem?_zip_eq_some]
  exact ⟨e1,e2⟩
 have:=List.all_eq_true.mp h.2 (x,i) hm
 simp only [Bool.and_eq_true,beq_iff_eq] at this
 rw [hN]
 exact this
theorem Yo {scope:Scope} {T caps:List Str} {C:Addr} {s:Shared} {H:Hp} {ex:List Addr} (hc:X.calm=true) (hu:X.A.units + 200 < cLine) (nd:(T++caps).Nodup) (h:Z0 scope T caps G=true):Cb (Ur X (T++caps) scope C s H ex) (T++caps) G:=by
 unfold Z0 at h
 rw [Bool.and_eq_true,Bool.and_eq_true] at h
 refine ⟨rfl,nd,fun x hx=>?_,fun x hx=>?_,hc,hu⟩
 ·rcases List.mem_append.mp hx with hx | hx
  ·have:=List.all_eq_true.mp h.1.1 x hx
   simp only [Bool.and_eq_true,beq_iff_eq,Bool.not_eq_true'] at this
   exact ⟨.inl (Zu (by decide) this.1.1),this.1.2,this.2⟩
  ·have:=List.all_eq_true.mp h.1.2 x hx
   simp only [Bool.and_eq_true,beq_iff_eq,Bool.not_eq_true'] at this
   exact ⟨.inr (Zb this.1.1),this.1.2,this.2⟩
 ·have:=List.all_eq_true.mp h.2 x hx
  exact Zu (by decide) (by simpa using this)
theorem blk_loc {scope:Scope} {env:Env} {T caps:List Str} (h:Z0 scope T caps G=true) {j:Nat} {x:Str} (e:T[j]? =some x):(relabel scope env).names.lookup x=some .local:=by
 unfold Z0 at h
 rw [Bool.and_eq_true,Bool.and_eq_true] at h
 have:=List.all_eq_true.mp h.1.1 x (mem_at e)
 simp only [Bool.and_eq_true,beq_iff_eq,Bool.not_eq_true'] at this
 exact Zu (by decide) this.1.1
theorem sac (C:Ct X N G) (i:Nat) {x:Str} {pos pos' spos:Pos} {scope:Scope} {T caps:List Str} {ix:List Nat} {tg iter:Expr} {ifs:List Expr} {elt:Expr} {g:MG} {t:MB} {m:MX} {mi:MIt} (h:N[i]? =some x) (cs:CompScope scope X.env) (cp:Caps X scope T caps ix) (hcalm:X.calm=true) (hi:MI X EX tg iter mi)
  (hb:Blk X scope (T++caps) tg ifs elt g t m) (hsw:swapsWith (.ListComp elt [⟨tg,iter,ifs,0⟩] scope pos) (some (.Name x pos')) spos.line X.env=pure true:=by rfl) (hs:∀ x,foldedSetIterable iter X.env x=pure x:=by intro _;rfl) :
  MS X EX (.Assign [.Name x pos'] (.ListComp elt [⟨tg,iter,ifs,0⟩] scope pos) spos) (J2 i (jc T.length ix g mi t m)) :=
 Ba C.ndX (C.at h) (C.loc x (mem_at h)).1 (.inl (C.fn x)) cs cp hcalm hi hb hsw hs
end
end M
set_option Elab.async false
set_option linter.all false
set_option maxRecDepth 100000
set_option maxHeartbeats 4000000
namespace M
open PySem PySem.Spec PyProof.Rows L2
theorem Jy {K:PySem.W.Frag} {p:Addr} {od:Option Addr} {its:Array Value} {n:Nat} {sl:Array (Option Value)} {ds:List D} {vs:List V} {F:Hp} {α:List Addr} (l:K.lookup p=some ⟨.type "tuple",od,.seq its n,sl⟩) (hz:its.size≤16777216) (hv:jq vs its.toList) (hr:Reps K F α ds vs):Rep K F α (.tup ds) (.ref p):=by
 unfold Rep
 exact ⟨p,vs,rfl,.inr ⟨_,its,n,l,rfl,rfl,by rw [sizeLine_eq];exact hz,hv⟩,hr⟩
noncomputable def a98 (pr:Params) (x:List Nat×Nat×Addr):DictEntry:=⟨PyData.keyHash pr ⟨x.1.toArray⟩,.str ⟨x.1.toArray⟩ x.2.1,.ref x.2.2⟩
theorem Da {w:World} {xs:List (List Nat×Nat×Addr)} {e:DictEntry} (h:e∈xs.map (a98 w.params)) (P:Program):∃ k,(jh P w).is k e.key=true∧e.hash=(jh P w).hash k:=by
 obtain ⟨x,_,rfl⟩:=List.mem_map.mp h
 exact ⟨.inr ⟨x.1.toArray⟩,Yp (P:=P) (w:=w) (k:=.inr ⟨x.1.toArray⟩) (u:=.str ⟨x.1.toArray⟩ x.2.1) ⟨x.2.1,rfl⟩,rfl⟩
theorem xu {w:World} (P:Program):∀ xs:List (List Nat×Nat×Addr),Pairs (jh P w) (xs.map (a98 w.params)) (xs.map fun x=>((Sum.inr ⟨x.1.toArray⟩:Key),Value.ref x.2.2))
 | []=>.nil
 | x::xs=>.cons (Yp (P:=P) (w:=w) (k:=.inr ⟨x.1.toArray⟩) (u:=.str ⟨x.1.toArray⟩ x.2.1) ⟨x.2.1,rfl⟩) rfl (xu P xs)
theorem Gc:∀ xs:List (List Nat×Nat×Addr),KV (((xs.map fun x=>(.inr x.1:DK)).map dk).zip (xs.map fun x=>V.ref x.2.2)) (xs.map fun x=>((Sum.inr ⟨x.1.toArray⟩:Key),Value.ref x.2.2))
 | []=>.nil
 | x::xs=>.cons ⟨rfl,rfl⟩ (Gc xs)
theorem xq:∀ {xs:List (List Nat×Nat×Addr)},(xs.map (·.1)).Nodup→((xs.map fun x=>((Sum.inr ⟨x.1.toArray⟩:Key),Value.ref x.2.2)).map (·.1)).Nodup
 | [],_=>List.nodup_nil
 | x::xs,h=>by
  rw [List.map_cons,List.nodup_cons] at h
  rw [List.map_cons,List.map_cons,List.nodup_cons]
  refine ⟨fun z=>h.1 ?_,xq h.2⟩
  rw [List.map_map] at z
  obtain ⟨y,hy,e⟩:=List.mem_map.mp z
  have e2:(⟨y.1.toArray⟩:Str)=⟨x.1.toArray⟩:=Sum.inr.inj e
  have e3:y.1.toArray=x.1.toArray:=by injection e2
  have e4:y.1=x.1:=by simpa using congrArg Array.toList e3
  exact List.mem_map.mpr ⟨y,hy,e4⟩
theorem A3 {w:World} {K:PySem.W.Frag} {mg:Str→Option Value} {h:Heap} {x:Str} {p:Addr} {ep:Nat} {ds:List D} (xs:List (List Nat×Nat×Addr)) (KX:K.In h) (G:h.Ns mainGlobals mg)
  (a:PySem.W.nsIn K mainGlobals x=some (some (.ref p))) (l:K.lookup p=some ⟨.type "dict",none,.dict (xs.map (a98 w.params)).toArray ep,#[]⟩) (hp:(p == sysModules)=false) (nd:(xs.map (·.1)).Nodup)
  (hl:xs.length=ds.length) (hr:∀ F α,Reps K F α ds (xs.map fun x=>V.ref x.2.2)):vc w K mg x (xs.map fun x=>.inr x.1) ds:=by
 refine ⟨p,_,_,PySem.W.mg_of KX G a,hp,fun P h' k'=>?_,Gc xs,by simpa using hl,hr⟩
 exact ⟨_,_,_,k' p _ l,⟨rfl,rfl,rfl⟩,rfl,fun e he=>Da (by simpa using he) P,by simpa using xu P xs,xq nd⟩
end M
set_option Elab.async false
set_option linter.all false
set_option maxRecDepth 100000
set_option maxHeartbeats 4000000
namespace M
open PySem PySem.Spec PyProof.Rows L2
variable {ρ:En} {μ μ1 μ2:Mu} {m ma mb mc:MX} {ms:MAs} {t u:MB} {n a b r:MSt} {d x y z:D} {ds:List D} {k:Bool} {φ:Fn} {g:G2} {o:Out}
theorem Yu (i:Nat) (h:ρ[i]? =some (some d)):mVar i ρ μ=.ok d μ:=by unfold mVar;rw [h]
theorem v_bin (ha:ma ρ μ=.ok x μ1) (hb:mb ρ μ1=.ok y μ2) (hg:g (j4 μ2 x) (j4 μ2 y)=some z):mBin g ma mb ρ μ=.ok z μ2:=by unfold mBin;rw [ha,bind_ok,hb,bind_ok,hg];rfl
theorem v_nil:mNil ρ μ=.ok [] μ:=rfl
theorem v_cons (ha:m ρ μ=.ok d μ1) (hb:ms ρ μ1=.ok ds μ2):mCons m ms ρ μ=.ok (d::ds) μ2:=by rw [a99,ha,bind_ok,A2,hb,bind_ok,A1]
theorem Yt (h:ms ρ μ=.ok ds μ1):J6 ms ρ μ=.ok (.tup ds) μ1:=by unfold J6;rw [h];rfl
theorem V3 (h:ms ρ μ=.ok ds μ1):U7 ms ρ μ=.ok (.lst ds) μ1:=by unfold U7;rw [h];rfl
theorem v_call (h:ms ρ μ=.ok ds μ1) (hf:φ ds μ1=.ok d μ2):mCall φ ms ρ μ=.ok d μ2:=by unfold mCall;rw [h,bind_ok,hf];rfl
theorem v_callB {g:GL} (h:ms ρ μ=.ok ds μ1) (hf:g (ds.map (j4 μ1))=some d):mCallB g ms ρ μ=.ok d μ1:=by unfold mCallB;rw [h,bind_ok,hf];rfl
theorem Jz (h:m ρ μ=.ok (.bl k) μ1):mTest m ρ μ=.ok k μ1:=by unfold mTest;rw [h];rfl
theorem Zg (h:m ρ μ=.ok d μ1) (ht:Kw (j4 μ1 d)=some k):U3 m ρ μ=.ok k μ1:=by unfold U3;rw [h,bind_ok,ht];rfl
theorem Xg (h:t ρ μ=.ok k μ1):Ym t ρ μ=.ok (!k) μ1:=by unfold Ym;rw [h];rfl
theorem v_andT (h:t ρ μ=.ok true μ1):Yk t u ρ μ=u ρ μ1:=by unfold Yk;rw [h];rfl
theorem Zv (h:t ρ μ=.ok false μ1):Yk t u ρ μ=.ok false μ1:=by unfold Yk;rw [h];rfl
theorem v_orF (h:t ρ μ=.ok false μ1):mOr t u ρ μ=u ρ μ1:=by unfold mOr;rw [h];rfl
theorem yx (h:ma ρ μ=.ok (.bl true) μ1):u5 ma mb ρ μ=mb ρ μ1:=by unfold u5;rw [h];rfl
theorem W2 (h:ma ρ μ=.ok (.bl false) μ1):u5 ma mb ρ μ=.ok (.bl false) μ1:=by unfold u5;rw [h];rfl
theorem a16 (h:ma ρ μ=.ok (.bl true) μ1):Wp ma mb ρ μ=.ok (.bl true) μ1:=by unfold Wp;rw [h];rfl
theorem d3 (h:ma ρ μ=.ok (.bl false) μ1):Wp ma mb ρ μ=mb ρ μ1:=by unfold Wp;rw [h];rfl
theorem gh (h:t ρ μ=.ok true μ1):mIf t ma mb ρ μ=ma ρ μ1:=by unfold mIf;rw [h];rfl
theorem gf (h:t ρ μ=.ok false μ1):mIf t ma mb ρ μ=mb ρ μ1:=by unfold mIf;rw [h];rfl
theorem v_ret (h:m ρ μ=.ok d μ1):ju m ρ μ=.ok (.rt d) μ1:=by unfold ju;rw [h];rfl
theorem v_set (i:Nat) (h:m ρ μ=.ok d μ1):jx (J2 i m) r ρ μ=r (ρ.set i (some d)) μ1:=by unfold jx J2;rw [h];rfl
theorem v_iteT (h:t ρ μ=.ok true μ1):jk t a b ρ μ=a ρ μ1:=by unfold jk;rw [h];rfl
theorem v_iteF (h:t ρ μ=.ok false μ1):jk t a b ρ μ=b ρ μ1:=by unfold jk;rw [h];rfl
theorem v_seqN {ρ1:En} (h:n ρ μ=.ok (.nx ρ1) μ1):jx n r ρ μ=r ρ1 μ1:=by unfold jx;rw [h];rfl
theorem v_seqR (h:n ρ μ=.ok (.rt d) μ1):jx n r ρ μ=.ok (.rt d) μ1:=by unfold jx;rw [h];rfl
theorem v_skip (h:t ρ μ=.ok false μ1):jx (jk t a jv) r ρ μ=r ρ μ1:=v_seqN (v_iteF h)
theorem um (h:t ρ μ=.ok true μ1) (hm:m ρ μ1=.ok d μ2):jx (jk t (ju m) b) r ρ μ=.ok (.rt d) μ2:=v_seqR ((v_iteT h).trans (v_ret hm))
theorem Js (j:Nat) (h:n (ds.map some++List.replicate j none) μ=.ok (.rt d) μ1):fnOf j n ds μ=.ok d μ1:=by rw [Cr,h];rfl
theorem a20 (i:Nat) {ρ1:En} (h:n (ρ.set i (some d)) μ=.ok (.nx ρ1) μ1):Jq (gN i) n (d::ds) ρ μ=Jq (gN i) n ds ρ1 μ1:=by rw [wm,h];rfl
theorem G0 {k k2:Bool} (h:ma ρ μ=.ok (.bl k) μ) (h2:mb ρ μ=.ok (.bl k2) μ):u5 ma mb ρ μ=.ok (.bl (k && k2)) μ:=by
 cases k
 ·exact W2 h
 ·rw [yx h,h2];rfl
theorem a17 {k k2:Bool} (h:ma ρ μ=.ok (.bl k) μ) (h2:mb ρ μ=.ok (.bl k2) μ):Wp ma mb ρ μ=.ok (.bl (k || k2)) μ:=by
 cases k
 ·rw [d3 h,h2];rfl
 ·exact a16 h
theorem a15 {L:List D} {i:Int} {n:Nat} (h:ms ρ μ=.ok L μ) (hi:m ρ μ=.ok (.int i) μ) (hl:L.length=n) (h0:0 < n):∃ d∈L,mBin jz (U7 ms) (mBin Jf m (mC (.int n))) ρ μ=.ok d μ:=by
 have h1:mBin Jf m (mC (.int n)) ρ μ=.ok (.int (i % n)) μ:=v_bin hi rfl (g_mod i n (by omega))
 have hk:(i % n).toNat < L.length:=by
  have a1:=Int.emod_nonneg i (b:=(n:Int)) (by omega)
  have a2:=Int.emod_lt_of_pos i (b:=(n:Int)) (by omega)
  omega
 refine ⟨L[(i % n).toNat],List.getElem_mem hk,v_bin (V3 h) h1 ?_⟩
 show atI L (i % n)=_
 rw [zd (Int.emod_nonneg _ (by omega)),List.getElem?_eq_getElem hk]
end M
set_option Elab.async false
set_option linter.all false
set_option maxRecDepth 100000
set_option maxHeartbeats 4000000
namespace M
open PySem PySem.Spec PyProof.Rows L2
theorem X0 {β:Type} {l:List β} {x y:β} {k:Nat} (h:(l++[x])[k]? =some y):l[k]? =some y∨(k=l.length∧y=x):=by
 by_cases hk:k < l.length
 ·rw [List.getElem?_append_left hk] at h;exact .inl h
 ·rw [List.getElem?_append_right (by omega)] at h
  have:k - l.length=0:=by
   cases e:k - l.length with
   | zero=>rfl
   | succ n=>rw [e] at h;simp at h
  rw [this] at h
  simp at h
  exact .inr ⟨by omega,h.symm⟩
theorem uk (α:List Addr) (F:Hp) (p:Addr):Ext α F (α++[p]) F:=⟨jr.refl F,fun k a h=>by
 have:k < α.length:=by
  by_cases hk:k < α.length
  ·exact hk
  ·rw [List.getElem?_eq_none (by omega)] at h;cases h
 rw [List.getElem?_append_left this];exact h⟩
section
variable {K:PySem.W.Frag} {Z:ZS} {F H:Hp} {α:List Addr} {μ:Mu} {p:Addr} {o o':HO} {c:Cell}
theorem Uq.mono {α':List Addr} {H':Hp} {a:Addr} (h:Uq K α F H a c) (e:Ext α F α' F) (hh:c≠.dead→H' a=H a):Uq K α' F H' a c:=by
 exact h.go e (fun _=>rfl) hh
theorem RH.unholdC (r:RH K (ZS.up Z p o) α F H μ) (hz:Z.z p=none) (hok:Uq K (α++[p]) F (upd H p o') p c):RH K Z (α++[p]) F (upd H p o') (μ++[c]):=by
 have fp:F p=none:=r.zf p o Jb
 have nc:∀ (k:Nat) (a:Addr) (c:Cell),α[k]? =some a→μ[k]? =some c→c≠.dead→a≠p:=fun k a c ha hc hd z=>by
  have:=r.zc k a c ha hc hd
  rw [z,Jb] at this
  cases this
 have hlen:=r.len
 have both:∀ (k:Nat) (a:Addr) (c':Cell),(α++[p])[k]? =some a→(μ++[c])[k]? =some c'→(α[k]? =some a∧μ[k]? =some c')∨(k=α.length∧a=p∧c'=c):=fun k a c' ha hc=>by
  rcases X0 ha with h1 | ⟨h1,h2⟩
  ·rcases X0 hc with h3 | ⟨h3,h4⟩
   ·exact .inl ⟨h1,h3⟩
   ·have:k < α.length:=(List.getElem?_eq_some_iff.mp h1).1
    omega
  ·rcases X0 hc with h3 | ⟨h3,h4⟩
   ·have:k < μ.length:=(List.getElem?_eq_some_iff.mp h3).1
    omega
   ·exact .inr ⟨h1,h2,h4⟩
 refine ⟨fun b u e=>?_,by simp [hlen],fun k a c' ha hc=>?_,fun b u e=>?_,fun b u e=>?_,fun k a c' ha hc hd=>?_,fun j k a c1 c2 hj hk cj ck d1 d2=>?_,r.ext.trans (uk α F p)⟩
 ·rw [j9 (fun z=>by rw [z,fp] at e;cases e)];exact r.sub b u e
 ·rcases both k a c' ha hc with ⟨h1,h2⟩ | ⟨h1,h2,h3⟩
  ·exact (r.cell k a c' h1 h2).mono (uk α F p) fun hd=>by rw [j9 (nc k a c' h1 h2 hd)]
  ·rw [h2,h3];exact hok
 ·have hb:b≠p:=fun z=>by rw [z,hz] at e;cases e
  rw [j9 hb]
  exact r.zs b u (by rw [yw hb];exact e)
 ·have hb:b≠p:=fun z=>by rw [z,hz] at e;cases e
  exact r.zf b u (by rw [yw hb];exact e)
 ·rcases both k a c' ha hc with ⟨h1,h2⟩ | ⟨h1,h2,h3⟩
  ·have:=r.zc k a c' h1 h2 hd
   rw [yw (nc k a c' h1 h2 hd)] at this
   exact this
  ·rw [h2];exact hz
 ·rcases both j a c1 hj cj with ⟨h1,h2⟩ | ⟨h1,h2,h3⟩
  ·rcases both k a c2 hk ck with ⟨g1,g2⟩ | ⟨g1,g2,g3⟩
   ·exact r.dis j k a c1 c2 h1 g1 h2 g2 d1 d2
   ·exact absurd g2 (nc j a c1 h1 h2 d1)
  ·rcases both k a c2 hk ck with ⟨g1,g2⟩ | ⟨g1,g2,g3⟩
   ·exact absurd h2 (nc k a c2 g1 g2 d2)
   ·omega
theorem W3 (H:Hp) (p:Addr) (o o':HO):upd (upd H p o) p o'=upd H p o':=by
 funext b
 by_cases hb:b=p
 ·subst hb;rw [js,js]
 ·rw [j9 hb,j9 hb,j9 hb]
theorem RH.newCell (r:RH K Z α F H μ) (hp:H p=none) (hok:Uq K (α++[p]) F (upd H p o') p c):RH K Z (α++[p]) F (upd H p o') (μ++[c]):=by
 have hz:Z.z p=none:=by
  cases e:Z.z p with
  | none=>rfl
  | some u=>rw [r.zs _ _ e] at hp;cases hp
 have:=RH.unholdC (o:=o') (o':=o') (r.hold o' hp) hz (by rw [W3];exact hok)
 rw [W3] at this
 exact this
theorem a05 (r:RH K Z α F H μ) (hp:H p=none):F p=none:=by
 cases e:F p with
 | none=>rfl
 | some u=>rw [r.sub _ _ e] at hp;cases hp
theorem Gp {ds:List D} {vs:List V} (r:RH K Z α F H μ) (hr:Reps K F α ds vs) (hp:H p=none) :
  RH K Z (α++[p]) F (upd H p (.lst vs)) (μ++[.lst ds])∧Ext α F (α++[p]) F∧Rep K F (α++[p]) (.ref μ.length) (.ref p):=by
 refine ⟨r.newCell hp ⟨a05 r hp,vs,js,hr.mono (uk α F p)⟩,uk α F p,?_⟩
 unfold Rep
 exact ⟨p,by rw [← r.len,List.getElem?_append_right (Nat.le_refl _)];simp,rfl⟩
theorem RH.setCell {k:Nat} {a:Addr} {c0:Cell} (r:RH K Z α F H μ) (ha:α[k]? =some a) (hc:μ[k]? =some c0) (hd:c0≠.dead) (hok:Uq K α F (upd H a o) a c):RH K Z α F (upd H a o) (μ.set k c):=by
 have hF:F a=none:=by
  exact ((r.cell k a c0 ha hc).live hd).1
 have hZ:Z.z a=none:=r.zc k a c0 ha hc hd
 have hk:k < μ.length:=(List.getElem?_eq_some_iff.mp hc).1
 have at':∀ (j:Nat) (c':Cell),(μ.set k c)[j]? =some c'→(j=k∧c'=c)∨(j≠k∧μ[j]? =some c'):=fun j c' h=>by
  by_cases e:j=k
  ·subst e;rw [List.getElem?_set_self hk] at h;exact .inl ⟨rfl,(Option.some.inj h).symm⟩
  ·rw [List.getElem?_set_ne (Ne.symm e)] at h;exact .inr ⟨e,h⟩
 refine ⟨fun b u e=>?_,by simp [r.len],fun j b c' hj hc'=>?_,fun b u e=>?_,r.zf,fun j b c' hj hc' d'=>?_,fun i j b c1 c2 hi hj ci cj d1 d2=>?_,r.ext⟩
 ·rw [j9 (fun z=>by rw [z,hF] at e;cases e)];exact r.sub b u e
 ·rcases at' j c' hc' with ⟨e1,e2⟩ | ⟨e1,e2⟩
  ·subst e1;rw [ha] at hj;cases hj;rw [e2];exact hok
  ·refine (r.cell j b c' hj e2).mono (Ext.refl _ _) fun d'=>?_
   rw [j9 (fun z=>e1 (r.dis j k a c' c0 (by rw [← z];exact hj) ha e2 hc d' hd))]
 ·rw [j9 (fun z=>by rw [z,hZ] at e;cases e)];exact r.zs b u e
 ·rcases at' j c' hc' with ⟨e1,e2⟩ | ⟨e1,e2⟩
  ·subst e1;rw [ha] at hj;cases hj;exact hZ
  ·exact r.zc j b c' hj e2 d'
 ·rcases at' i c1 ci with ⟨e1,e2⟩ | ⟨e1,e2⟩
  ·rcases at' j c2 cj with ⟨g1,g2⟩ | ⟨g1,g2⟩
   ·omega
   ·subst e1
    exact r.dis i j b c0 c2 hi hj hc g2 hd d2
  ·rcases at' j c2 cj with ⟨g1,g2⟩ | ⟨g1,g2⟩
   ·subst g1
    exact r.dis i j b c1 c0 hi hj e2 hc d1 hd
   ·exact r.dis i j b c1 c2 hi hj e2 g2 d1 d2
end
noncomputable def Vh (ms:MAs):MX:=fun ρ μ=>(ms ρ μ).bind fun ds μ1=>.ok (.ref μ1.length) (μ1++[.lst ds])
section
variable {X:Cx} {EX:EXT} {e a b c:Expr} {pos:Pos} {m ma mb mc:MX} {es:List Expr} {ms:MAs}
theorem Gj (h:MA X EX es ms) (hl:es.length≤16777216:=by decide):ME X EX (.List es pos) (Vh ms):=by
 obtain ⟨t,p,s,l⟩:=h
 refine ⟨_,Kk p,fun Z α F H σ ρ μ Q R g=>?_⟩
 refine s Z α F H σ ρ μ _ R (GA.stepE (G:=GE X.K EX Z α F Q) g (fun _ _ h=>h) (fun h=>h) fun ds μ1 vs α1 F1 H1 hm R1 e1 p1 g1=>?_)
 refine ⟨by rw [← p1.length,sizeLine_eq,l _ _ _ _ hm];exact hl,fun q hq=>?_⟩
 obtain ⟨a1,a2,a3⟩:=Gp R1 p1 hq
 exact g1 _ _ _ _ a1 (e1.trans a2) a3
end
end M
set_option Elab.async false
set_option linter.all false
set_option maxRecDepth 100000
set_option maxHeartbeats 4000000
namespace M
open PySem PySem.Spec PyProof.Rows L2
noncomputable def f8:D→Bool
 | .lst _=>true
 | _=>false
noncomputable def Ca (d y:D) (μ:Mu):Res D:=match d with
 | .ref k=>match μ[k]? with
  | some (.lst ds)=>if ds.length < 16777216 then .ok .non (μ.set k (.lst (ds++[y]))) else .bad
  | _=>.bad
 | _=>.bad
noncomputable def ui (mo m:MX):MX:=fun ρ μ=>(mo ρ μ).bind fun d μ1=>if f8 (j4 μ1 d)=true then (m ρ μ1).bind fun y μ2=>Ca d y μ2 else .bad
noncomputable def Kq (ρ:En) (d i v:D) (μ:Mu):Res Out:=match d,i with
 | .ref k,.int j=>match μ[k]? with
  | some (.lst ds)=>match ixN ds.length j with
   | some n=>.ok (.nx ρ) (μ.set k (.lst (ds.set n v)))
   | none=>.bad
  | _=>.bad
 | _,_=>.bad
noncomputable def Wq (mo mi mv:MX):MSt:=fun ρ μ=>(mv ρ μ).bind fun v μ1=>(mo ρ μ1).bind fun d μ2=>(mi ρ μ2).bind fun i μ3=>Kq ρ d i v μ3
noncomputable def putVs (ks:List DK) (vs:List D) (q:DK) (v:D):List D:=List.zipWith (fun k w=>if k=q then v else w) ks vs
noncomputable def B3 (ρ:En) (d i v:D) (μ:Mu):Res Out:=match d with
 | .ref k=>match μ[k]?,qy i with
  | some (.dic ks vs),some q=>if ks.length < 16777216 then (if (ks.any fun k=>decide (k=q))=true then .ok (.nx ρ) (μ.set k (.dic ks (putVs ks vs q v))) else .ok (.nx ρ) (μ.set k (.dic (ks++[q]) (vs++[v])))) else .bad
  | _,_=>.bad
 | _=>.bad
noncomputable def Vk (mo mi mv:MX):MSt:=fun ρ μ=>(mv ρ μ).bind fun v μ1=>(mo ρ μ1).bind fun d μ2=>(mi ρ μ2).bind fun i μ3=>B3 ρ d i v μ3
section
variable {X:Cx} {EX:EXT} {e a b c o i:Expr} {pos pos':Pos} {m ma mb mc mo mi mv:MX} {es:List Expr} {ms:MAs}
theorem cu {K:PySem.W.Frag} {Z:ZS} {F H:Hp} {α:List Addr} {μ:Mu} {k:Nat} {v:V} {ds:List D} (R:RH K Z α F H μ) (p:Rep K F α (.ref k) v) (h:μ[k]? =some (.lst ds)):∃ a vs,v=.ref a∧α[k]? =some a∧H a=some (.lst vs)∧Reps K F α ds vs∧F a=none:=by
 unfold Rep at p
 obtain ⟨a,ha,hv⟩:=p
 obtain ⟨h1,vs,h2,h3⟩:=R.cell k a _ ha h
 exact ⟨a,vs,hv,ha,h2,h3,h1⟩
theorem aa2 {K:PySem.W.Frag} {Z:ZS} {F H:Hp} {α:List Addr} {μ:Mu} {k:Nat} {v:V} {ks:List DK} {ds:List D} (R:RH K Z α F H μ) (p:Rep K F α (.ref k) v) (h:μ[k]? =some (.dic ks ds)):∃ a vs,v=.ref a∧α[k]? =some a∧H a=some (.dK ((ks.map dk).zip vs))∧ks.length=ds.length∧Reps K F α ds vs∧F a=none:=by
 unfold Rep at p
 obtain ⟨a,ha,hv⟩:=p
 obtain ⟨h1,vs,h2,hl,h3⟩:=R.cell k a _ ha h
 exact ⟨a,vs,hv,ha,h2,hl,h3,h1⟩
theorem zk {apos cpos:Pos} (ho:ME X EX o mo) (ha:MA X EX [a] ms) (hm:∀ ρ μ,ms ρ μ=(m ρ μ).bind fun d μ1=>.ok [d] μ1)
  (hbase:attributeBase o "append" X.env (eval o X.env)=eval o X.env:=by rfl)
  (hfew:((backTo cpos (starEach [a] X.env)).all (fun x=> !x.1) && (backToKw cpos (keywordEach [] X.env)).all (fun x=>x.1.isSome)
   && decide ([a].length + ([]:List Keyword).length + (if ([]:List Keyword).isEmpty then 0 else 1) < 30))=true:=by rfl)
  (hline:(apos.endLine == cpos.line)=true:=by rfl) (hs:starEach [a] X.env=(false,eval a X.env)::starEach [] X.env:=by rfl) (hplain:(backTo cpos (starEach [] X.env)).any (·.1)=false:=by rfl) :
  ME X EX (.Call (.Attribute o "append" apos) [a] [] cpos) (ui mo m):=by
 obtain ⟨to,po,so⟩:=ho
 obtain ⟨ta,pa,sa,_⟩:=ha
 refine ⟨_,af1 PySem.F.plainAttrs_list PySem.F.slot_list_append PySem.F.type_list_append wx po pa hbase hfew hline hs hplain,fun Z α F H σ ρ μ Q R g=>?_⟩
 refine so Z α F H σ ρ μ _ R (GE.step (G:=GE X.K EX Z α F Q) g (fun _ _ h=>h) (fun h=>h) fun d μ1 v α1 F1 H1 R1 e1 p1 g1=>?_)
 by_cases hd:f8 (j4 μ1 d)=true
 ·rw [if_pos hd] at g1
  refine ⟨?_,?_⟩
  ·have k1:=R1.pk p1
   cases hq:j4 μ1 d with
   | lst xs =>
    rw [hq] at k1
    obtain ⟨q,us,rfl,hsq,hr⟩:=k1
    exact .inl ⟨rfl,us,hsq⟩
   | _=>rw [hq] at hd;cases hd
  ·refine sa Z α1 F1 H1 σ ρ μ1 _ (R.to R1 e1) ?_
   rw [hm]
   cases hy:m ρ μ1 with
   | exc x μ2=>rw [hy] at g1;exact g1
   | bad=>rw [hy] at g1;exact g1
   | ok y μ2 =>
    rw [hy] at g1
    intro vs α2 F2 H2 R2 e2 p2
    unfold Reps at p2
    obtain ⟨vy,r,rfl,p2,hr⟩:=p2
    have hr:r=[]:=hr
    subst hr
    have p1':=p1.mono e2
    have g1:GE X.K EX Z α F Q (Ca d y μ2):=g1
    unfold Ca at g1
    cases d with
    | ref k =>
     simp only at g1
     cases hc:μ2[k]? with
     | none=>rw [hc] at g1;exact g1.elim
     | some cc =>
      rw [hc] at g1
      cases cc with
      | lst ds =>
       simp only at g1
       split at g1
       ·rename_i hl
        obtain ⟨q,us,rfl,hα,hH,hr,hF⟩:=cu R2 p1' hc
        refine ⟨q,us,vy,rfl,rfl,hH,by rw [← hr.length,sizeLine_eq];exact hl,?_⟩
        exact g1 .non α2 F2 _ (R2.setCell hα hc (by simp) ⟨hF,_,js,hr.append (j2 p2 j6)⟩) (e1.trans e2) Gx
       ·exact g1.elim
      | _=>exact g1.elim
    | _=>exact g1.elim
 ·rw [if_neg hd] at g1;exact g1.elim
theorem Dc (ho:ME X EX o mo) (hi:ME X EX i mi) (hv:ME X EX e mv)
  (hs:swapsWithSole [.Subscript o i pos'] e pos.line X.env=pure false:=by rfl) (hw:swappedStores [.Subscript o i pos'] e X.env=pure none:=by rfl)
  (h1:(assignEach [.Subscript o i pos'] X.env).map (·.2)=[assign (.Subscript o i pos') X.env]:=by rfl)
  (ha:∀ v,assign (.Subscript o i pos') X.env v=(do
   let ov ← holding [v] (eval o X.env)
   let iv ← holding [v,ov] (eval i X.env)
   standAt pos'
   holding [v,ov,iv] (setItem ov iv v)
   release [v,ov,iv] []):=by intro _;rfl):MS X EX (.Assign [.Subscript o i pos'] e pos) (Wq mo mi mv):=by
 obtain ⟨to,po,so⟩:=ho
 obtain ⟨ti,pi,si⟩:=hi
 obtain ⟨tv,pv,sv⟩:=hv
 refine ⟨_,a42 pv (a45 po pi dl ha) hs hw h1,fun Z α F H σ ρ μ N R g=>?_⟩
 refine sv Z α F H σ ρ μ _ R (GE.step (G:=GS X.K EX Z α F N) g (fun _ _ h=>h) (fun h=>h) fun v μ1 vv α1 F1 H1 R1 e1 p1 g1=>?_)
 refine so Z α1 F1 H1 σ ρ μ1 _ (R.to R1 e1) (GE.step (G:=GS X.K EX Z α F N) g1 (fun _ _ h=>h) (fun h=>h) fun d μ2 vd α2 F2 H2 R2 e2 p2 g2=>?_)
 refine si Z α2 F2 H2 σ ρ μ2 _ (R.to R2 (e1.trans e2)) (GE.step (G:=GS X.K EX Z α F N) g2 (fun _ _ h=>h) (fun h=>h) fun j μ3 vj α3 F3 H3 R3 e3 p3 g3=>?_)
 have p1':=(p1.mono e2).mono e3
 have p2':=p2.mono e3
 unfold Kq at g3
 cases d with
 | ref k =>
  cases j with
  | int j =>
   simp only at g3
   cases hc:μ3[k]? with
   | none=>rw [hc] at g3;exact g3.elim
   | some cc =>
    rw [hc] at g3
    cases cc with
    | lst ds =>
     simp only at g3
     cases hx:ixN ds.length j with
     | none=>rw [hx] at g3;exact g3.elim
     | some n =>
      rw [hx] at g3
      obtain ⟨q,us,rfl,hα,hH,hr,hF⟩:=cu R3 p2' hc
      unfold Rep at p3
      refine ⟨q,us,j,n,rfl,p3,hH,by rw [← hr.length];exact hx,?_⟩
      have R4:=R3.setCell (o:=.lst (us.set n vv)) (c:=.lst (ds.set n v)) hα hc (by simp) ⟨hF,_,js,Reps.set p1' n hr⟩
      exact g3 σ α3 F3 _ (R.to R4 (e1.trans (e2.trans e3))) (e1.trans (e2.trans e3))
    | _=>exact g3.elim
  | _=>exact g3.elim
 | _=>exact g3.elim
theorem Xa {q:DK} {u:V}:∀ (ks:List DK) (us:List V),((ks.map dk).zip us).map (fun kv=>if kv.1=dk q then (kv.1,u) else kv)=(ks.map dk).zip (List.zipWith (fun k w=>if k=q then u else w) ks us)
 | [],us=>rfl
 | k::ks,[]=>rfl
 | k::ks,w::us=>by
  simp only [List.map_cons,List.zip_cons_cons,List.zipWith_cons_cons]
  rw [Xa ks us]
  congr 1
  by_cases e:k=q
  ·subst e;simp
  ·have e2:¬ dk k=dk q:=fun z=>e (vz z)
   simp [e,e2]
theorem fc {q:DK}:∀ (ks:List DK) (us:List V),ks.length=us.length→(((ks.map dk).zip us).any fun kv=>decide (kv.1=dk q))=(ks.any fun k=>decide (k=q))
 | [],[],_=>rfl
 | [],_::_,h=>by simp at h
 | k::ks,[],h=>by simp at h
 | k::ks,w::us,h=>by
  simp only [List.map_cons,List.zip_cons_cons,List.any_cons]
  rw [fc ks us (by simpa using h)]
  congr 1
  by_cases e:k=q
  ·subst e;simp
  ·have e2:¬ dk k=dk q:=fun z=>e (vz z)
   simp [e,e2]
theorem Vz {K:PySem.W.Frag} {F:Hp} {α:List Addr} {q:DK} {v:D} {u:V} (hv:Rep K F α v u):∀ (ks:List DK) (ds:List D) (us:List V),ks.length=ds.length→Reps K F α ds us→Reps K F α (putVs ks ds q v) (List.zipWith (fun k w=>if k=q then u else w) ks us)
 | [],[],us,_,h=>by have:=h.length;cases us with
   | nil=>exact j6
   | cons _ _=>simp at this
 | [],_::_,_,h,_=>by simp at h
 | k::ks,[],_,h,_=>by simp at h
 | k::ks,d::ds,us,hl,h=>by
  unfold Reps at h
  obtain ⟨w,r,rfl,h1,h2⟩:=h
  have ih:=Vz (q:=q) hv ks ds r (by simpa using hl) h2
  unfold putVs at ih ⊢
  simp only [List.zipWith_cons_cons]
  refine j2 ?_ ih
  by_cases e:k=q
  ·rw [if_pos e,if_pos e];exact hv
  ·rw [if_neg e,if_neg e];exact h1
theorem Ke (hu:X.A.units + 200 < cLine) (ho:ME X EX o mo) (hi:ME X EX i mi) (hv:ME X EX e mv) (hs:swapsWith e (some (.Subscript o i pos')) pos.line X.env=pure false:=by rfl):MS X EX (.Assign [.Subscript o i pos'] e pos) (Vk mo mi mv):=by
 obtain ⟨to,po,so⟩:=ho
 obtain ⟨ti,pi,si⟩:=hi
 obtain ⟨tv,pv,sv⟩:=hv
 refine ⟨_,B8 (by omega) po pi pv hs,fun Z α F H σ ρ μ N R g=>?_⟩
 refine sv Z α F H σ ρ μ _ R (GE.step (G:=GS X.K EX Z α F N) g (fun _ _ h=>h) (fun h=>h) fun v μ1 vv α1 F1 H1 R1 e1 p1 g1=>?_)
 refine so Z α1 F1 H1 σ ρ μ1 _ (R.to R1 e1) (GE.step (G:=GS X.K EX Z α F N) g1 (fun _ _ h=>h) (fun h=>h) fun d μ2 vd α2 F2 H2 R2 e2 p2 g2=>?_)
 refine si Z α2 F2 H2 σ ρ μ2 _ (R.to R2 (e1.trans e2)) (GE.step (G:=GS X.K EX Z α F N) g2 (fun _ _ h=>h) (fun h=>h) fun j μ3 vj α3 F3 H3 R3 e3 p3 g3=>?_)
 have p1':=(p1.mono e2).mono e3
 have p2':=p2.mono e3
 have ee:=e1.trans (e2.trans e3)
 unfold B3 at g3
 cases d with
 | ref k =>
  simp only at g3
  cases hc:μ3[k]? with
  | none=>rw [hc] at g3;exact g3.elim
  | some cc =>
   rw [hc] at g3
   cases cc with
   | dic ks ds =>
    cases hk:qy j with
    | none=>rw [hk] at g3;exact g3.elim
    | some q =>
     rw [hk] at g3
     simp only at g3
     split at g3
     ·rename_i hl
      obtain ⟨a,us,rfl,hα,hH,hlen,hr,hF⟩:=aa2 R3 p2' hc
      have hul:ks.length=us.length:=hlen.trans hr.length
      have hy:=Wh p3 hk
      have hsz:((ks.map dk).zip us).length < sizeLine:=by rw [List.length_zip,List.length_map,← hul,Nat.min_self,sizeLine_eq];exact hl
      refine ⟨a,_,rfl,by rw [hy];exact b8.k hH hsz,?_⟩
      unfold Y2
      rw [fc ks us hul]
      by_cases hq:(ks.any fun k=>decide (k=q))=true
      ·rw [if_pos hq] at g3 ⊢
       rw [Xa]
       have R4:=R3.setCell (o:=.dK ((ks.map dk).zip (List.zipWith (fun k w=>if k=q then vv else w) ks us))) (c:=.dic ks (putVs ks ds q v)) hα hc (by simp) ⟨hF,_,js,by unfold putVs;rw [List.length_zipWith,hlen,Nat.min_self],Vz p1' ks ds us hlen hr⟩
       exact g3 σ α3 F3 _ (R.to R4 ee) ee
      ·rw [if_neg hq] at g3 ⊢
       have ez:(ks.map dk).zip us++[(dk q,vv)]=((ks++[q]).map dk).zip (us++[vv]):=by
        rw [List.map_append,List.zip_append (by simpa using hul)]
        rfl
       rw [ez]
       have R4:=R3.setCell (o:=.dK (((ks++[q]).map dk).zip (us++[vv]))) (c:=.dic (ks++[q]) (ds++[v])) hα hc (by simp) ⟨hF,_,js,by simp [hlen],hr.append (j2 p1' j6)⟩
       exact g3 σ α3 F3 _ (R.to R4 ee) ee
     ·exact g3.elim
   | _=>cases hk:qy j <;> rw [hk] at g3 <;> exact g3.elim
 | _=>exact g3.elim
end
end M
set_option Elab.async false
set_option linter.all false
set_option maxRecDepth 100000
set_option maxHeartbeats 4000000
namespace M
open PySem PySem.Spec PyProof.Rows L2
noncomputable def Ite (K:PySem.W.Frag) (l:Addr):It :=
  ⟨fun i H=>∃ xs x,SqL K H l xs∧xs[i]? =some x,
   fun i H v H'=>∃ p x,v=.ref p∧H p=none∧(∀ xs,SqL K H l xs→xs[i]? =some x)∧H'=upd H p (.tup [.int i,x]),
   fun i H=>∃ xs,SqL K H l xs∧i=xs.length⟩
noncomputable def EnSt (e it l:Addr) (i:Nat) (h:Heap):Prop:=(∃ old,IsEnum h e it i old)∧h.IsListIter it l i
theorem Fp {P:Program} {w:World} {K:PySem.W.Frag} {elts:List Expr} {x1:Nat} {tpos:Pos} {e it l:Addr} (n1:l≠it) (n2:e≠it) (n3:e≠l) :
  Turn P w K (.Tuple elts x1 tpos) (Ite K l) [e,it] e (EnSt e it l) where
 mem:=by simp
 obj:=fun i h st b hb=>by
  obtain ⟨⟨old,he⟩,o,ho,hc,hd⟩:=st
  simp only [List.mem_cons,List.not_mem_nil,or_false] at hb
  rcases hb with rfl | rfl
  ·exact ⟨_,he,fun v z=>by cases z⟩
  ·exact ⟨o,ho,fun v z=>by rw [hd] at z;cases z⟩
 keep:=fun i h h' st k=>by
  obtain ⟨⟨old,he⟩,o,ho,r⟩:=st
  exact ⟨⟨old,k e (by simp) _ he⟩,o,k it (by simp) _ ho,r⟩
 item:=by
  intro X hP hw hK hc i pins s σ H E I hf st hg
  subst hP hw hK
  obtain ⟨⟨old,he⟩,hi⟩:=st
  obtain ⟨xs,x,q1,ex⟩:=hg
  obtain ⟨us,r1,pl,_⟩:=I.list q1
  have hh:X.A.in1.handled=none:=I.ok.hd hc
  have lx:i < us.toArray.size:=by
   have:=(List.getElem?_eq_some_iff.mp ex).1
   simp only [List.size_toArray,← r1.length];exact this
  refine wpAny_pyNext_enum_itemD (Draws.list hh it l n1 us.toArray) he ⟨hi,pl.isList⟩ lx n2 (by simp [n2,n3]) fun a h' tk pa eo st' T' _ kp=>?_
  refine ⟨_,rfl,wpAny_letOwnedTupleGo_enum eo fun h'' en sb=>?_⟩
  have fz:s.heap.objs.size≠e:=Nat.ne_of_gt (Heap.lt_size he)
  have kp':∀ b o,b∉[e,it]→s.heap.get? b=some o→h''.get? b=some o:=fun b o hb q=>by
   simp only [List.mem_cons,List.not_mem_nil,or_false,not_or] at hb
   exact sb.extBut b o hb.1 (kp b o hb.1 hb.2 q)
  obtain ⟨a',ea,ra⟩:=r1.get ex
  have pa':a=a':=by
   have:us.toArray[i]? =some a:=pa
   simp only [List.getElem?_toArray] at this
   rw [ea] at this
   exact (Option.some.inj this).symm
  subst pa'
  have T'':h''.get? s.heap.objs.size=some { cls:=.type "tuple",data:=.seq #[.int i tk,a]}:=sb.extBut _ _ fz T'
  have I':=k9 (t':=tk + 1) I hf kp' (vs:=[.int i,x]) (us:=[.int i tk,a]) (.cons ⟨tk,rfl⟩ (.cons ra .nil)) (by rw [sizeLine_eq];show 2≤16777216;decide) ⟨_,T'',rfl,_,rfl⟩
  refine ⟨.ref s.heap.objs.size,_,I',rfl,⟨_,x,rfl,I.fresh,fun xs' hx=>by rw [I.list_inj hx q1];exact ex,rfl⟩,⟨⟨a,en⟩,?_⟩,fun b hb=>?_⟩
  ·obtain ⟨o,ho,r⟩:=st'.1
   exact ⟨o,sb.extBut _ _ n2.symm ho,r⟩
  ·have:b < s.heap.objs.size:=by
    simp only [List.mem_cons,List.not_mem_nil,or_false] at hb
    rcases hb with rfl | rfl
    ·exact Heap.lt_size he
    ·obtain ⟨o,ho,_⟩:=hi;exact Heap.lt_size ho
   rw [j9 (Nat.ne_of_lt this)]
   exact (hf b hb).1
 done:=by
  intro X hP hw hK hc i pins s σ H E I hf st hg
  subst hP hw hK
  obtain ⟨⟨old,he⟩,hi⟩:=st
  obtain ⟨xs,q1,rfl⟩:=hg
  obtain ⟨us,r1,pl,_⟩:=I.list q1
  have hh:X.A.in1.handled=none:=I.ok.hd hc
  have el:xs.length=us.toArray.size:=by simp only [List.size_toArray];exact r1.length
  refine wpAny_pyNext_enum_endD (Draws.list hh it l n1 us.toArray) he (by rw [← el];exact ⟨hi,pl.isList⟩) fun h' sb=>⟨rfl,?_⟩
  exact k6 (t':=s.toks) I hf fun b o hb q=>by
   simp only [List.mem_cons,List.not_mem_nil,or_false,not_or] at hb
   exact sb b o hb.2 q
 self:=fun A i s Q E st h=>by
  obtain ⟨⟨old,he⟩,_⟩:=st
  exact wpAny_pyIter_enum he h
noncomputable def uw:Nat→List D→List D
 | _,[]=>[]
 | k,d::ds=>.tup [.int k,d]::uw (k + 1) ds
theorem wo:∀ (k:Nat) (ds:List D) (i:Nat),(uw k ds)[i]? =(ds[i]?).map fun d=>.tup [.int ((k + i:Nat):Int),d]
 | k,[],i=>by simp [uw]
 | k,d::ds,0=>by simp [uw]
 | k,d::ds,i + 1=>by
  have:=wo (k + 1) ds i
  simp only [uw,List.getElem?_cons_succ,this]
  congr 1
  funext z
  rw [show k + 1 + i=k + (i + 1) by omega]
theorem Q8:∀ (k:Nat) (ds:List D),(uw k ds).length=ds.length
 | _,[]=>rfl
 | k,d::ds=>by simp [uw,Q8 (k + 1) ds]
theorem Fz {K:PySem.W.Frag} {F:Hp} {α:List Addr} {l:Addr} {xs:List D} {us:List V} (h1:SqL K F l us) (r1:Reps K F α xs us):uf K α F (Ite K l) (uw 0 xs):=by
 intro Z α' F' H' μ' R e i
 have g1:SqL K H' l us:=(e.fr.trans R.sub).seq h1
 have e1:=r1.length
 rw [Q8]
 refine ⟨fun hi=>?_,fun hi=>⟨us,g1,by omega⟩⟩
 obtain ⟨u,a1,a2⟩:=r1.get (List.getElem?_eq_getElem (show i < xs.length by omega))
 refine ⟨⟨us,u,g1,a1⟩,fun x H2 y=>?_⟩
 obtain ⟨p,x',rfl,hp,m1,rfl⟩:=y
 have k1:=m1 us g1
 rw [a1] at k1
 cases k1
 obtain ⟨R2,s2,p2⟩:=zj R (j2 (uv (i:Int)) (j2 (a2.mono e) j6)) hp
 refine ⟨_,_,?_,R2,s2,p2⟩
 rw [wo,List.getElem?_eq_getElem (show i < xs.length by omega)]
 simp
noncomputable def Z5 (m:MX):MIt:=fun ρ μ=>(m ρ μ).bind fun d μ1=>ofO μ1 ((Xt d).map (uw 0))
section
variable {X:Cx} {EX:EXT} {a b:Expr} {pos p tpos:Pos} {ma mb:MX} {elts:List Expr} {x1:Nat}
theorem Wt (hg:Gl X "enumerate") (hm:X.mg "enumerate"=none) (ha:ME X EX a ma) (hs:starEach [a] X.env=[(false,eval a X.env)]:=by rfl) :
  MI X EX (.Tuple elts x1 tpos) (.Call (.Name "enumerate" p) [a] [] pos) (Z5 ma):=by
 obtain ⟨t,pt,st,lt⟩:=ma_cons ha ma_nil (by rw [hs];rfl)
 refine ⟨fun σ H R=>∀ pins s,Inv X pins σ H s→wpAny (model X.prog X.w) X.A (eval (.Call (.Name "enumerate" p) [a] [] pos) X.env) (fun v s1=>wpAny (model X.prog X.w) X.A (pyIter v) (PIE X pins σ (.Tuple elts x1 tpos) R) X.xe s1) X.xe s,fun pins s σ H R I h=>h pins s I,fun Z α F H σ ρ μ Rr R g pins s I=>?_⟩
 have hw:t σ H fun vs H1=>∃ x α1 F1 μ1 xs,RH X.K Z α1 F1 H1 μ1∧Ext α F α1 F1∧Reps X.K F1 α1 [x] vs∧Xt x=some xs∧(∀ J α' F' H',RH X.K Z α' F' H' μ1→Ext α F α' F'→uf X.K α' F' J (uw 0 xs)→Rr J H'):=by
  refine st Z α F H σ ρ μ _ R ?_
  unfold Z5 at g
  unfold mCons
  cases h1:ma ρ μ with
  | exc x μ1=>rw [h1] at g;exact g
  | bad=>rw [h1] at g;exact g
  | ok x μ1 =>
   rw [h1] at g
   simp only [bind_ok,mNil] at g ⊢
   intro vs α1 F1 H1 R1 e1 r1
   cases q1:Xt x with
   | none=>rw [q1] at g;exact g.elim
   | some xs =>
    rw [q1] at g
    exact ⟨x,α1,F1,μ1,xs,R1,e1,r1,q1,g⟩
 refine Call_ (Y9 I hg hm PyProof.Rows.boot_enumerate (PyProof.Rows.callWith_type1 (thn (pt pos pins s σ H _ I hw) fun us s1 ⟨vs,H1,I1,rr,q⟩=>?_) (by rw [hs];rfl) rfl))
 obtain ⟨x,α1,F1,μ1,xs,R1,e1,r1,q1,fin⟩:=q
 unfold Reps at r1
 obtain ⟨v,r,rfl,p1,hr⟩:=r1
 have hr:r=[]:=hr
 subst hr
 obtain ⟨u1,rfl,rv⟩:=Zk rr
 cases x with
 | lst ds =>
  cases q1
  unfold Rep at p1
  obtain ⟨l,v1,rfl,g1,h1⟩:=p1
  cases rv
  obtain ⟨w1,k1,pl,_⟩:=I1.list (R1.sub.seq g1)
  have a1:l < s1.heap.objs.size:=by obtain ⟨o,e,_⟩:=pl.isList;exact Heap.lt_size e
  refine call_enumerate_list pl.isList fun h' en li sz kp=>?_
  refine wpAny_pyIter_enum (s:={ s1 with heap:=h'}) en ?_
  have I5:Inv X pins σ H1 { s1 with heap:=h'}:=I1.kept (t':=s1.toks) kp
  refine ⟨s1.heap.objs.size + 1,_,_,Ite X.K l,H1,rfl,I5,Fp (Nat.ne_of_lt a1) (Nat.succ_ne_self _) (Nat.ne_of_gt (Nat.lt_succ_of_lt a1)),⟨⟨_,en⟩,li⟩,fun b hb=>?_,fin _ α1 F1 H1 R1 e1 (Fz g1 h1)⟩
  have hb':s1.heap.objs.size≤b:=by
   simp only [List.mem_cons,List.not_mem_nil,or_false] at hb
   rcases hb with rfl | rfl
   ·exact Nat.le_add_right _ _
   ·exact Nat.le_refl _
  exact I1.fpOk hb' (I1.hok.fresh hb')
 | _=>cases q1
end
end M
set_option Elab.async false
set_option linter.all false
set_option maxRecDepth 100000
set_option maxHeartbeats 4000000
namespace M
open PySem PySem.Spec PyProof.Rows L2
noncomputable def aa8 (a b:D):Option (List D):=match a,b with
 | .lst xs,.lst ys=>if xs.length + ys.length≤16777216 then some (xs++ys) else none
 | _,_=>none
noncomputable def newC (μ:Mu) (o:Option (List D)):Res D:=match o with
 | some ds=>.ok (.ref μ.length) (μ++[.lst ds])
 | none=>.bad
noncomputable def Gh (ma mb:MX):MX:=fun ρ μ=>(ma ρ μ).bind fun x μ1=>(mb ρ μ1).bind fun y μ2=>newC μ2 (aa8 (j4 μ2 x) (j4 μ2 y))
noncomputable def ag5 (ms:MAs) (mb:MX):MX:=fun ρ μ=>(ms ρ μ).bind fun ds μ1=>(mb ρ μ1).bind fun d μ2=>match d with
 | .int k=>if (-(2 ^ 63)≤k∧k < 2 ^ 63)∧ds.length * k.toNat≤16777216 then .ok (.lst (List.replicate k.toNat ds).flatten) μ2 else .bad
 | _=>.bad
noncomputable def Ab (ks:List DK) (ms:MAs):MX:=fun ρ μ=>(ms ρ μ).bind fun ds μ1=>.ok (.ref μ1.length) (μ1++[.dic ks ds])
section
variable {X:Cx} {EX:EXT} {e a b c:Expr} {pos pos2:Pos} {m ma mb mc:MX} {es:List Expr} {ms:MAs}
theorem az (ha:ME X EX a ma) (hb:ME X EX b mb):ME X EX (.BinOp a .Add b pos) (Gh ma mb):=by
 obtain ⟨ta,pa,sa⟩:=ha
 obtain ⟨tb,pb,sb⟩:=hb
 refine ⟨_,Du Gq pa pb,fun Z α F H σ ρ μ Q R g=>?_⟩
 refine sa Z α F H σ ρ μ _ R (GE.step (G:=GE X.K EX Z α F Q) g (fun _ _ h=>h) (fun h=>h) fun d1 μ1 v1 α1 F1 H1 R1 e1 p1 g1=>?_)
 refine sb Z α1 F1 H1 σ ρ μ1 _ (R.to R1 e1) (GE.step (G:=GE X.K EX Z α F Q) g1 (fun _ _ h=>h) (fun h=>h) fun d2 μ2 v2 α2 F2 H2 R2 e2 p2 g2=>?_)
 have k1:=R2.pk (p1.mono e2)
 have k2:=R2.pk p2
 cases h1:j4 μ2 d1 with
 | lst xs =>
  cases h2:j4 μ2 d2 with
  | lst ys =>
   rw [h1,h2] at g2
   rw [h1] at k1
   rw [h2] at k2
   obtain ⟨q1,us,rfl,s1,r1⟩:=k1
   obtain ⟨q2,ws,rfl,s2,r2⟩:=k2
   simp only [aa8] at g2
   split at g2
   ·rename_i hl
    refine ⟨q1,q2,us,ws,rfl,rfl,s1,s2,by rw [sizeLine_eq,← r1.length,← r2.length];exact hl,fun p hp=>?_⟩
    obtain ⟨a1,a2,a3⟩:=Gp R2 (r1.append r2) hp
    exact g2 _ _ _ _ a1 (e1.trans (e2.trans a2)) a3
   ·exact g2.elim
  | _=>rw [h1,h2] at g2;exact g2.elim
 | _=>rw [h1] at g2;cases h2:j4 μ2 d2 <;> rw [h2] at g2 <;> exact g2.elim
theorem V9 {K:PySem.W.Frag} {F:Hp} {α:List Addr} {ds:List D} {vs:List V} (h:Reps K F α ds vs):∀ k:Nat,Reps K F α (List.replicate k ds).flatten (List.replicate k vs).flatten
 | 0=>j6
 | k + 1=>by
  rw [List.replicate_succ,List.replicate_succ,List.flatten_cons,List.flatten_cons]
  exact h.append (V9 h k)
theorem a76 (h:MA X EX es ms) (hb:ME X EX b mb) (hl:es.length≤16777216:=by decide):ME X EX (.BinOp (.List es pos2) .Mult b pos) (ag5 ms mb):=by
 obtain ⟨t,p,s,l⟩:=h
 obtain ⟨tb,pb,sb⟩:=hb
 refine ⟨_,Du a61 (Kk p) pb,fun Z α F H σ ρ μ Q R g=>?_⟩
 refine s Z α F H σ ρ μ _ R (GA.stepE (G:=GE X.K EX Z α F Q) g (fun _ _ h=>h) (fun h=>h) fun ds μ1 vs α1 F1 H1 hm R1 e1 p1 g1=>?_)
 refine ⟨by rw [← p1.length,sizeLine_eq,l _ _ _ _ hm];exact hl,fun q hq=>?_⟩
 obtain ⟨a1,a2,a3⟩:=Ui R1 p1 hq
 have ex:Ext α F α1 (upd F1 q (.lst vs)):=e1.trans ⟨a2,fun _ _ h=>h⟩
 refine sb Z α1 _ _ σ ρ μ1 _ (R.to a1 ex) (GE.step (G:=GE X.K EX Z α F Q) g1 (fun _ _ h=>h) (fun h=>h) fun d2 μ2 v2 α2 F2 H2 R2 e2 p2 g2=>?_)
 cases d2 with
 | int k =>
  simp only at g2
  split at g2
  ·rename_i hk
   unfold Rep at p2
   refine ⟨q,k,vs,rfl,p2,R2.sub _ _ (e2.fr _ _ js),hk.1.1,hk.1.2,by rw [← p1.length,sizeLine_eq];exact hk.2,fun p' hp'=>?_⟩
   obtain ⟨b1,b2,b3⟩:=Ui R2 (V9 ((p1.mono ⟨a2,fun _ _ h=>h⟩).mono e2) k.toNat) hp'
   exact g2 _ _ _ _ b1 (ex.trans (e2.trans ⟨b2,fun _ _ h=>h⟩)) b3
  ·exact g2.elim
 | _=>exact g2.elim
theorem Fa {i:Int} {j:Nat} {p:Pos} {v:Expr} {ks:List (Option Expr)} {vs:List Expr} {kd:List DK} {ms:MAs} (hv:ME X EX v m) (hr:MPs X EX pos ks vs kd ms) :
  MPs X EX pos (some (.Constant (.int i) j p)::ks) (v::vs) (.inl i::kd) (mCons m ms):=by
 obtain ⟨tv,pv,sv⟩:=hv
 obtain ⟨hk,⟨trs,pr,sr⟩,lr⟩:=hr
 refine ⟨by simp [hk],⟨_,D9 Dt pv pr,fun Z α F H σ ρ μ Q R g=>?_⟩,fun ρ μ ds μ' h=>?_⟩
 rotate_left
 ·unfold mCons at h
  cases e1:m ρ μ with
  | ok d μ1 =>
   rw [e1] at h
   simp only [bind_ok] at h
   cases e2:ms ρ μ1 with
   | ok dr μ2 =>
    rw [e2] at h
    simp only [bind_ok] at h
    cases h
    simp [lr _ _ _ _ e2]
   | exc x μ2=>rw [e2] at h;cases h
   | bad=>rw [e2] at h;cases h
  | exc x μ1=>rw [e1] at h;cases h
  | bad=>rw [e1] at h;cases h
 show tv σ H _
 refine sv Z α F H σ ρ μ _ R (GE.step (G:=GA X.K EX Z α F fun vs H'=>Q (((Sum.inl i::kd).map fun k=>kV (dk k)).zip vs) H') g (fun _ _ h=>h) (fun h=>h) fun d μ1 v α1 F1 H1 R1 e1 p1 g1=>?_)
 refine sr Z α1 F1 H1 σ ρ μ1 _ (R.to R1 e1) (GA.step (G:=GA X.K EX Z α F fun vs H'=>Q (((Sum.inl i::kd).map fun k=>kV (dk k)).zip vs) H') g1 (fun _ _ h=>h) (fun h=>h) fun ds μ2 vs α2 F2 H2 R2 e2 p2 g2=>?_)
 exact g2 (v::vs) α2 F2 H2 R2 (e1.trans e2) (j2 (p1.mono e2) p2)
theorem a9 {keys:List (Option Expr)} {values:List Expr} {ks:List DK} {ms:MAs} (h:MPs X EX pos keys values ks ms) (nd:ks.Nodup) (hall:keys.all (·.isSome)=true) (hl:keys.length=values.length) (h0:keys≠[]) (h15:keys.length≤15) :
  ME X EX (.Dict keys values pos) (Ab ks ms):=by
 obtain ⟨hk,⟨trs,pp,sp⟩,lp⟩:=h
 refine ⟨_,Bt pp hall hl h0 h15,fun Z α F H σ ρ μ Q R g=>?_⟩
 intro p hp
 have hz:Z.z p=none:=by
  cases e:Z.z p with
  | none=>rfl
  | some u=>rw [R.hp.zs _ _ e] at hp;cases hp
 refine sp (ZS.up Z p (.dK [])) α F (upd H p (.dK [])) σ ρ μ _ ⟨R.hp.hold _ hp,R.len,R.sl⟩ (GA.stepE (G:=GE X.K EX Z α F Q) g (fun _ _ h=>EX.mono _ _ _ _ _ hz h) (fun h=>h) fun ds μ1 vs α1 F1 H1 hm R1 e1 p1 g1=>?_)
 have hlen:=lp _ _ _ _ hm
 have hlen2:=p1.length
 refine ⟨R1.zs _ _ Jb,(ks.map dk).zip vs,?_,?_,?_⟩
 ·show (ks.map fun k=>kV (dk k)).zip vs=((ks.map dk).zip vs).map fun kv=>(kV kv.1,kv.2)
  have:(ks.map fun k=>kV (dk k))=(ks.map dk).map kV:=by simp
  rw [this]
  exact vb kV _ _
 ·rw [List.length_zip,List.length_map];omega
 ·have nd2:(((ks.map dk).zip vs).map (·.1)).Nodup:=by
   rw [List.map_fst_zip (by simp;omega)]
   exact xp nd
  rw [ww _ [] (by simpa using nd2),List.nil_append]
  have R2:=R1.unholdC (o':=.dK ((ks.map dk).zip vs)) (c:=.dic ks ds) hz ⟨R1.zf p _ Jb,vs,js,by omega,p1.mono (uk _ _ _)⟩
  refine g1 _ _ _ _ R2 (e1.trans (uk _ _ _)) ?_
  unfold Rep
  exact ⟨p,by rw [← R1.len,List.getElem?_append_right (Nat.le_refl _)];simp,rfl⟩
end
end M
set_option Elab.async false
set_option linter.all false
set_option maxRecDepth 100000
set_option maxHeartbeats 4000000
namespace M
open PySem PySem.Spec PyProof.Rows L2
section
variable {Md:Model} {A:Around} {E:Value→Shared→Prop} {s:Shared} {base:Heap} {env:Env} {outer:List Env} {L e:Addr}
end
end M
set_option Elab.async false
set_option linter.all false
set_option maxRecDepth 100000
set_option maxHeartbeats 4000000
namespace M
open PySem PySem.Spec PyProof.Rows L2
section
variable {P:Program} {w:World} {H H0 H':Hp} {h h' h0:Heap} {a T L:Addr} {C:Value} {dx tr tr':Option Addr} {fs:List Addr} {env:Env} {outer:List Env}
end
section
variable {P:Program} {w:World} {K:PySem.W.Frag} {mg:Str→Option Value} {base:Heap} {N:List Str} {qual:Str} {sc:Scope} {f:Addr} {cdv:Value} {A:Around} {outer:List Env} {s:Shared} {H:Hp} {E:XK}
end
end M
set_option Elab.async false
set_option linter.all false
set_option maxRecDepth 100000
set_option maxHeartbeats 4000000
namespace M
open PySem PySem.Spec PyProof.Rows L2
noncomputable abbrev XCs:=Nat→Str×Str
section
variable {P:Program} {w:World} {K:PySem.W.Frag} {mg:Str→Option Value} {base:Heap} {xc:XCs}
end
section
variable {X:Cx} {e a b c:Expr} {pos:Pos} {m ma mb mc:MX} {es rest:List Expr} {ms:MAs} {E:XK} {xc:XCs}
end
end M
set_option Elab.async false
set_option linter.all false
set_option maxRecDepth 100000
set_option maxHeartbeats 4000000
namespace M
open PySem PySem.Spec PyProof.Rows L2
section
variable {prog:Program} {w:World} {A:Around} {E:Value→Shared→Prop} {h:Heap} {g:Array GenState} {d:Drawn} {t:Nat} {os:OsState}
variable {nm q:Str} {C N f:Addr} {bs bm bmB:List Value} {hdct:Bool} {sn:List Str} {sub:List Value} {ab:Bool} {col:Option Bool} {dd:Option Addr} {k0 k1 k2 k3 k5:Option Value} {B newId initId:String}
end
end M
set_option Elab.async false
set_option linter.all false
set_option maxRecDepth 100000
set_option maxHeartbeats 4000000
namespace M
open PySem PySem.Spec PyProof.Rows L2 PySem.Builtin PySem.Builtin.ObjectAttr
section
variable {prog:Program} {w:World} {A:Around} {E:Value→Shared→Prop} {s:Shared} {K:PySem.W.Frag} {x C:Addr} {name:Str} {v:Value}
end
section
variable {prog:Program} {w:World} {A:Around} {E:Value→Shared→Prop} {s:Shared} {K:PySem.W.Frag} {x C f:Addr} {name:Str} {v:Value}
end
end M
set_option Elab.async false
set_option linter.all false
set_option maxRecDepth 100000
set_option maxHeartbeats 4000000
namespace M
open PySem PySem.Spec PyProof.Rows L2
section
variable {X:Cx} {pos p1 p2 p3 p4 p5 p6 p7:Pos} {self at_:Str} {txt:Str} {j:Nat} {D C f:Addr} {nm:Str} {xD:Str}
end
end M
set_option Elab.async false
set_option linter.all false
set_option maxRecDepth 100000
set_option maxHeartbeats 4000000
namespace M
open PySem PySem.Spec PyProof.Rows L2
end M
set_option Elab.async false
set_option linter.all false
set_option maxRecDepth 100000
set_option maxHeartbeats 4000000
namespace M
open PySem PySem.Spec PyProof.Rows L2
section
variable {P:Program} {w:World} {K:PySem.W.Frag} {mg:Str→Option Value} {base:Heap} {N:List Str} {qual:Str} {sc:Scope} {f:Addr} {cdv:Value} {A:Around} {outer:List Env} {s:Shared} {H:Hp} {E:XK}
end
end M
set_option Elab.async false
set_option linter.all false
set_option maxRecDepth 100000
set_option maxHeartbeats 4000000
namespace M
open PySem PySem.Spec PyProof.Rows L2
section
variable {X:Cx} {pins:List (Addr×Obj)} {σ:L2.St} {H:Hp} {s:Shared} {h':Heap} {a:Addr} {C:Value} {dx tr tr':Option Addr} {fs:List Addr}
end
section
variable {X:Cx} {pins:List (Addr×Obj)} {σ:L2.St} {H:Hp} {s:Shared}
end
section
variable {X:Cx} {pins pins':List (Addr×Obj)} {σ:L2.St} {H:Hp} {s:Shared} {xe:Value→Shared→Prop} {a:Addr}
end
end M
set_option Elab.async false
set_option linter.all false
set_option maxRecDepth 100000
set_option maxHeartbeats 4000000
namespace M
open PySem PySem.Spec PyProof.Rows L2
section
variable {X:Cx} {EX:EXT}
end
end M
set_option Elab.async false
set_option linter.all false
set_option maxRecDepth 100000
set_option maxHeartbeats 4000000
namespace M
open PySem PySem.Spec PyProof.Rows L2 PySem.Builtin PySem.Builtin.ObjectAttr
section
variable {prog:Program} {w:World} {A:Around} {E:Value→Shared→Prop} {s:Shared} {K:PySem.W.Frag} {x C:Addr} {name:Str} {v:Value} {ox od:Obj}
end
section
variable {X:Cx} {EX:EXT} {e:Expr} {m:MX} {pos:Pos}
end
end M
set_option Elab.async false
set_option linter.all false
set_option maxRecDepth 100000
set_option maxHeartbeats 4000000
namespace M
open PySem PySem.Spec PyProof.Rows L2
section
variable {X:Cx} {EX:EXT} {N G:List Str}
end
section
variable {P:Program} {w:World} {K:PySem.W.Frag} {mg:Str→Option Value} {base:Heap} {xc:XCs}
end
end M
set_option Elab.async false
set_option linter.all false
set_option maxRecDepth 100000
set_option maxHeartbeats 4000000
namespace M
open PySem PySem.Spec PyProof.Rows L2
theorem bh {K:PySem.W.Frag} {φ:Fn} {H:Hp} {a:Addr} {ns:List Int} (hS:SqL K H a (ns.map V.int)) (h:∃ μ,φ [.lst (ns.map .int)] []=.ok (.bl true) μ):spM K 1 φ [.ref a] H (fun v _=>v=.bl true) (fun _ _ _=>False):=by
 obtain ⟨μ,h⟩:=h
 refine ⟨⟨fun _=>none,[],fun _=>none⟩,[],H,[.lst (ns.map .int)],[],⟨jr.refl H,rfl,fun k a c hk=>(by simp at hk),fun b o e=>(by cases e),fun b o e=>(by cases e),fun k a c hk=>(by simp at hk),fun j k a c c' hk=>(by simp at hk),⟨fun b o e=>(by cases e),fun k a hk=>(by simp at hk)⟩⟩,?_,rfl,?_⟩
 ·refine j2 ?_ j6
  unfold Rep
  exact ⟨a,_,rfl,hS,zl ns⟩
 ·rw [h]
  intro v α' F' H' _ _ r
  unfold Rep at r
  exact r
theorem walk_lawM {l:PySem.W.OpenLaw} {q:Program} {loose:List Str} {XP:(Str→Option Value)→Heap→Prop} {YP:World→Heap→Prop} {d:DefRec} {K:Params→PySem.W.Frag} {k:Nat} {x:Str} {φ:Fn} (hn:l.most=some 63) (hdf:d.params.defaults=[]) (hr:Room k callerA)
  (hY:∀ (w:World) (h:Heap),YP w h→(K w.params).In h)
  (F:∀ (w:World) (mg:Str→Option Value) (fa:Addr) (h:Heap),(K w.params).In h→h.Ns mainGlobals mg→mg d.name=some (.ref fa) →
   ∃ fd:FuncData,Qx fd [x]∧∀ base:Heap,FnOk l.prog w (K w.params) mg base CX0 k fa fd [x] (spM (K w.params) 1 φ))
  (hlaw:∀ ns:List Int,ns.length≤63→∃ μ,φ [.lst (ns.map .int)] []=.ok (.bl true) μ) :
  PySem.W.WalkO q loose XP YP l.row.toRowW d [] (fun f vs=>PySem.call f vs) :=
 L2.walk_of (n:=63) (k:=k) (x:=x) (CX:=fun _=>CX0) (sp:=fun w=>spM (K w.params) 1 φ) hn (by decide) hdf hr hY
  (fun w mg fa h hK hG hm=>by
   obtain ⟨fd,hb,hf⟩:=F w mg fa h hK hG hm
   exact ⟨fd,fun s u=>.of_eq (hb [u] rfl),fun base _ _=>hf base⟩)
  (fun w H a ns hl _ hS=>bh hS (hlaw ns hl)) fun _ _ _ _ _ z=>z
end M
set_option Elab.async false
set_option linter.all false
set_option maxRecDepth 100000
set_option maxHeartbeats 4000000
namespace M
open PySem PySem.Spec PyProof.Rows L2
section
variable {Md:Model} {A:Around} {E:Value→Shared→Prop} {s:Shared} {base:Heap} {env:Env} {outer:List Env} {L e:Addr}
end
section
variable {X:Cx} {pins:List (Addr×Obj)} {σ:L2.St} {H:Hp} {s:Shared} {h h':Heap} {a:Addr} {C:Value} {dx tr:Option Addr} {fs:List Addr} {P:Program} {w:World}
end
section
variable {X:Cx} {E:XK}
end
section
variable {P:Program} {w:World} {K:PySem.W.Frag} {mg:Str→Option Value} {base:Heap} {N:List Str} {qual:Str} {sc:Scope} {f:Addr} {cdv:Value} {A:Around} {outer:List Env} {s:Shared} {H:Hp} {E:XK}
end
end M
set_option Elab.async false
set_option linter.all false
set_option maxRecDepth 100000
set_option maxHeartbeats 4000000
namespace M
open PySem PySem.Spec PyProof.Rows L2
section
variable {P:Program} {w:World} {K:PySem.W.Frag} {mg:Str→Option Value} {base:Heap} {xc:XCs}
end
end M
set_option Elab.async false
set_option linter.all false
set_option maxRecDepth 100000
set_option maxHeartbeats 4000000
namespace M
open PySem PySem.Spec PyProof.Rows L2
section
variable {X:Cx} {EX:EXT} {o e value:Expr} {m mo mv:MX} {pos pos' tpos:Pos}
end
section
variable {X:Cx} {EX:EXT} {e:Expr} {es:List Expr} {ms:MAs} {p pos:Pos}
end
end M
set_option Elab.async false
set_option linter.all false
set_option maxRecDepth 100000
set_option maxHeartbeats 4000000
namespace M
open PySem PySem.Spec PyProof.Rows L2
section
variable {P:Program} {w:World} {K:PySem.W.Frag} {mg:Str→Option Value} {base:Heap}
end
noncomputable def Vg:MX:=fun _ μ=>.ok (.ref μ.length) (μ++[.dic [] []])
theorem Gi {X:Cx} {EX:EXT} {pos:Pos}:ME X EX (.Dict [] [] pos) Vg:=by
 refine ⟨_,Dr,fun Z α F H σ ρ μ Q R g=>?_⟩
 intro p hp
 have R1:=R.hp.newCell (p:=p) (o':=.dK []) (c:=.dic [] []) hp ⟨a05 R.hp hp,[],js,rfl,j6⟩
 refine g _ (α++[p]) F _ R1 (uk _ _ _) ?_
 unfold Rep
 exact ⟨p,by rw [← R.hp.len,List.getElem?_append_right (Nat.le_refl _),Nat.sub_self];rfl,rfl⟩
theorem len_0 {β:Type} {us:List β} (h:us.length=0):us=[]:=List.length_eq_zero_iff.mp h
theorem Ve {β:Type} {us:List β} {n:Nat} (h:us.length=n + 1):∃ a vs,us=a::vs∧vs.length=n:=by
 cases us with
 | nil=>cases h
 | cons a vs=>exact ⟨a,vs,rfl,Nat.succ.inj h⟩
theorem len_1 {β:Type} {us:List β} (h:us.length=1):∃ a,us=[a]:=by
 obtain ⟨a,vs,rfl,q⟩:=Ve h
 cases len_0 q
 exact ⟨a,rfl⟩
theorem len_2 {β:Type} {us:List β} (h:us.length=2):∃ a b,us=[a,b]:=by
 obtain ⟨a,vs,rfl,q⟩:=Ve h
 obtain ⟨b,rfl⟩:=len_1 q
 exact ⟨a,b,rfl⟩
theorem len_3 {β:Type} {us:List β} (h:us.length=3):∃ a b c,us=[a,b,c]:=by
 obtain ⟨a,vs,rfl,q⟩:=Ve h
 obtain ⟨b,c,rfl⟩:=len_2 q
 exact ⟨a,b,c,rfl⟩
theorem len_4 {β:Type} {us:List β} (h:us.length=4):∃ a b c d,us=[a,b,c,d]:=by
 obtain ⟨a,vs,rfl,q⟩:=Ve h
 obtain ⟨b,c,d,rfl⟩:=len_3 q
 exact ⟨a,b,c,d,rfl⟩
theorem len_5 {β:Type} {us:List β} (h:us.length=5):∃ a b c d e,us=[a,b,c,d,e]:=by
 obtain ⟨a,vs,rfl,q⟩:=Ve h
 obtain ⟨b,c,d,e,rfl⟩:=len_4 q
 exact ⟨a,b,c,d,e,rfl⟩
end M
set_option Elab.async false
set_option linter.all false
set_option maxRecDepth 100000
set_option maxHeartbeats 4000000
namespace M
open PySem PySem.Spec PyProof.Rows L2
section
variable {X:Cx} {EX:EXT} {o:Expr} {mo:MX}
noncomputable def Zs:List D→Option (List Int)
 | []=>some []
 | .int b::r=>(Zs r).map (b:: ·)
 | _=>none
theorem Gy {K:PySem.W.Frag} {F:Hp} {α:List Addr}:∀ {ds:List D} {vs:List V} {bs:List Int},Reps K F α ds vs→Zs ds=some bs→vs=bs.map V.int
 | [],vs,bs,h,e=>by
  cases e
  unfold Reps at h
  exact h
 | d::ds,vs,bs,h,e=>by
  unfold Reps at h
  obtain ⟨v,vr,rfl,h1,h2⟩:=h
  cases d with
  | int b =>
   simp only [Zs,Option.map_eq_some_iff] at e
   obtain ⟨br,e1,rfl⟩:=e
   unfold Rep at h1
   rw [h1,Gy h2 e1]
   rfl
  | _=>cases e
end
end M
set_option Elab.async false
set_option linter.all false
set_option maxRecDepth 100000
set_option maxHeartbeats 4000000
namespace M
open PySem PySem.Spec PyProof.Rows L2
section
variable {X:Cx} {EX:EXT} {o a:Expr} {mo m:MX} {ms:MAs}
end
end M
set_option Elab.async false
set_option linter.all false
set_option maxRecDepth 100000
set_option maxHeartbeats 1000000
namespace M
open PySem PySem.Spec PyProof.Rows L2
noncomputable def ag6:MSt:=fun _ _=>.bad
theorem a73 {X:Cx} {EX:EXT} {st:Stmt}:MS X EX st ag6:=⟨fun _ _ _=>False,fun _ _ _ _ _ _ h=>h.elim,fun Z α F H σ ρ μ N R g=>g⟩
section
variable {prog:Program} {w:World} {A:Around} {E:Value→Shared→Prop} {s:Shared}
end
section
variable {X:Cx} {EX:EXT} {a:Expr} {ma:MX} {p1 p2 q1 q2:Pos}
end
end M
set_option Elab.async false
set_option linter.all false
set_option maxRecDepth 100000
set_option maxHeartbeats 1000000
namespace M
open PySem PySem.Spec PyProof.Rows L2
theorem fnC {P:Program} {w:World} {K:PySem.W.Frag} {mg:Str→Option Value} {base:Heap} {x:Str} {st:Stmt} {ps:List Str} {k n j:Nat} {b:MSt} (D:J3 K mg x st ps) (N G:List Str) (S:FnScope N ps (defScope st)) (hl:ag7 (defScope st) N=true) (hg:glB (defScope st) G=true) (hj:N.length - ps.length=j) (hn:ps.length=n)
  (hb:∀ (f:Addr) (cdv:Value) (A:Around) (outer:List Env) (s:Shared) (H:Hp) (E:XK),Room k (A.deeper (envOfC x (defScope st) s.heap.objs.size f cdv))→Ct (X9 CX0 P w K mg base N x (defScope st) f cdv A outer s H E).nox N G→MSs (X9 CX0 P w K mg base N x (defScope st) f cdv A outer s H E).nox NoX (defBody st) b) :
  ul P w K mg base x (k + 1) n (fnOf j b) :=
 ad D hn fun f fd F=>fo F S hj hn fun cdv A outer s H E hr=>hb f cdv A outer s H E hr (a09 S.nd (cr hl) (a02 hg) hr)
noncomputable def J9 (K:PySem.W.Frag) (x:Str) (st:Stmt):Prop:=∃ (f:Addr) (oc:Value) (od:Option Addr) (kV doc pm:Value) (an:Option Addr) (cdv ct:Value) (osl:Array (Option Value)),PySem.W.nsIn K mainGlobals x=some (some (.ref f))∧K.lookup f=some ⟨oc,od,.func (PySem.W.fnOf x x (defArgs st) (defBody st) (defScope st) .none kV doc pm an cdv ct),osl⟩∧PySem.W.codeIn K cdv x=true∧PySem.W.keepIn K (.ref f)=true
theorem jd {K:PySem.W.Frag} {mg:Str→Option Value} {h:Heap} {x:Str} {st:Stmt} {ps:List Str} (X:K.In h) (G:h.Ns mainGlobals mg) (d:J9 K x st) (hb:∀ (kV doc pm:Value) (an:Option Addr) (cdv ct:Value),Qx (PySem.W.fnOf x x (defArgs st) (defBody st) (defScope st) .none kV doc pm an cdv ct) ps):J3 K mg x st ps:=by
 obtain ⟨f,oc,od,kV,doc,pm,an,cdv,ct,osl,a,l,c,k⟩:=d
 exact aa3 X G a l c k (hb kV doc pm an cdv ct)
theorem dfact {K:PySem.W.Frag} {x:Str} {st:Stmt} {f:Addr} {oc:Value} {od an:Option Addr} {osl:Array (Option Value)} {kV doc pm cdv ct:Value} (a:PySem.W.nsIn K mainGlobals x=some (some (.ref f))) (l:K.lookup f=some ⟨oc,od,.func (PySem.W.fnOf x x (defArgs st) (defBody st) (defScope st) .none kV doc pm an cdv ct),osl⟩)
  (c:PySem.W.codeIn K cdv x=true) (k:PySem.W.keepIn K (.ref f)=true):J9 K x st:=⟨f,oc,od,kV,doc,pm,an,cdv,ct,osl,a,l,c,k⟩
end M
set_option Elab.async false
set_option linter.all false
set_option maxRecDepth 100000
set_option maxHeartbeats 1000000
namespace M
open PySem PySem.Spec PyProof.Rows L2
noncomputable def Aa:MSt:=fun ρ μ=>.ok (.ct ρ) μ
theorem a4 {X:Cx} {EX:EXT} {pos:Pos}:MS X EX (.Continue pos) Aa:=⟨_,Vv,fun Z α F H σ ρ μ N R g=>g σ α F H R (Ext.refl _ _)⟩
noncomputable def aj7 (lo c:Int) (n:Nat):It:=⟨fun i _=>i < n,fun i H x H'=>H'=H∧x=.int (lo + i * c),fun i _=>n≤i⟩
theorem V4 {P:Program} {w:World} {K:PySem.W.Frag} {tg:Expr} (it:Addr) (lo c:Int) (n:Nat):Turn P w K tg (aj7 lo c n) [it] it (fun i h=>IsRangeIter h it (lo + (i:Nat) * c) ((n:Int) - (i:Nat)) c) where
 mem:=by simp
 obj:=fun i h st b hb=>by
  have e:b=it:=by simpa using hb
  subst e
  exact ⟨_,st,fun v z=>by
   have z':Data.fields _=Data.cell v:=z
   cases z'⟩
 keep:=fun i h h' st k=>k it (by simp) _ st
 item:=by
  intro X hP hw hK hc i pins s σ H E I hf st hg
  subst hP hw hK
  obtain ⟨f0,f1,f2,f3,f4,f5⟩:=hf it (by simp)
  have W:=Walks.range (prog:=X.prog) (w:=X.w) (I.ok.hd hc) it lo c n
  refine W.item i s _ _ hg st fun v h' tk hv st' kk=>?_
  obtain ⟨t,rfl⟩:=hv
  have I1:Inv X pins σ H { s with heap:=h',toks:=tk}:=I.turned (fun b o hb e=>kk b o (by simpa using hb) e) f0 f1 f3 f4 f5
  exact ⟨_,rfl,C5 (s:={ s with heap:=h',toks:=tk}) (n:="range_iterator") st' rfl rfl (by decide) ⟨.int (lo + i * c),H,I1,⟨t,rfl⟩,⟨rfl,rfl⟩,st',fun b hb=>(hf b hb).1⟩⟩
 done:=by
  intro X hP hw hK hc i pins s σ H E I hf st hg
  subst hP hw hK
  obtain ⟨f0,f1,f2,f3,f4,f5⟩:=hf it (by simp)
  exact wpAny_pyNext_range_end (I.ok.hd hc) st (by have:n≤i:=hg;omega) fun h' eb=>⟨rfl,I.turned (t':=s.toks) (fun b o hb e=>eb b o hb e) f0 f1 f3 f4 f5⟩
 self:=fun _ _ _ _ _ st h=>wpAny_pyIter_rangeiter st h
noncomputable def X7 (hi lo:Int):List D:=(List.range (hi - lo).toNat).map fun k=>.int (hi - (k:Nat))
noncomputable def vh (ds:List D):Option (List D):=match ds with
 | [.int i,.int j,.int c]=>if c= -1∧ -1000000≤i∧i < 1000000∧ -1000000≤j∧j < 1000000 then some (X7 i j) else none
 | _=>none
noncomputable def Qf (ms:MAs):MIt:=fun ρ μ=>(ms ρ μ).bind fun ds μ1=>ofO μ1 (vh ds)
theorem Fy {K:PySem.W.Frag} {F:Hp} {α:List Addr} (i0 j:Int):uf K α F (aj7 i0 (-1) (i0 - j).toNat) (X7 i0 j):=by
 intro Z α' F' H' μ' R e i
 have hl:(X7 i0 j).length=(i0 - j).toNat:=by simp [X7]
 refine ⟨fun h=>⟨by rw [hl] at h;exact h,fun x H2 y=>?_⟩,fun h=>by rw [hl] at h;exact Nat.le_of_eq h⟩
 obtain ⟨rfl,rfl⟩:=y
 rw [hl] at h
 refine ⟨.int (i0 - (i:Nat)),F',by simp [X7,h],R,jr.refl _,?_⟩
 have:i0 + (i:Int) * -1=i0 - i:=by omega
 rw [this]
 exact uv _
section
variable {X:Cx} {EX:EXT}
theorem Kp {i j:Int} (h1:-1000000≤i) (h2:i < 1000000) (h3:-1000000≤j) (h4:j < 1000000):Builtin.Range.small i j (-1)=true∧Builtin.Range.rangeSize i j (-1)=((i - j).toNat:Int):=by
 have hs:Builtin.Range.rangeSize i j (-1)=((i - j).toNat:Int):=by
  unfold Builtin.Range.rangeSize
  rw [if_neg (by decide)]
  split
  ·rw [show -(-1:Int)=1 by decide,Int.ediv_one]
   omega
  ·omega
 refine ⟨?_,hs⟩
 have fit:∀ x:Int,-3000000≤x→x < 3000000→Builtin.Range.rangeFitsLong x=true:=fun x a b=>by
  unfold Builtin.Range.rangeFitsLong
  simp only [Bool.and_eq_true,decide_eq_true_eq]
  omega
 unfold Builtin.Range.small
 rw [hs,fit i (by omega) (by omega),fit j (by omega) (by omega),fit (-1) (by decide) (by decide),fit ((i - j).toNat:Int) (by omega) (by omega),if_neg (by decide),fit (j + (-1 + 1)) (by omega) (by omega),Bool.or_true]
 rfl
theorem a6 {a b c tg:Expr} {p pos:Pos} {ms:MAs} (hg:Gl X "range") (hm:X.mg "range"=none) (ha:MA X EX [a,b,c] ms) (hs:starEach [a,b,c] X.env=(false,eval a X.env)::starEach [b,c] X.env:=by rfl) (hs2:(backTo pos (starEach [b,c] X.env)).any (·.1)=false:=by rfl):MI X EX tg (.Call (.Name "range" p) [a,b,c] [] pos) (Qf ms):=by
 obtain ⟨t,pt,st,_⟩:=ha
 refine ⟨fun σ H R=>∀ pins s,Inv X pins σ H s→wpAny (model X.prog X.w) X.A (eval (.Call (.Name "range" p) [a,b,c] [] pos) X.env) (fun v s1=>wpAny (model X.prog X.w) X.A (pyIter v) (PIE X pins σ tg R) X.xe s1) X.xe s,fun pins s σ H R I h=>h pins s I,fun Z α F H σ ρ μ Rr R g pins s I=>?_⟩
 have hw:t σ H fun vs H1=>∃ i j α1 F1 μ1,RH X.K Z α1 F1 H1 μ1∧Ext α F α1 F1∧vs=[.int i,.int j,.int (-1)]∧(-1000000≤i∧i < 1000000∧ -1000000≤j∧j < 1000000)∧(∀ J α' F' H',RH X.K Z α' F' H' μ1→Ext α F α' F'→uf X.K α' F' J (X7 i j)→Rr J H'):=by
  refine st Z α F H σ ρ μ _ R ?_
  unfold Qf at g
  cases h1:ms ρ μ with
  | exc x μ1=>rw [h1] at g;exact g
  | bad=>rw [h1] at g;exact g
  | ok ds μ1 =>
   rw [h1] at g
   intro vs α1 F1 H1 R1 e1 p
   simp only [bind_ok] at g
   cases hr:vh ds with
   | none=>rw [hr] at g;exact g.elim
   | some xs =>
    rw [hr] at g
    unfold vh at hr
    split at hr
    ·rename_i i j c
     split at hr
     ·rename_i hj
      obtain ⟨rfl,hj⟩:=hj
      cases hr
      unfold Reps at p
      obtain ⟨v,r,rfl,p1,p2⟩:=p
      unfold Reps at p2
      obtain ⟨v',r',rfl,p3,p4⟩:=p2
      unfold Reps at p4
      obtain ⟨v'',r'',rfl,p5,p6⟩:=p4
      unfold Reps at p6
      subst p6
      unfold Rep at p1 p3 p5
      subst p1 p3 p5
      exact ⟨i,j,α1,F1,μ1,R1,e1,rfl,hj,g⟩
     ·cases hr
    ·cases hr
 refine Call_ (Y9 I hg hm PyProof.Rows.boot_range (PyProof.Rows.callWith_type1 (thn (pt pos pins s σ H _ I hw) fun us s1 ⟨vs,H1,I1,rr,q⟩=>?_) hs hs2))
 obtain ⟨i,j,α1,F1,μ1,R1,e1,rfl,hj,fin⟩:=q
 cases rr with
 | cons r1 rr =>
  cases rr with
  | cons r2 rr =>
   cases rr with
   | cons r3 rr =>
    cases rr
    obtain ⟨t1,rfl⟩:=r1
    obtain ⟨t2,rfl⟩:=r2
    obtain ⟨t3,rfl⟩:=r3
    obtain ⟨sm,sz⟩:=Kp hj.1 hj.2.1 hj.2.2.1 hj.2.2.2
    refine call_range_3 (by decide) ?_ (.inl (PyProof.noPylong_small (by decide)))
    refine wpAny_pyIter_range (IsRange.new ..) sm ?_
    have I2:Inv X pins σ H1 { s1 with heap:=s1.heap.push { cls:=.type "range",data:=.fields #[.int i t1,.int j t2,.int (-1) t3]}}:=I1.kept (t':=s1.toks) fun b o e=>Heap.get?_push_of_some _ e
    refine ⟨_,[_],_,_,H1,rfl,I2.kept (t':=s1.toks) fun b o e=>Heap.get?_push_of_some _ e,V4 _ i (-1) (i - j).toNat,?_,fun b hb=>?_,fin _ α1 F1 H1 R1 e1 (Fy i j)⟩
    ·have e2:(((i - j).toNat:Nat):Int) - ((0:Nat):Int)=Builtin.Range.rangeSize i j (-1):=by rw [sz];omega
     have e3:i + ((0:Nat):Int) * -1=i:=by omega
     show IsRangeIter _ _ (i + ((0:Nat):Int) * -1) ((((i - j).toNat:Nat):Int) - ((0:Nat):Int)) (-1)
     rw [e2,e3]
     exact Heap.get?_push_size _ rfl
    ·have e:b=(s1.heap.push { cls:=.type "range",data:=.fields #[.int i t1,.int j t2,.int (-1) t3]}).objs.size:=by simpa using hb
     subst e
     exact I2.fpOk (Nat.le_refl _) (I2.hok.fresh (Nat.le_refl _))
noncomputable def Cz:GL:=fun ds=>match ds with
 | [.lst xs]=>some (.tup xs)
 | _=>none
theorem Ey:ye X (.type "tuple") (fun xs H Q=>∃ (p:Addr) (vs:List V),xs=[.ref p]∧SqL X.K H p vs∧∀ q,H q=none→Q (.ref q) (upd H q (.tup vs))):=by
 intro pins s σ H xs us Q I r h
 obtain ⟨p,vs,rfl,hq,q⟩:=h
 obtain ⟨u,rfl,rx⟩:=Zk r
 cases rx
 obtain ⟨its,r',pl,hz⟩:=I.list hq
 have hlen:=r'.length
 refine call_tuple_list pl.isList (fun h' kp=>?_) (by rw [List.size_toArray,← hlen];exact hz)
 have I1:Inv X pins σ H { s with heap:=h'}:=I.kept (t':=s.toks) kp
 exact ⟨.ref _,_,I1.laid (o:=.tup vs) (t':=s.toks) (fun b o e=>Heap.get?_push_of_some _ e) (Nat.le_refl _) ⟨hz,its,r',⟨_,Heap.get?_push_size _ rfl,rfl,0,rfl⟩⟩,rfl,q _ (I1.hok.fresh (Nat.le_refl _))⟩
theorem aa5:zm X (.type "tuple") Cz:=by
 refine ⟨_,Ey,fun Z α F H μ ds c vs Q R hp hg k=>?_⟩
 match ds,hg with
 | [.lst xs],hg =>
  obtain ⟨v,r,rfl,⟨q,us,rfl,hs,hr⟩,hq⟩:=hp
  have hq:r=[]:=hq
  subst hq
  cases hg
  refine ⟨q,us,rfl,hs,fun p hp=>?_⟩
  obtain ⟨a1,a2,a3⟩:=zj R hr hp
  exact k _ _ _ a1 a2 a3
end
end M
set_option Elab.async false
set_option linter.all false
set_option maxRecDepth 100000
set_option maxHeartbeats 1000000
namespace M
open PySem PySem.Spec PyProof.Rows L2
noncomputable def ae (c:Cell):Option D:=match c with
 | .lst ds=>some (.lst ds)
 | .dic ks ds=>some (.dic ks ds)
 | _=>none
noncomputable def Q1 (i:Nat) (n:MSt):MSt:=fun ρ μ=>match ρ[i]? with
 | some (some (.ref k))=>match (μ[k]?).bind ae with
  | some d=>n (ρ.set i (some d)) (μ.set k .dead)
  | none=>.bad
 | _=>.bad
section
variable {K:PySem.W.Frag} {Z:ZS} {F H:Hp} {α:List Addr} {μ:Mu} {k:Nat} {a:Addr} {c:Cell} {d:D} {o:HO}
theorem RH.frz (r:RH K Z α F H μ) (ha:α[k]? =some a) (hc:μ[k]? =some c) (hd:c≠.dead) (ho:H a=some o):RH K Z α (upd F a o) H (μ.set k .dead)∧Ext α F α (upd F a o):=by
 have hF:F a=none:=((r.cell k a c ha hc).live hd).1
 have hZ:Z.z a=none:=r.zc k a c ha hc hd
 have hk:k < μ.length:=(List.getElem?_eq_some_iff.mp hc).1
 have sF:jr F (upd F a o):=fun b u e=>by rw [j9 (fun z=>by rw [z,hF] at e;cases e)];exact e
 have ex:Ext α F α (upd F a o):=⟨sF,fun _ _ h=>h⟩
 have at':∀ (j:Nat) (c':Cell),(μ.set k .dead)[j]? =some c'→c'≠.dead→j≠k∧μ[j]? =some c':=fun j c' h hd'=>by
  by_cases e:j=k
  ·subst e;rw [List.getElem?_set_self hk] at h;exact absurd (Option.some.inj h).symm hd'
  ·rw [List.getElem?_set_ne (Ne.symm e)] at h;exact ⟨e,h⟩
 refine ⟨⟨fun b u e=>?_,by simp [r.len],fun j b c' hj hc'=>?_,r.zs,fun b u e=>?_,fun j b c' hj hc' d'=>?_,fun i j b c1 c2 hi hj ci cj d1 d2=>?_,r.ext.trans ex⟩,ex⟩
 ·by_cases hb:b=a
  ·subst hb;rw [js] at e;rw [ho];exact e
  ·rw [j9 hb] at e;exact r.sub b u e
 ·by_cases d':c'=.dead
  ·subst d';trivial
  ·obtain ⟨e1,e2⟩:=at' j c' hc' d'
   refine (r.cell j b c' hj e2).go ex (fun _=>?_) fun _=>rfl
   rw [j9 (fun z=>e1 (r.dis j k a c' c (by rw [← z];exact hj) ha e2 hc d' hd))]
 ·rw [j9 (fun z=>by rw [z,hZ] at e;cases e)];exact r.zf b u e
 ·obtain ⟨_,e2⟩:=at' j c' hc' d'
  exact r.zc j b c' hj e2 d'
 ·obtain ⟨_,e2⟩:=at' i c1 ci d1
  obtain ⟨_,g2⟩:=at' j c2 cj d2
  exact r.dis i j b c1 c2 hi hj e2 g2 d1 d2
theorem af (r:RH K Z α F H μ) (ha:α[k]? =some a) (hc:μ[k]? =some c) (hf:ae c=some d):∃ o,H a=some o∧c≠.dead∧Rep K (upd F a o) α d (.ref a):=by
 have h:=r.cell k a c ha hc
 have hF:c≠.dead→F a=none:=fun hd=>(h.live hd).1
 have sF:∀ o,c≠.dead→Ext α F α (upd F a o):=fun o hd=>⟨fun b u e=>by rw [j9 (fun z=>by rw [z,hF hd] at e;cases e)];exact e,fun _ _ h=>h⟩
 cases c with
 | lst ds =>
  cases hf
  obtain ⟨_,vs,h2,h3⟩:=h
  refine ⟨_,h2,by simp,?_⟩
  unfold Rep
  exact ⟨a,vs,rfl,SqL.of js,h3.mono (sF _ (by simp))⟩
 | dic ks ds =>
  cases hf
  obtain ⟨_,vs,h2,hl,h3⟩:=h
  refine ⟨_,h2,by simp,?_⟩
  unfold Rep
  exact ⟨a,vs,rfl,js,hl,h3.mono (sF _ (by simp))⟩
 | _=>cases hf
end
theorem xo {X:Cx} {EX:EXT} {s:Stmt} {n:MSt} (i:Nat) (h:MS X EX s n):MS X EX s (Q1 i n):=by
 obtain ⟨t,pt,st⟩:=h
 refine ⟨t,pt,fun Z α F H σ ρ μ N R g=>?_⟩
 unfold Q1 at g
 split at g
 ·rename_i k hk
  split at g
  ·rename_i d hd
   cases hc:μ[k]? with
   | none=>rw [hc] at hd;cases hd
   | some c =>
    rw [hc] at hd
    obtain ⟨v,hv,hr⟩:=R.sl i _ hk
    unfold Rep at hr
    obtain ⟨a,ha,rfl⟩:=hr
    obtain ⟨o,ho,nd,rp⟩:=af R.hp ha hc hd
    obtain ⟨R1,e1⟩:=R.hp.frz ha hc nd ho
    have hi:i < ρ.length:=(List.getElem?_eq_some_iff.mp hk).1
    have R2:RS X.K Z α (upd F a o) H σ (ρ.set i (some d)) (μ.set k .dead):=⟨R1,by simp [R.len],fun j d' hj=>by
     by_cases z:j=i
     ·subst z
      rw [List.getElem?_set_self hi] at hj
      cases hj
      exact ⟨_,hv,rp⟩
     ·rw [List.getElem?_set_ne (Ne.symm z)] at hj
      obtain ⟨v',h1,h2⟩:=R.sl j d' hj
      exact ⟨v',h1,h2.mono e1⟩⟩
    refine st Z α (upd F a o) H σ _ _ N R2 ?_
    cases er:n (ρ.set i (some d)) (μ.set k .dead) with
    | bad=>rw [er] at g;exact g
    | exc x μ1=>rw [er] at g;exact g
    | ok out μ1 =>
     rw [er] at g
     cases out with
     | nx ρ'=>exact fun σ' α' F' H' R' e'=>g σ' α' F' H' R' (e1.trans e')
     | bk ρ'=>exact fun σ' α' F' H' R' e'=>g σ' α' F' H' R' (e1.trans e')
     | ct ρ'=>exact fun σ' α' F' H' R' e'=>g σ' α' F' H' R' (e1.trans e')
     | rt w=>exact fun u α' F' H' R' e'=>g u α' F' H' R' (e1.trans e')
  ·exact g.elim
 ·exact g.elim
noncomputable def Z2 (ns:List Int):List Int:=ns.mergeSort fun a b=>decide (a≤b)
theorem Xd {l ns:List Int} (hp:l.Perm ns) (hs:l.Pairwise (· ≤ ·)):Z2 ns=l:=by
 have h2:(Z2 ns).Pairwise (fun a b=>decide (a≤b)=true):=List.pairwise_mergeSort (fun a b c h1 h2=>by simp only [decide_eq_true_eq] at *;omega) (fun a b=>by simp only [Bool.or_eq_true,decide_eq_true_eq];omega) ns
 have h3:(Z2 ns).Pairwise (· ≤ ·):=h2.imp fun h=>by simpa using h
 exact ((List.mergeSort_perm ns _).trans hp.symm).eq_of_pairwise (fun a b _ _ h1 h2=>by omega) h3 hs
noncomputable def gSorted:GL:=fun ds=>match ds with
 | [.lst xs]=>(Zs xs).bind fun ns=>if ns.length < 64 then some (.lst ((Z2 ns).map .int)) else none
 | _=>none
section
variable {X:Cx} {EX:EXT}
theorem kz:∀ {bs:List Int} {us:List Value},jq (bs.map V.int) us→IntsAre us bs
 | [],us,h=>by cases h;exact .nil
 | b::bs,us,h=>by
  cases h with
  | cons r rr =>
   obtain ⟨t,rfl⟩:=r
   exact .cons b t (kz rr)
theorem K1:∀ {bs:List Int} {us:List Value},IntsAre us bs→jq (bs.map V.int) us
 | _,_,.nil=>.nil
 | _,_,.cons n t h=>.cons ⟨t,rfl⟩ (K1 h)
theorem vq:ye X (.builtin "sorted") (fun xs H Q=>∃ (p:Addr) (bs:List Int),xs=[.ref p]∧SqL X.K H p (bs.map V.int)∧bs.length < 64∧∀ q,H q=none→Q (.ref q) (upd H q (.lst ((Z2 bs).map V.int)))):=by
 intro pins s σ H xs us Q I r h
 obtain ⟨p,bs,rfl,hq,hl,q⟩:=h
 obtain ⟨u,rfl,rx⟩:=Zk r
 cases rx
 obtain ⟨its,r',pl,hz⟩:=I.list hq
 have hlen:its.length=bs.length:=by have:=r'.length;rw [List.length_map] at this;omega
 refine sorted_ints pl.isList (kz r') (by omega) fun out ns' h1 h2 h3=>?_
 obtain rfl:Z2 bs=ns':=Xd h2 h3
 obtain ⟨e,he⟩:=sortedAll_at s.heap its out
 have he':(sortedAll s.heap its out).get? (s.heap.objs.size + 1)=some { cls:=.type "list",data:=.seq out.toList.toArray e}:=by rw [Array.toArray_toList];exact he
 refine ⟨.ref _,_,I.laid (a:=s.heap.objs.size + 1) (o:=.lst ((Z2 bs).map V.int)) (t':=s.toks) (fun _ _=>sortedAll_old) (Nat.le_succ _) ⟨?_,_,_,K1 h1,he'⟩,rfl,q _ (I.hok.fresh (Nat.le_succ _))⟩
 rw [List.length_map,sizeLine_eq,show (Z2 bs).length=bs.length from List.length_mergeSort _]
 omega
theorem Ez:zm X (.builtin "sorted") gSorted:=by
 refine ⟨_,vq,fun Z α F H μ ds c vs Q R hp hg k=>?_⟩
 match ds,hg with
 | [.lst xs],hg =>
  obtain ⟨v,r,rfl,⟨q,us,rfl,hs,hr⟩,hq⟩:=hp
  have hq:r=[]:=hq
  subst hq
  simp only [gSorted,Option.bind_eq_some_iff] at hg
  obtain ⟨bs,e,hg⟩:=hg
  split at hg
  ·rename_i hl
   cases hg
   refine ⟨q,bs,rfl,by rw [← Gy hr e];exact hs,hl,fun p hp=>?_⟩
   obtain ⟨a1,a2,a3⟩:=Ui R (zl _) hp
   exact k _ _ _ a1 a2 a3
  ·cases hg
noncomputable def ad6 (d:D):Option D:=match d with
 | .int n=>if -1000000≤n∧n < 1000000 then some (.lst ((List.range n.toNat).map fun k=>.int (k:Nat))) else none
 | _=>none
noncomputable def mListRng (m:MX):MX:=fun ρ μ=>(m ρ μ).bind fun d μ1=>ofO μ1 (ad6 d)
theorem em {n:Nat} {acc:Array Value} (h:ItemsOf (fun i v=>∃ t,v=.int (0 + (i:Nat) * 1) t) acc n):jq ((List.range n).map fun k=>V.int (k:Nat)) acc.toList:=by
 obtain ⟨h1,h2⟩:=h
 have h1:acc.size=n:=h1
 subst h1
 have go:∀ (j:Nat) (l:List Value),(∀ i v,l[i]? =some v→∃ t,v=Value.int ((j + i:Nat):Int) t)→jq ((List.range' j l.length).map fun k=>V.int (k:Nat)) l:=by
  intro j l
  induction l generalizing j with
  | nil=>intro _;exact .nil
  | cons v l ih =>
   intro hl
   rw [List.length_cons,List.range'_succ,List.map_cons]
   obtain ⟨t,rfl⟩:=hl 0 v rfl
   refine .cons ⟨t,by simp⟩ (ih (j + 1) fun i v hv=>?_)
   obtain ⟨t,e⟩:=hl (i + 1) v hv
   exact ⟨t,by rw [e,show j + (i + 1)=j + 1 + i by omega]⟩
 have:=go 0 acc.toList fun i v hv=>by
  obtain ⟨t,e⟩:=h2 i v (by rw [← Array.getElem?_toList];exact hv)
  exact ⟨t,by rw [e];simp⟩
 rw [Array.length_toList,← List.range_eq_range'] at this
 exact this
variable {a:Expr} {ma:MX} {p1 p2 q1 q2:Pos}
theorem Kb (hc:X.calm=true) (hg:Gl X "list") (hm:X.mg "list"=none) (hg2:Gl X "range") (hm2:X.mg "range"=none) (ha:ME X EX a ma)
  (hs:starEach [.Call (.Name "range" p1) [a] [] q1] X.env=[(false,eval (.Call (.Name "range" p1) [a] [] q1) X.env)]:=by rfl) (hs2:starEach [a] X.env=[(false,eval a X.env)]:=by rfl) :
  ME X EX (.Call (.Name "list" p2) [.Call (.Name "range" p1) [a] [] q1] [] q2) (mListRng ma):=by
 obtain ⟨t,pt,st,lt⟩:=ma_cons ha ma_nil (by rw [hs2];rfl)
 refine ⟨fun σ H Q=>∀ pins s,Inv X pins σ H s→wpAny (model X.prog X.w) X.A (eval (.Call (.Name "list" p2) [.Call (.Name "range" p1) [a] [] q1] [] q2) X.env) (EP X pins σ Q) X.xe s,fun pins s σ H Q I h=>h pins s I,fun Z α F H σ ρ μ Q R g pins s I=>?_⟩
 have hw:t σ H fun vs H1=>∃ n α1 F1 μ1,RH X.K Z α1 F1 H1 μ1∧Ext α F α1 F1∧vs=[.int n]∧(-1000000≤n∧n < 1000000)∧(∀ v α' F' H',RH X.K Z α' F' H' μ1→Ext α F α' F'→Rep X.K F' α' (.lst ((List.range n.toNat).map fun k=>.int (k:Nat))) v→Q v H'):=by
  refine st Z α F H σ ρ μ _ R ?_
  unfold mListRng at g
  unfold mCons
  cases h1:ma ρ μ with
  | exc x μ1=>rw [h1] at g;exact g
  | bad=>rw [h1] at g;exact g
  | ok x μ1 =>
   rw [h1] at g
   simp only [bind_ok,mNil] at g ⊢
   intro vs α1 F1 H1 R1 e1 r1
   cases x with
   | int n =>
    have e0:ad6 (.int n)=if -1000000≤n∧n < 1000000 then some (.lst ((List.range n.toNat).map fun k=>.int (k:Nat))) else none:=rfl
    rw [e0] at g
    by_cases hn:-1000000≤n∧n < 1000000
    ·rw [if_pos hn] at g
     unfold Reps at r1
     obtain ⟨v,r,rfl,p1,hr⟩:=r1
     have hr:r=[]:=hr
     subst hr
     obtain rfl:v=.int n:=p1
     exact ⟨n,α1,F1,μ1,R1,e1,rfl,hn,g⟩
    ·rw [if_neg hn] at g;exact g.elim
   | _=>exact g.elim
 refine Call_ (Y9 I hg hm M.boot_list (PyProof.Rows.callWith_type1 ?_ (by rw [hs];rfl) rfl))
 rw [hs]
 refine Calls.spliced_cons (Call_ (Y9 I hg2 hm2 PyProof.Rows.boot_range (PyProof.Rows.callWith_type1 (thn (pt q1 pins s σ H _ I hw) fun us s1 ⟨vs,H1,I1,rr,q⟩=>?_) (by rw [hs2];rfl) rfl)))
 obtain ⟨n,α1,F1,μ1,R1,e1,rfl,hn,fin⟩:=q
 obtain ⟨u1,rfl,rv⟩:=Zk rr
 obtain ⟨t1,rfl⟩:=rv
 refine call_range_1 (Calls.spliced_nil ?_)
 have sz:Builtin.Range.rangeSize 0 n 1=(n.toNat:Int):=by
  unfold Builtin.Range.rangeSize
  rw [if_pos (by decide)]
  split
  ·rw [Int.ediv_one]
   omega
  ·omega
 have sm:Builtin.Range.small 0 n 1=true:=by
  have fit:∀ x:Int,-3000000≤x→x < 3000000→Builtin.Range.rangeFitsLong x=true:=fun x a b=>by
   unfold Builtin.Range.rangeFitsLong
   simp only [Bool.and_eq_true,decide_eq_true_eq]
   omega
  unfold Builtin.Range.small
  rw [sz,fit 0 (by decide) (by decide),fit n (by omega) (by omega),fit 1 (by decide) (by decide),fit (n.toNat:Int) (by omega) (by omega)]
  simp only [Bool.and_true,Bool.true_and]
  first
   | rfl
   | (rw [if_pos (by decide)];rw [fit _ (by omega) (by omega),Bool.or_true])
   | (simp;rw [fit _ (by omega) (by omega)];simp)
 have I2:Inv X pins σ H1 { s1 with heap:=s1.heap.push { cls:=.type "range",data:=.fields #[.int 0 s1.toks,.int n t1,.int 1 (s1.toks + 1)]},toks:=s1.toks + 1 + 1}:=I1.kept (t':=s1.toks + 1 + 1) fun b o e=>Heap.get?_push_of_some _ e
 refine call_list_range (I.ok.hd hc) (IsRange.new ..) sm sz (by omega) fun h' tk acc c kp hS' hacc=>?_
 have hv:=em hacc
 have hf:H1 (s1.heap.push { cls:=.type "range",data:=.fields #[.int 0 s1.toks,.int n t1,.int 1 (s1.toks + 1)]}).objs.size=none:=I2.hok.fresh (Nat.le_refl _)
 have I3:=I2.laid (a:=(s1.heap.push { cls:=.type "range",data:=.fields #[.int 0 s1.toks,.int n t1,.int 1 (s1.toks + 1)]}).objs.size) (o:=.lst ((List.range n.toNat).map fun k=>V.int (k:Nat))) (t':=tk) kp (Nat.le_refl _) ⟨by rw [List.length_map,List.length_range,sizeLine_eq];omega,acc.toList,c,hv,by rw [Array.toArray_toList];exact hS'⟩
 have hr:Reps X.K F1 α1 ((List.range n.toNat).map fun k=>D.int (k:Nat)) ((List.range n.toNat).map fun k=>V.int (k:Nat)):=by
  have:=zl (K:=X.K) (F:=F1) (α:=α1) ((List.range n.toNat).map fun k=>((k:Nat):Int))
  rw [List.map_map,List.map_map] at this
  exact this
 obtain ⟨a1,a2,a3⟩:=Ui R1 hr hf
 exact ⟨.ref _,_,I3,rfl,fin _ α1 _ _ a1 (e1.trans ⟨a2,fun _ _ h=>h⟩) a3⟩
end
end M
set_option Elab.async false
set_option linter.all false
set_option maxRecDepth 100000
set_option maxHeartbeats 1000000
namespace M
open PySem PySem.Spec PyProof.Rows L2 PySem.Builtin PySem.Builtin.ObjectAttr
theorem Wn:typeLookup (.type "list") "keys"=pure none:=by rw [typeLookup_type,builtinLookup_eq_fast];kernel_rfl
theorem Wm:typeLookup (.type "list") "__getattr__"=pure none:=by rw [typeLookup_type,builtinLookup_eq_fast];kernel_rfl
theorem Kt:isSubtype (.type "AttributeError") (.type "AttributeError")=pure true:=by rw [isSubtype_type];kernel_rfl
section
variable {α:Type} {Md:Model} {A:Around} {E:Value→Shared→Prop} {s:Shared}
theorem D0 {self:Value} {name msg:Str} {Q:α→Shared→Prop} (hm:msg.length≤sizeLine) (hh:A.handled=none)
  (hq:∀ h' tk' e oe,(∀ b o,s.heap.get? b=some o→h'.get? b=some o)→h'.get? e=some oe→oe.cls=.type "AttributeError"→E (.ref e) { s with heap:=h',toks:=tk'}):wpAny Md A (raiseAttrError self name msg:Sem α) Q E s:=by
 unfold raiseAttrError
 refine wpAny_bind (wpAny_mkStr (wpAny_bind ?_) hm)
 unfold newExc newTuple
 refine wpAny_bind (wpAny_newObj_type ?_ (by size_fits))
 refine wpAny_bind (m:=firstArgMember _ _) (wpAny_of_eq (a:=Value.none) (by kernel_rfl) ?_)
 refine wpAny_newObj_type ?_ (by size_fits)
 refine wpAny_bind (wpAny_mkText (wpAny_bind ?_))
 obtain ⟨h,g,d,t,os⟩:=s
 generalize hh2:Heap.push (Heap.push h _) _=h2
 have he:h2.get? (h.push { cls:=.type "tuple",data:=.seq #[Value.str msg t]}).objs.size=some { cls:=.type "AttributeError",data:=.fields (#[.ref h.objs.size,.none,.none,.none,.bool false,.none]++ownMembersOf (.type "AttributeError") [Value.str msg t])}:=by
  rw [← hh2];exact Heap.get?_push_size _ rfl
 have hk:∀ b o,h.get? b=some o→h2.get? b=some o:=fun b o e=>by rw [← hh2];exact Heap.get?_push_of_some _ (Heap.get?_push_of_some _ e)
 have hne:∀ b o,h.get? b=some o→b≠(h.push { cls:=.type "tuple",data:=.seq #[Value.str msg t]}).objs.size:=fun b o q=>Nat.ne_of_lt (Heap.lt_size (Heap.get?_push_of_some _ q))
 generalize (h.push { cls:=.type "tuple",data:=.seq #[Value.str msg t]}).objs.size=e at he hne
 generalize h.objs.size=t0 at he
 have hT:(⟨h2,g,d,t + 1 + 1,os⟩:Shared).TypeIs (.ref e) "AttributeError":=⟨_,he,rfl⟩
 have e1:(#[Value.ref t0,Value.none,Value.none,Value.none,Value.bool false,Value.none]++ownMembersOf (.type "AttributeError") [Value.str msg t])= #[Value.ref t0,Value.none,Value.none,Value.none,Value.bool false,Value.none,unsetMember,unsetMember]:=rfl
 rw [e1] at he
 show wpAny Md A (noteAttr (.ref e) self (.str name (t + 1))) _ _ ⟨h2,g,d,t + 1 + 1,os⟩
 have lk:∀ {Q':Bool→Shared→Prop},Q' true ⟨h2,g,d,t + 1 + 1,os⟩→wpAny Md A (lacksNameAndObj (.ref e)) Q' E ⟨h2,g,d,t + 1 + 1,os⟩:=by
  intro Q' q
  unfold lacksNameAndObj
  refine wpAny_bind (wpAny_isInstance hT Kt ?_)
  simp only [Bool.not_true,Bool.false_eq_true,if_false]
  refine wpAny_bind (wpAny_load he ?_)
  exact wpAny_pure q
 unfold noteAttr
 refine wpAny_bind (lk ?_)
 rw [if_pos rfl]
 refine wpAny_bind (wpAny_rule (wpAny_bind (wpAny_typeOf hT ?_)))
 show wpAny Md A (layMembers e 6 #[.str name (t + 1),self]) _ _ _
 unfold layMembers
 refine wpAny_bind (wpAny_load he ?_)
 refine wpAny_update' he ?_
 unfold raiseNew
 refine wpAny_bind (wpAny_handled ?_)
 rw [hh]
 first
  | refine wpAny_throw ?_
  | refine wpAny_bind (wpAny_pure (wpAny_throw ?_))
 refine hq _ _ _ _ (fun b o q=>?_) (Heap.get?_update_self _ he rfl) rfl
 exact (Heap.get?_update_other _ _ (Ne.symm (hne b o q))).trans (hk b o q)
end
section
variable {prog:Program} {w:World} {A:Around} {E:Value→Shared→Prop} {h:Heap} {g:Array GenState} {d:Drawn} {t:Nat} {os:OsState} {a:Addr} {o:Obj}
theorem ai {tk:Tok} {Q:Fin→Shared→Prop} {its:Array Value} {n:Nat} {sl:Array (Option Value)} (hx:h.get? a=some ⟨.type "list",none,.seq its n,sl⟩) (hh:A.handled=none)
  (hq:∀ h' tk' e oe,(∀ b o,h.get? b=some o→h'.get? b=some o)→h'.get? e=some oe→oe.cls=.type "AttributeError"→E (.ref e) ⟨h',g,d,tk',os⟩) :
  wpAny (model prog w) A (Builtin.«object.__getattribute__» ⟨[.ref a,.str "keys" tk],[]⟩) Q E ⟨h,g,d,t,os⟩:=by
 have hT:(⟨h,g,d,t,os⟩:Shared).TypeIs (.ref a) "list":=⟨_,hx,rfl⟩
 have f4:=Wn
 repeat (any_goals (first | assumption | with_reducible refine wpAny_loadPart_at hx ?_ | wp_step))
 exact D0 (by decide +kernel) hh hq
theorem e8 {Q:Option Value→Shared→Prop} {its:Array Value} {n:Nat} {sl:Array (Option Value)} (hx:h.get? a=some ⟨.type "list",none,.seq its n,sl⟩) (hh:A.handled=none)
  (hq:∀ h' tk',(∀ b o,h.get? b=some o→h'.get? b=some o)→Q none ⟨h',g,d,tk',os⟩):wpAny (model prog w) A (getAttr? (.ref a) "keys") Q E ⟨h,g,d,t,os⟩:=by
 unfold getAttr? getAttrBy?
 refine wpAny_bind (wpAny_mkText (wpAny_bind (wpAny_attempt ?_)))
 have hT:∀ t,(⟨h,g,d,t,os⟩:Shared).TypeIs (.ref a) "list":=fun t=>⟨_,hx,rfl⟩
 have f2:=F.slot_list_getattribute.lookup
 have f3:=F.slot_list_getattribute.bind (.ref a)
 have f4:=Wm
 have hT:=hT (t + 1)
 have call:∀ {Q':Value→Shared→Prop} {E':Value→Shared→Prop},(∀ h' tk' e oe,(∀ b o,h.get? b=some o→h'.get? b=some o)→h'.get? e=some oe→oe.cls=.type "AttributeError"→E' (.ref e) ⟨h',g,d,tk',os⟩) →
   wpAny (model prog w) A (call (.builtin "list.__getattribute__") [.ref a,.str "keys" t]) Q' E' ⟨h,g,d,t + 1,os⟩:=by
  intro Q' E' q
  refine wpAny_call (codeAny_call_builtin F.slot_list_getattribute.plain F.entry_list_ga (F.slot_list_getattribute.check _ _ _ _ _ _ _ _ hT (F.args_list_getattribute_2 _ _) (ai hx hh fun h' tk' e oe k1 k2 k3=>?_)))
  exact q h' tk' e oe k1 k2 k3
 show wpAny _ _ (getAttrBy (.ref a) (.str "keys" t) false) _ _ ⟨h,g,d,t + 1,os⟩
 unfold getAttrBy
 refine wpAny_holding (wpAny_bind (wpAny_typeOf hT (wpAny_bind (wpAny_of_eq f2 ?_))))
 show wpAny _ _ (getAttrByItsOwn _ _ _ _ _ _) _ _ _
 unfold getAttrByItsOwn
 refine wpAny_bind (m:=hookBefore _) (wpAny_pure (wpAny_bind (wpAny_attempt (wpAny_holding ?_))))
 show wpAny _ _ (boundAndCalled _ _ _) _ _ _
 unfold boundAndCalled
 refine wpAny_bind (wpAny_of_eq f3 ?_)
 refine call fun h' tk' e oe k1 k2 k3=>?_
 have hE:(⟨h',g,d,tk',os⟩:Shared).TypeIs (.ref e) "AttributeError":=⟨_,k2,k3⟩
 show wpAny _ _ (getattributeRaised _ _ _ _ _ _ _) _ _ _
 unfold getattributeRaised
 refine wpAny_bind (wpAny_isInstance hE Kt ?_)
 rw [if_pos rfl]
 refine wpAny_bind (m:=hookBehind _ _) (wpAny_of_eq f4 ?_)
 unfold hookOrError attributeErrorLeaves
 dsimp only
 refine wpAny_bind (wpAny_throw ?_)
 show wpAny _ _ _ _ _ _
 refine wpAny_bind (wpAny_isInstance hE Kt ?_)
 rw [if_pos rfl]
 exact wpAny_pure (hq h' tk' k1)
end
theorem Ja:plainId "dict.update.loop"=true:=by decide +kernel
theorem yt:entryFor table "dict.update.loop"=some Builtin.«dict.update.loop»:=entryFor_of_tree (by kernel_rfl)
inductive PP {prog:Program} {w:World} {κ:Type} [DecidableEq κ] (knd:KeyKind prog w κ) (h:Heap) (it d:Addr):List Value→List (κ×Value)→Prop
 | nil:PP knd h it d [] []
 | cons {a:Addr} {key v:Value} {k:κ} {vs:List Value} {ps:List (κ×Value)}:IsTup h a #[key,v]→knd.is k key=true→a≠it→a≠d→PP knd h it d vs ps→PP knd h it d (.ref a::vs) ((k,v)::ps)
section
variable {prog:Program} {w:World} {κ:Type} [DecidableEq κ] {knd:KeyKind prog w κ} {A:Around} {E:Value→Shared→Prop} {h h':Heap} {it d l:Addr}
theorem PP.keeps {vs:List Value} {ps:List (κ×Value)} (p:PP knd h it d vs ps) (k:∀ b o,b≠it→b≠d→h.get? b=some o→h'.get? b=some o):PP knd h' it d vs ps:=by
 induction p with
 | nil=>exact .nil
 | cons t1 t2 t3 t4 _ ih =>
  obtain ⟨o,e,r⟩:=t1
  exact .cons ⟨o,k _ _ t3 t4 e,r⟩ t2 t3 t4 ih
theorem Qw {its:List Value} (hd:d≠it) (hld:l≠d) (hli:l≠it) (hh:A.handled=none) {R:Result→Shared→Prop}:∀ (vs done:List Value) (ps kvs:List (κ×Value)) (s:Shared) (n:Int),its=done++vs→s.heap.IsListIter it l done.length→s.heap.IsList l its.toArray→s.heap.DictOf knd d kvs →
  PP knd s.heap it d vs ps→kvs.length + vs.length≤sizeLine →
  (∀ h' tk,(∀ b o,b≠it→b≠d→s.heap.get? b=some o→h'.get? b=some o)→h'.DictOf knd d (merged kvs ps)→R (.ok (.ret .none)) { s with heap:=h',toks:=tk}) →
  codeAny (model prog w) A (.builtin "dict.update.loop" ⟨[.ref d,.ref it,rawInt n,.none],[]⟩) R s
 | [],done,ps,kvs,s,n,e0,hit,hl,hD,pp,hz,q=>by
  cases pp
  refine codeAny_builtin yt ?_
  rw [Around.under_plainId Ja _]
  show wpAny _ A.in1 (pyNext (.ref it) >>= _) _ _ s
  refine wpAny_bind (wpAny_pyNext_list_end hh hit hl (by rw [e0];simp) fun h' eb=>?_)
  refine wpAny_bind (m:=Builtin.Dict.addKeywords _ _) (wpAny_pure (wpAny_pure ?_))
  exact q h' s.toks (fun b o hb _ e=>eb b o hb e) (hD.extBut eb hd)
 | v::vs,done,ps,kvs,s,n,e0,hit,hl,hD,pp,hz,q=>by
  cases pp with
  | @cons a key v' k _ ps t1 t2 t3 t4 pp =>
   refine codeAny_builtin yt ?_
   rw [Around.under_plainId Ja _]
   show wpAny _ A.in1 (pyNext (.ref it) >>= _) _ _ s
   refine wpAny_bind (wpAny_pyNext_list_item hit hl (x:=.ref a) (by rw [e0];simp) fun h' hit' sb=>?_)
   have k1:∀ b o,b≠it→s.heap.get? b=some o→h'.get? b=some o:=fun b o hb e=>(sb.2 b hb).trans e
   obtain ⟨o,ho,hc,n1,hdt⟩:=id t1
   have ho':=k1 a o t3 ho
   show wpAny _ A.in1 (holding _ _ >>= _) _ _ _
   refine wpAny_bind (wpAny_holding (wpAny_bind (wpAny_tryCatch ?_)))
   unfold Builtin.Dict.pairItems
   refine wpAny_bind (wpAny_typeOf (T:="tuple") ⟨o,ho',hc⟩ ?_)
   rw [if_pos (by decide)]
   refine wpAny_bind (wpAny_seqItems ho' hdt ?_)
   refine wpAny_pure ?_
   show wpAny _ _ (holding _ (dictSet d key v')) _ _ _
   refine wpAny_holding (wpAny_dictSet_pairs t2 (hD.sameBut sb hd) (fun h2 hD2 sb2=>?_) (by rw [List.length_cons] at hz;omega))
   have k2:∀ b o,b≠it→b≠d→s.heap.get? b=some o→h2.get? b=some o:=fun b o hb hb' e=>(sb2.2 b hb').trans (k1 b o hb e)
   refine wpAny_pure ⟨plainId_quiet Ja _,?_⟩
   obtain ⟨oi,hoi,ri⟩:=hit'
   obtain ⟨ol,hol,rl⟩:=hl
   refine Qw hd hld hli hh vs (done++[.ref a]) ps (stored kvs k v') { s with heap:=h2,toks:=s.toks + 1} (n + 1) (by rw [e0];simp) ⟨oi,(sb2.2 it (Ne.symm hd)).trans hoi,by rw [List.length_append];exact ri⟩ ⟨ol,k2 l ol hli hld hol,rl⟩ hD2 (pp.keeps k2) ?_ fun h3 tk k3 hD3=>?_
   ·have:(stored kvs k v').length≤kvs.length + 1:=stored_length_le kvs k v'
    rw [List.length_cons] at hz
    omega
   ·exact q h3 tk (fun b o hb hb' e=>k3 b o hb hb' (k2 b o hb hb' e)) hD3
theorem Ql {s:Shared} {its:List Value} {ps:List (κ×Value)} {n:Nat} {sl:Array (Option Value)} {Q:Value→Shared→Prop} (hl:s.heap.get? l=some ⟨.type "list",none,.seq its.toArray n,sl⟩) (hh:A.handled=none) (hz:its.length≤sizeLine)
  (hp:∀ it d:Addr,s.heap.objs.size≤it→s.heap.objs.size≤d→PP knd s.heap it d its ps) (hn:(ps.map (·.1)).Nodup)
  (q:∀ h' tk,(∀ b o,s.heap.get? b=some o→h'.get? b=some o)→h'.DictOf knd s.heap.objs.size ps→Q (.ref s.heap.objs.size) { s with heap:=h',toks:=tk}) :
  wpAny (model prog w) A (call (.type "dict") [.ref l]) Q E s:=by
 obtain ⟨h,g,dr,t,os⟩:=s
 dsimp only at hl hp q
 refine callType_codes (Q₁:=fun obj s₁=>obj=.ref h.objs.size∧s₁=(⟨h.push { cls:=.type "dict",data:=.dict #[]},g,dr,t,os⟩:Shared)) F.kt_called_dict (F.kt_typeCall_dict_1 _) F.entry_dict_init (kt_code_dict_new _ ⟨rfl,rfl⟩) ?_
 rintro obj s₁ ⟨rfl,rfl⟩
 have hnew:(h.push { cls:=.type "dict",data:=.dict #[]}).DictOf knd h.objs.size []:=Heap.DictOf.new h
 have hl':(h.push { cls:=.type "dict",data:=.dict #[]}).get? l=some ⟨.type "list",none,.seq its.toArray n,sl⟩:=Heap.get?_push_of_some _ hl
 have hll:=Heap.lt_size hl
 refine ⟨hnew.typeIs,F.args_dict_init_2 _ _,?_⟩
 unfold Builtin.«dict.__init__»
 refine wpAny_bind ?_
 unfold Builtin.Dict.selfAndRest
 refine wpAny_bind (wpAny_notOrdered_dict hnew.typeIs ?_)
 show wpAny _ _ (pure (h.objs.size,[Value.ref l])) _ _ _
 refine wpAny_pure ?_
 show wpAny _ _ (Builtin.Dict.updateFrom "dict.__init__" h.objs.size (.ref l) [] .none) _ _ _
 unfold Builtin.Dict.updateFrom
 refine wpAny_bind (wpAny_typeOf (T:="list") ⟨_,hl',rfl⟩ ?_)
 rw [if_pos (by decide)]
 refine wpAny_bind (e8 hl' hh fun h' tk' k1=>?_)
 show wpAny _ _ (rule _ >>= _) _ _ _
 have k0:∀ b o,h.get? b=some o→h'.get? b=some o:=fun b o e=>k1 b o (Heap.get?_push_of_some _ e)
 have hl2:h'.IsList l its.toArray:=⟨_,k0 _ _ hl,rfl,n,rfl⟩
 refine wpAny_bind (wpAny_rule (wpAny_bind (wpAny_pyIter_list hl2 ?_)))
 have hs':h.objs.size < h'.objs.size:=Heap.lt_size (k1 h.objs.size _ (Heap.get?_push_size _ rfl))
 obtain ⟨od,es,ep,hod,rd⟩:=hnew
 have hD':(h'.push { cls:=.type "list_iterator",data:=.fields #[.ref l,.int 0 0]}).DictOf knd h.objs.size []:=⟨od,es,ep,Heap.get?_push_of_some _ (k1 _ _ hod),rd⟩
 refine wpAny_pure ⟨plainId_quiet Ja _,Qw (A:=A.in1) (knd:=knd) (its:=its) (it:=h'.objs.size) (d:=h.objs.size) (l:=l) (Nat.ne_of_lt hs') (Nat.ne_of_lt hll) (Nat.ne_of_lt (Nat.lt_trans hll hs')) hh its [] ps [] ⟨h'.push { cls:=.type "list_iterator",data:=.fields #[.ref l,.int 0 0]},g,dr,tk',os⟩ 0 rfl ⟨_,Heap.get?_push_size _ rfl,rfl,rfl⟩ (hl2.push _) hD' ?_ (by simpa using hz) fun h2 tk k2 hD2=>?_⟩
 ·exact (hp h'.objs.size h.objs.size (Nat.le_of_lt hs') (Nat.le_refl _)).keeps fun b o _ _ e=>Heap.get?_push_of_some _ (k0 b o e)
 ·rw [merged_nil_of_nodup ps hn] at hD2
  exact ⟨rfl,q h2 tk (fun b o e=>k2 b o (Nat.ne_of_lt (Nat.lt_trans (Heap.lt_size e) hs')) (Nat.ne_of_lt (Heap.lt_size e)) (Heap.get?_push_of_some _ (k0 b o e))) hD2⟩
end
noncomputable def Y3:List D→Option (List DK×List D)
 | []=>some ([],[])
 | .tup [k,v]::r=>(qy k).bind fun q=>(Y3 r).map fun p=>(q::p.1,v::p.2)
 | _=>none
noncomputable def Wb:GL:=fun ds=>match ds with
 | [.lst xs]=>(Y3 xs).bind fun p=>if p.1.Nodup then some (.dic p.1 p.2) else none
 | _=>none
inductive VP (K:PySem.W.Frag) (H:Hp):List V→List (Key×V)→Prop
 | nil:VP K H [] []
 | cons {a:Addr} {k:Key} {v:V} {vs:List V} {ps:List (Key×V)}:SqT K H a [kV k,v]→VP K H vs ps→VP K H (.ref a::vs) ((k,v)::ps)
theorem VP.len {K:PySem.W.Frag} {H:Hp} {vs:List V} {ps:List (Key×V)} (h:VP K H vs ps):vs.length=ps.length:=by
 induction h with
 | nil=>rfl
 | cons _ _ ih=>simp [ih]
section
variable {X:Cx} {EX:EXT}
theorem At {K:PySem.W.Frag} {F H:Hp} {α:List Addr} (hs:jr F H):∀ {xs:List D} {vs:List V} {ks:List DK} {ds:List D},Reps K F α xs vs→Y3 xs=some (ks,ds)→∃ us,VP K H vs ((ks.map dk).zip us)∧Reps K F α ds us∧ks.length=ds.length
 | [],vs,ks,ds,h,e=>by
  cases e
  unfold Reps at h
  subst h
  exact ⟨[],.nil,j6,rfl⟩
 | x::xs,vs,ks,ds,h,e=>by
  unfold Y3 at e
  split at e
  ·cases ‹x::xs=[]›
  ·rename_i k v r e0
   injection e0 with e1 e2
   subst e1 e2
   obtain ⟨q,hq,e⟩:=Option.bind_eq_some_iff.mp e
   obtain ⟨p,hp,e⟩:=Option.map_eq_some_iff.mp e
   cases e
   unfold Reps at h
   obtain ⟨u,r,rfl,h1,h2⟩:=h
   unfold Rep at h1
   obtain ⟨a,us,rfl,hsq,hr⟩:=h1
   unfold Reps at hr
   obtain ⟨v1,r1,rfl,p1,hr⟩:=hr
   unfold Reps at hr
   obtain ⟨v2,r2,rfl,p2,hr⟩:=hr
   unfold Reps at hr
   subst hr
   obtain ⟨us,g1,g2,g3⟩:=At hs h2 hp
   rw [Wh p1 hq] at hsq
   exact ⟨v2::us,.cons (jr.tup hs hsq) g1,j2 p2 g2,by simp [g3]⟩
  ·cases e
theorem gr (hc:X.calm=true):ye X (.type "dict") (fun xs H Q=>∃ (p:Addr) (vs:List V) (ps:List (Key×V)),xs=[.ref p]∧SqL X.K H p vs∧VP X.K H vs ps∧(ps.map (·.1)).Nodup∧∀ q,H q=none→Q (.ref q) (upd H q (.dK ps))):=by
 intro pins s σ H xs us Q I r h
 obtain ⟨p,vs,ps,rfl,hq,hv,hn,q⟩:=h
 obtain ⟨u,rfl,rx⟩:=Zk r
 cases rx
 obtain ⟨its,r',pl,hz⟩:=I.list hq
 have hlen:=r'.length
 have go:∀ {vs:List V} {ps:List (Key×V)} {its:List Value},VP X.K H vs ps→jq vs its→∃ qs:List (Key×Value),KV ps qs∧qs.map (·.1)=ps.map (·.1)∧∀ it d:Addr,s.heap.objs.size≤it→s.heap.objs.size≤d→PP (jh X.prog X.w) s.heap it d its qs:=by
  intro vs ps its v
  induction v generalizing its with
  | nil=>intro r;cases r;exact ⟨[],.nil,rfl,fun _ _ _ _=>.nil⟩
  | @cons a k v vs ps t1 _ ih =>
   intro r
   cases r with
   | cons r rr =>
    cases r
    obtain ⟨qs,g1,g2,g3⟩:=ih rr
    obtain ⟨it',rt,tp,_⟩:=I.tuple t1
    obtain ⟨u1,u2,rfl,r1,r2⟩:=V1 rt
    refine ⟨(k,u2)::qs,.cons ⟨rfl,r2⟩ g1,by simp [g2],fun it d h1 h2=>.cons tp ?_ ?_ ?_ (g3 it d h1 h2)⟩
    ·exact Yp r1
    ·obtain ⟨o,e,_⟩:=tp
     exact Nat.ne_of_lt (Nat.lt_of_lt_of_le (Heap.lt_size e) h1)
    ·obtain ⟨o,e,_⟩:=tp
     exact Nat.ne_of_lt (Nat.lt_of_lt_of_le (Heap.lt_size e) h2)
 obtain ⟨qs,g1,g2,g3⟩:=go hv r'
 obtain ⟨⟨oc,odd,odt,osl⟩,n,hol,rfl,rfl,rfl⟩:=pl
 have hlv:=hv.len
 refine Ql (knd:=jh X.prog X.w) hol (I.ok.hd hc) (by omega) g3 (by rw [g2];exact hn) fun h' tk kp hD=>?_
 have hb:=I.big
 refine ⟨.ref _,_,I.laid (a:=s.heap.objs.size) (o:=.dK ps) (t':=tk) kp (Nat.le_refl _) ⟨by omega,beq_eq_false_iff_ne.mpr (Nat.ne_of_gt hb),qs,g1,hD⟩,rfl,q _ (I.hok.fresh (Nat.le_refl _))⟩
theorem A7 (hc:X.calm=true):zm X (.type "dict") Wb:=by
 refine ⟨_,gr hc,fun Z α F H μ ds c vs Q R hp hg k=>?_⟩
 match ds,hg with
 | [.lst xs],hg =>
  obtain ⟨v,r,rfl,⟨q,us,rfl,hs,hr⟩,hq⟩:=hp
  have hq:r=[]:=hq
  subst hq
  simp only [Wb,Option.bind_eq_some_iff] at hg
  obtain ⟨⟨ks,ds⟩,e,hg⟩:=hg
  split at hg
  ·rename_i nd
   cases hg
   obtain ⟨us',g1,g2,g3⟩:=At R.sub hr e
   have hl:=g2.length
   refine ⟨q,us,_,rfl,hs,g1,by rw [List.map_fst_zip (by simp;omega)];exact xp nd,fun p hp=>?_⟩
   refine k _ _ _ (R.lay (.dK ((ks.map dk).zip us')) hp) (Ye R.sub hp) ?_
   unfold Rep
   exact ⟨p,us',rfl,js,g3,g2.mono (R.layExt _ hp)⟩
  ·cases hg
end
end M
set_option Elab.async false
set_option linter.all false
set_option maxRecDepth 100000
set_option maxHeartbeats 4000000
namespace M
open PySem PySem.Spec PyProof.Rows L2
noncomputable def xk (k:Nat) (ix:List Nat) (tg:MG) (it:MIt) (t:MB) (m:MX):MX:=fun ρ μ=>(it ρ μ).bind fun ds μ1=>if ds.length≤16777216 then (jy tg t m ds (blk k ix ρ) μ1 []).bind fun xs μ2=>.ok (.ref μ2.length) (μ2++[.lst xs]) else .bad
section
variable {X:Cx} {EX:EXT} {scope:Scope} {T caps:List Str} {ix:List Nat} {tg iter elt:Expr} {ifs:List Expr} {g:MG} {t:MB} {m:MX} {pos:Pos}
theorem cz {mi:MIt} (cs:CompScope scope X.env) (cp:Caps X scope T caps ix) (hcalm:X.calm=true) (hi:MI X EX tg iter mi) (hb:Blk X scope (T++caps) tg ifs elt g t m) (hs:∀ x,foldedSetIterable iter X.env x=pure x:=by intro _;rfl) :
  ME X EX (.ListComp elt [⟨tg,iter,ifs,0⟩] scope pos) (xk T.length ix g mi t m):=by
 obtain ⟨wi,pi,si⟩:=hi
 refine ⟨fun σ H Q=>∀ pins s,Inv X pins σ H s→wpAny (model X.prog X.w) X.A (eval (.ListComp elt [⟨tg,iter,ifs,0⟩] scope pos) X.env) (EP X pins σ Q) X.xe s,fun pins s σ H Q I h=>h pins s I,fun Z α F H σ ρ μ Q R gd pins s I=>?_⟩
 rw [eval_ListComp]
 refine wpAny_comprehension_free (use:=none) rfl hs (Zq (cs.had I.ok)) cs.kind cs.loc ?_
 unfold xk at gd
 cases hm:mi ρ μ with
 | exc x μ1 =>
  rw [hm] at gd
  have hw:wi σ H fun _ _=>False:=si Z α F H σ ρ μ _ R (by rw [hm];exact gd)
  refine thn (pi pins s σ H _ I hw) fun v s1 h1=>thn h1 fun itv s2 h2=>?_
  obtain ⟨_,_,_,_,_,_,_,_,_,_,z⟩:=h2
  exact z.elim
 | bad=>rw [hm] at gd;exact gd.elim
 | ok ds μ1 =>
  rw [hm] at gd
  simp only [bind_ok] at gd
  by_cases hds:ds.length≤16777216
  ·rw [if_pos hds] at gd
   have hw:wi σ H fun J H1=>∃ α1 F1,RH X.K Z α1 F1 H1 μ1∧Ext α F α1 F1∧uf X.K α1 F1 J ds:=si Z α F H σ ρ μ _ R (by rw [hm];exact fun J α' F' H' R' e' w'=>⟨α',F',R',e',w'⟩)
   refine thn (pi pins s σ H _ I hw) fun v s1 h1=>thn h1 fun itv s2 h2=>?_
   obtain ⟨it,fp,tn,J,H2,rfl,I2,Tn,t0,f2,α1,F1,R1,e1,wk⟩:=h2
   refine Xz (G:=fun r=>GE X.K NoX Z α F Q (r.bind fun xs μ2=>.ok (.ref μ2.length) (μ2++[.lst xs]))∨GE X.K EX Z α F Q (r.bind fun xs μ2=>.ok (.ref μ2.length) (μ2++[.lst xs]))) cs cp hcalm hb I2 Tn t0 f2 (R.to R1 e1) wk hds (.inr gd) (fun z=>z.elim id id) fun D' C H' s' α' F' xs vs μ' mm I' fC hn R' hZ e' r' gg=>?_
   have hHD:H' D'=some (.lst vs):=R'.zs _ _ Jb
   have R2:=R'.unholdC (o':=.lst vs) (c:=.lst xs) hZ ⟨R'.zf _ _ Jb,vs,js,r'.mono (uk _ _ _)⟩
   rw [d7 hHD] at R2
   have rp:Rep X.K F' (α'++[D']) (.ref μ'.length) (.ref D'):=by
    unfold Rep
    exact ⟨D',by rw [← R'.len,List.getElem?_append_right (Nat.le_refl _)];simp,rfl⟩
   refine ⟨mm,hn,fun h' hs'=>⟨.ref D',H',Wf I' fC hs',rfl,?_⟩⟩
   rcases gg with gg | gg
   ·exact gg _ _ F' H' R2 ((e1.trans e').trans (uk _ _ _)) rp
   ·exact gg _ _ F' H' R2 ((e1.trans e').trans (uk _ _ _)) rp
  ·rw [if_neg hds] at gd;exact gd.elim
end
end M
set_option Elab.async false
set_option linter.all false
set_option maxRecDepth 100000
set_option maxHeartbeats 4000000
local macro_rules | `(tactic| walk_at "bs")=> `(tactic| (rename_i us hl;first | (have e := M.len_0 hl;subst e;rfl) | (obtain ⟨_, e⟩ := M.len_1 hl;subst e;rfl) | (obtain ⟨_, _, e⟩ := M.len_2 hl;subst e;rfl) | (obtain ⟨_, _, _, e⟩ := M.len_3 hl;subst e;rfl) | (obtain ⟨_, _, _, _, e⟩ := M.len_4 hl;subst e;rfl) | (obtain ⟨_, _, _, _, _, e⟩ := M.len_5 hl;subst e;rfl)))
local macro_rules | `(tactic| walk_at "dm")=> `(tactic| (refine' M.dfact ?a ?l ?c ?k;(case a=>k_is);(case l=>k_is);(case c=>k_is);(case k=>k_is)))
namespace K31
open PySem PySem.Spec PyProof.Rows L2 M
noncomputable def top (i:Nat):Stmt:=PySem.Challenge.pw_netsieve_k31_nothing_idle.main.body.getD i (.Pass ⟨0,0,0,0⟩)
noncomputable abbrev df:Stmt:=top 42
noncomputable abbrev Ai:Stmt:=top 43
noncomputable abbrev s_k:Stmt:=top 46
noncomputable abbrev ad4:Stmt:=top 47
noncomputable abbrev dh:Stmt:=top 48
noncomputable abbrev Kn:Stmt:=top 49
noncomputable abbrev Zd:Stmt:=top 26
noncomputable abbrev Zc:Stmt:=top 9
noncomputable abbrev Z3:Stmt:=top 10
noncomputable abbrev Qv:Stmt:=top 20
noncomputable abbrev Uc:Stmt:=top 21
noncomputable abbrev Yd:Stmt:=top 19
noncomputable abbrev Ud:Stmt:=top 27
noncomputable abbrev Yb:Stmt:=top 25
noncomputable abbrev Yc:Stmt:=top 29
noncomputable abbrev Uw:Stmt:=top 28
noncomputable abbrev Jc:Stmt:=top 24
noncomputable abbrev Z4:Stmt:=top 23
noncomputable abbrev V7:Stmt:=top 22
noncomputable abbrev yq:Stmt:=top 35
noncomputable abbrev Qu:Stmt:=top 34
noncomputable abbrev Ue:Stmt:=top 37
noncomputable abbrev V8:Stmt:=top 38
noncomputable abbrev yn:Stmt:=top 39
noncomputable abbrev Ys:Stmt:=top 36
noncomputable abbrev Y1:Stmt:=top 40
noncomputable abbrev Y0:Stmt:=top 33
noncomputable abbrev G8:Stmt:=top 51
noncomputable abbrev G7:Stmt:=top 52
noncomputable abbrev Xb:Stmt:=top 55
noncomputable def ya:List Nat:=[108,111,97,100]
theorem Fu:(Str.ofString "load")=⟨ya.toArray⟩:=by decide +kernel
noncomputable def W0:List Nat:=[97,116]
theorem bx:(Str.ofString "at")=⟨W0.toArray⟩:=by decide +kernel
noncomputable def w_x:List Nat:=[120]
theorem a13:(Str.ofString "x")=⟨w_x.toArray⟩:=by decide +kernel
noncomputable def U6:List Nat:=[108,101,110]
theorem V0:(Str.ofString "len")=⟨U6.toArray⟩:=by decide +kernel
noncomputable def Yh:List Nat:=[116,97,120]
theorem Eg:(Str.ofString "tax")=⟨Yh.toArray⟩:=by decide +kernel
noncomputable def Yi:List Nat:=[116,120,97]
theorem Eh:(Str.ofString "txa")=⟨Yi.toArray⟩:=by decide +kernel
noncomputable def jb:List Nat:=[116,101,108,108,97]
theorem Uf:(Str.ofString "tella")=⟨jb.toArray⟩:=by decide +kernel
noncomputable def Z1:List Nat:=[115,101,116]
theorem Ef:(Str.ofString "set")=⟨Z1.toArray⟩:=by decide +kernel
noncomputable def w_setx:List Nat:=[115,101,116,120]
theorem w_setx_eq:(Str.ofString "setx")=⟨w_setx.toArray⟩:=by decide +kernel
noncomputable def Ji:List Nat:=[107,101,101,112]
theorem qi:(Str.ofString "keep")=⟨Ji.toArray⟩:=by decide +kernel
noncomputable def ub:List Nat:=[102,101,116,99,104]
theorem Qb:(Str.ofString "fetch")=⟨ub.toArray⟩:=by decide +kernel
noncomputable def Zx:List Nat:=[112,108,117,115]
theorem Fv:(Str.ofString "plus")=⟨Zx.toArray⟩:=by decide +kernel
noncomputable def yb:List Nat:=[109,105,110,117,115]
theorem K8:(Str.ofString "minus")=⟨yb.toArray⟩:=by decide +kernel
noncomputable def yd:List Nat:=[116,105,109,101,115]
theorem K6:(Str.ofString "times")=⟨yd.toArray⟩:=by decide +kernel
noncomputable def u9:List Nat:=[111,118,101,114]
theorem Xj:(Str.ofString "over")=⟨u9.toArray⟩:=by decide +kernel
noncomputable def u8:List Nat:=[114,101,115,116]
theorem Xk:(Str.ofString "rest")=⟨u8.toArray⟩:=by decide +kernel
noncomputable def Qa:List Nat:=[97,110,100]
theorem Eb:(Str.ofString "and")=⟨Qa.toArray⟩:=by decide +kernel
noncomputable def K7:List Nat:=[111,114]
theorem b9:(Str.ofString "or")=⟨K7.toArray⟩:=by decide +kernel
noncomputable def Qd:List Nat:=[120,111,114]
theorem Ei:(Str.ofString "xor")=⟨Qd.toArray⟩:=by decide +kernel
noncomputable def uz:List Nat:=[108,101,102,116]
theorem Xi:(Str.ofString "left")=⟨uz.toArray⟩:=by decide +kernel
noncomputable def Jn:List Nat:=[114,105,103,104,116]
theorem Qc:(Str.ofString "right")=⟨Jn.toArray⟩:=by decide +kernel
noncomputable def Xr:List Nat:=[100,111]
theorem gj:(Str.ofString "do")=⟨Xr.toArray⟩:=by decide +kernel
noncomputable def Zm:List Nat:=[100,111,120]
theorem Ee:(Str.ofString "dox")=⟨Zm.toArray⟩:=by decide +kernel
noncomputable def w_jump:List Nat:=[106,117,109,112]
theorem ud:(Str.ofString "jump")=⟨w_jump.toArray⟩:=by decide +kernel
noncomputable def Um:List Nat:=[101,113,117,97,108]
theorem Kz:(Str.ofString "equal")=⟨Um.toArray⟩:=by decide +kernel
noncomputable def Uk:List Nat:=[97,98,111,118,101]
theorem Ky:(Str.ofString "above")=⟨Uk.toArray⟩:=by decide +kernel
noncomputable def Uo:List Nat:=[108,101,97,115,116]
theorem K9:(Str.ofString "least")=⟨Uo.toArray⟩:=by decide +kernel
noncomputable def Zl:List Nat:=[97,110,121]
theorem Ec:(Str.ofString "any")=⟨Zl.toArray⟩:=by decide +kernel
noncomputable def yz:List Nat:=[105,102]
theorem Zn:(Str.ofString "if")=⟨yz.toArray⟩:=by decide +kernel
noncomputable def uo:List Nat:=[105,102,120]
theorem Yg:(Str.ofString "ifx")=⟨uo.toArray⟩:=by decide +kernel
noncomputable def Jl:List Nat:=[116,101,108,108]
theorem yp:(Str.ofString "tell")=⟨Jl.toArray⟩:=by decide +kernel
noncomputable def qj:List Nat:=[115,105,122,101]
theorem Fw:(Str.ofString "size")=⟨qj.toArray⟩:=by decide +kernel
noncomputable def qh:List Nat:=[98,97,115,101]
theorem Ft:(Str.ofString "base")=⟨qh.toArray⟩:=by decide +kernel
noncomputable def ji:List Nat:=[110,117,109,98,101,114]
theorem va:(Str.ofString "number")=⟨ji.toArray⟩:=by decide +kernel
noncomputable def yc:List Nat:=[115,108,111,116]
theorem Fx:(Str.ofString "slot")=⟨yc.toArray⟩:=by decide +kernel
noncomputable def wa:List Nat:=[111,112]
theorem bz:(Str.ofString "op")=⟨wa.toArray⟩:=by decide +kernel
noncomputable def jm:List Nat:=[100,105,115,116,97,110,99,101]
theorem Xq:(Str.ofString "distance")=⟨jm.toArray⟩:=by decide +kernel
noncomputable def Zy:List Nat:=[116,101,115,116]
noncomputable def c_MOST_STEPS:D:=(.int 2000)
noncomputable def c_SLOTS:D:=(.int 8)
noncomputable def xh:List DK:=[.inr ya,.inr U6,.inr Z1,.inr w_setx,.inr Yh,.inr Yi,.inr Ji,.inr ub,.inr Xr,.inr Zm,.inr w_jump,.inr yz,.inr uo,.inr Jl,.inr jb]
noncomputable def X6:List D:=[(.tup [(.str qj),(.str qh),(.str ji)]),(.tup []),(.tup [(.str ji)]),(.tup [(.str ji)]),(.tup []),(.tup []),(.tup [(.str yc)]),(.tup [(.str yc)]),(.tup [(.str wa),(.str ji)]),(.tup [(.str wa)]),(.tup [(.str jm)]),(.tup [(.str Zy),(.str ji),(.str jm),(.str jm)]),(.tup [(.str Zy),(.str jm),(.str jm)]),(.tup [(.str ji)]),(.tup [])]
noncomputable def c_ROUND:D:=(.int 4294967296)
noncomputable def c_SIZES:D:=(.tup [(.int 1),(.int 2),(.int 4)])
noncomputable def c_FARTHEST:D:=(.int 2000)
noncomputable def c_BASES:D:=(.tup [(.str W0),(.str w_x)])
noncomputable def c_OPS:D:=(.tup [(.str Zx),(.str yb),(.str yd),(.str u9),(.str u8),(.str Qa),(.str K7),(.str Qd),(.str uz),(.str Jn)])
noncomputable def c_TESTS:D:=(.tup [(.str Um),(.str Uk),(.str Uo),(.str Zl)])
noncomputable def c_DIVIDING:D:=(.tup [(.str u9),(.str u8)])
noncomputable def c_SHIFTING:D:=(.tup [(.str uz),(.str Jn)])
noncomputable def c_WIDTH:D:=(.int 32)
noncomputable def c_LEADING:D:=(.tup [(.str w_jump),(.str yz),(.str uo)])
noncomputable def c_TELLING:D:=(.tup [(.str Jl),(.str jb)])
noncomputable def ab2:MSt:=(jx (jk (U3 (mVar 0))
  (ju (mBin jz (mVar 0) (mBin Jf (mVar 1) (mCallB gLen (mCons (mVar 0) mNil)))))
  jv)
  (ju (mC (.int 0))))
noncomputable def gv:Fn:=fnOf 0 ab2
noncomputable def aj1:MSt:=(jx (J2 2 (mBin Jf (mBin Je (mCall gv (mCons (mVar 0) (mCons (mVar 1) mNil))) (mBin Qm (mC (.int 104729)) (mBin Je (mVar 1) (mC (.int 1))))) (mC (.int 4294967291))))
  (jx (J2 2 (mBin Jf (mBin Qm (mVar 2) (mC (.int 48271))) (mC (.int 4294967279))))
  (ju (mBin Jf (mBin Je (mBin Qm (mBin Ut (mVar 2) (mC (.int 64))) (mC (.int 69621))) (mVar 2)) (mC (.int 4294967231))))))
noncomputable def Up:Fn:=fnOf 1 aj1
noncomputable def b_k:MSt:=(jx (J2 1 (U7 (mCons (mC (.int 0)) (mCons (mC (.int 1)) (mCons (mC (.int 2)) (mCons (mC (.int 7)) (mCons (mC (.int 31)) (mCons (mC (.int 32)) (mCons (mC (.int 255)) (mCons (mC (.int 256)) (mCons (mC (.int 65535)) (mCons (mC (.int 2147483648)) (mCons (mC (.int 4294967295)) (mCons (mC (.int 12)) mNil))))))))))))))
  (ju (mIf (mTest (mBin gGt (mBin Jf (mVar 0) (mC (.int 4))) (mC (.int 0)))) (mBin jz (mVar 1) (mBin Jf (mBin Ut (mVar 0) (mC (.int 4))) (mC (.int 12)))) (mBin Jf (mBin Ut (mVar 0) (mC (.int 4))) (mC (.int 4294967296))))))
noncomputable def f_k:Fn:=fnOf 1 b_k
noncomputable def b_op:MSt:=(ju (mBin jz (U7 (mCons (mC (.str Zx)) (mCons (mC (.str yb)) (mCons (mC (.str yd)) (mCons (mC (.str u9)) (mCons (mC (.str u8)) (mCons (mC (.str Qa)) (mCons (mC (.str K7)) (mCons (mC (.str Qd)) (mCons (mC (.str uz)) (mCons (mC (.str Jn)) mNil))))))))))) (mBin Jf (mVar 0) (mC (.int 10)))))
noncomputable def ac:Fn:=fnOf 0 b_op
noncomputable def Cf:MSt:=(jx (J2 3 (mCall Up (mCons (mVar 0) (mCons (mVar 1) mNil))))
  (jx (J2 4 (mCall f_k (mCons (mCall Up (mCons (mVar 0) (mCons (mBin Je (mVar 1) (mC (.int 1))) mNil))) mNil)))
  (jx (J2 5 (mBin Jf (mVar 3) (mC (.int 18))))
  (jx (J2 6 (mBin jz (U7 (mCons (mC (.int 0)) (mCons (mC (.int 1)) (mCons (mC (.int 2)) (mCons (mC (.int 5)) (mCons (mC (.int 13)) (mCons (mC (.int 19)) mNil))))))) (mBin Jf (mBin Ut (mVar 3) (mC (.int 18))) (mC (.int 6)))))
  (jx (J2 7 (mBin Jf (mCall Up (mCons (mVar 0) (mCons (mBin Je (mVar 1) (mC (.int 2))) mNil))) (mCallB ef (mCons (mC (.int 1)) (mCons (mVar 2) mNil)))))
  (jx (J2 8 (mBin Jf (mCall Up (mCons (mVar 0) (mCons (mBin Je (mVar 1) (mC (.int 3))) mNil))) (mCallB ef (mCons (mC (.int 1)) (mCons (mVar 2) mNil)))))
  (jx (jk (mTest (mBin gLt (mVar 5) (mC (.int 3))))
  (ju (J6 (mCons (mC (.str ya)) (mCons (mBin jz (U7 (mCons (mC (.int 1)) (mCons (mC (.int 2)) (mCons (mC (.int 4)) mNil)))) (mBin Jf (mBin Ut (mVar 3) (mC (.int 18))) (mC (.int 3)))) (mCons (mBin jz (U7 (mCons (mC (.str W0)) (mCons (mC (.str w_x)) mNil))) (mBin Jf (mBin Ut (mVar 3) (mC (.int 54))) (mC (.int 2)))) (mCons (mIf (U3 (mBin Jf (mBin Ut (mVar 3) (mC (.int 108))) (mC (.int 5)))) (mVar 6) (mVar 4)) mNil))))))
  jv)
  (jx (jk (mTest (mBin gLt (mVar 5) (mC (.int 5))))
  (ju (mBin jz (U7 (mCons (J6 (mCons (mC (.str U6)) mNil)) (mCons (J6 (mCons (mC (.str Yh)) mNil)) (mCons (J6 (mCons (mC (.str Yi)) mNil)) (mCons (J6 (mCons (mC (.str jb)) mNil)) mNil))))) (mBin Jf (mBin Ut (mVar 3) (mC (.int 18))) (mC (.int 4)))))
  jv)
  (jx (jk (mTest (mBin gLt (mVar 5) (mC (.int 7))))
  (ju (J6 (mCons (mBin jz (U7 (mCons (mC (.str Z1)) (mCons (mC (.str w_setx)) mNil))) (mBin gSub (mVar 5) (mC (.int 5)))) (mCons (mVar 4) mNil))))
  jv)
  (jx (jk (mTest (mBin gLt (mVar 5) (mC (.int 9))))
  (ju (J6 (mCons (mBin jz (U7 (mCons (mC (.str Ji)) (mCons (mC (.str ub)) mNil))) (mBin gSub (mVar 5) (mC (.int 7)))) (mCons (mBin Jf (mBin Ut (mVar 3) (mC (.int 18))) (mC (.int 3))) mNil))))
  jv)
  (jx (jk (mTest (mBin gLt (mVar 5) (mC (.int 11))))
  (jx (J2 9 (mCall ac (mCons (mBin Ut (mVar 3) (mC (.int 18))) mNil)))
  (jx (jk (mTest (mBin gIn (mVar 9) (J6 (mCons (mC (.str u9)) (mCons (mC (.str u8)) (mCons (mC (.str uz)) (mCons (mC (.str Jn)) mNil)))))))
  (J2 4 (mBin Je (mC (.int 1)) (mBin Jf (mVar 4) (mC (.int 31)))))
  jv)
  (ju (J6 (mCons (mC (.str Xr)) (mCons (mVar 9) (mCons (mVar 4) mNil)))))))
  jv)
  (jx (jk (mTest (mBin gEq (mVar 5) (mC (.int 11))))
  (ju (J6 (mCons (mC (.str Zm)) (mCons (mCall ac (mCons (mBin Ut (mVar 3) (mC (.int 18))) mNil)) mNil))))
  jv)
  (jx (jk (mTest (mBin gEq (mVar 5) (mC (.int 12))))
  (ju (J6 (mCons (mC (.str w_jump)) (mCons (mVar 7) mNil))))
  jv)
  (jx (J2 10 (mBin jz (U7 (mCons (mC (.str Um)) (mCons (mC (.str Uk)) (mCons (mC (.str Uo)) (mCons (mC (.str Zl)) mNil))))) (mBin Jf (mBin Ut (mVar 3) (mC (.int 18))) (mC (.int 4)))))
  (jx (jk (mTest (mBin gLt (mVar 5) (mC (.int 15))))
  (ju (J6 (mCons (mC (.str yz)) (mCons (mVar 10) (mCons (mIf (U3 (mBin Jf (mBin Ut (mVar 3) (mC (.int 72))) (mC (.int 2)))) (mVar 4) (mVar 6)) (mCons (mVar 7) (mCons (mVar 8) mNil)))))))
  jv)
  (jx (jk (mTest (mBin gEq (mVar 5) (mC (.int 15))))
  (ju (J6 (mCons (mC (.str uo)) (mCons (mVar 10) (mCons (mVar 7) (mCons (mVar 8) mNil))))))
  jv)
  (ju (mIf (mTest (mBin gEq (mVar 5) (mC (.int 16)))) (J6 (mCons (mC (.str Jl)) (mCons (mVar 4) mNil))) (J6 (mCons (mC (.str Ji)) (mCons (mBin Jf (mBin Ut (mVar 3) (mC (.int 18))) (mC (.int 3))) mNil)))))))))))))))))))))
noncomputable def Wa:Fn:=fnOf 8 Cf
noncomputable def ab1:MSt:=(jx (J2 3 (jc 1 [0,1,2] (gN 0) (uu (mVar 2)) mTT (mCall Wa (mCons (mVar 1) (mCons (mBin Je (mVar 2) (mBin Qm (mC (.int 4)) (mVar 0))) (mCons (mBin gSub (mVar 3) (mVar 0)) mNil))))))
  (ju (Gh (mVar 3) (U7 (mCons (mBin jz (U7 (mCons (J6 (mCons (mC (.str jb)) mNil)) (mCons (J6 (mCons (mC (.str Jl)) (mCons (mC (.int 1)) mNil))) mNil))) (mBin Jf (mCall Up (mCons (mVar 0) (mCons (mBin Je (mVar 1) (mBin Qm (mC (.int 4)) (mVar 2))) mNil))) (mC (.int 2)))) mNil)))))
noncomputable def v5:Fn:=fnOf 1 ab1
noncomputable def vo:MSt:=(ju (ag5 (mCons (mC (.bl false)) mNil) (mC c_SLOTS)))
noncomputable def qu:Fn:=fnOf 0 vo
noncomputable def vn:MSt:=(ju (u5 (cv .int (mVar 0)) (Vj (cv .bool (mVar 0)))))
noncomputable def U5:Fn:=fnOf 0 vn
noncomputable def Xm:MSt:=(ju (u5 (mCall U5 (mCons (mVar 0) mNil)) (y0 gLe gLt (mC (.int 0)) (mVar 0) (mC c_ROUND))))
noncomputable def Zz:Fn:=fnOf 0 Xm
noncomputable def ke:MSt:=(jx (jk (mTest (mBin gEq (mVar 0) (mC (.str ji))))
  (ju (mCall Zz (mCons (mVar 1) mNil)))
  jv)
  (jx (jk (mTest (mBin gEq (mVar 0) (mC (.str qj))))
  (ju (u5 (mCall U5 (mCons (mVar 1) mNil)) (mBin gIn (mVar 1) (mC c_SIZES))))
  jv)
  (jx (jk (mTest (mBin gEq (mVar 0) (mC (.str yc))))
  (ju (u5 (mCall U5 (mCons (mVar 1) mNil)) (y0 gLe gLt (mC (.int 0)) (mVar 1) (mC c_SLOTS))))
  jv)
  (jx (jk (mTest (mBin gEq (mVar 0) (mC (.str jm))))
  (ju (u5 (mCall U5 (mCons (mVar 1) mNil)) (y0 gLe gLe (mC (.int 0)) (mVar 1) (mC c_FARTHEST))))
  jv)
  (jx (jk (mTest (mBin gEq (mVar 0) (mC (.str qh))))
  (ju (mBin gIn (mVar 1) (mC c_BASES)))
  jv)
  (jx (jk (mTest (mBin gEq (mVar 0) (mC (.str wa))))
  (ju (mBin gIn (mVar 1) (mC c_OPS)))
  jv)
  (ju (mBin gIn (mVar 1) (mC c_TESTS)))))))))
noncomputable def uy:Fn:=fnOf 0 ke
noncomputable def Zo:MSt:=(jx (jk (mTest (mBin gIn (mVar 0) (mC c_DIVIDING)))
  (ju (mBin gNe (mVar 1) (mC (.int 0))))
  jv)
  (jx (jk (mTest (mBin gIn (mVar 0) (mC c_SHIFTING)))
  (ju (mBin gLt (mVar 1) (mC c_WIDTH)))
  jv)
  (ju (mC (.bl true)))))
noncomputable def Jt:Fn:=fnOf 0 Zo
noncomputable def kf:MSt:=(jx (jk (mOr (Ym (U3 (cv .tuple (mVar 0)))) (mTest (mBin gEq (mCallB gLen (mCons (mVar 0) mNil)) (mC (.int 0)))))
  (ju (mC (.bl false)))
  jv)
  (jx (jk (mOr (Ym (U3 (cv .str (mBin jz (mVar 0) (mC (.int 0)))))) (mTest (mBin (zo true) (mBin jz (mVar 0) (mC (.int 0))) (mC (.dic xh X6)))))
  (ju (mC (.bl false)))
  jv)
  (jx (J2 1 (mBin J5 (mC (.dic xh X6)) (mBin jz (mVar 0) (mC (.int 0)))))
  (jx (jk (mTest (mBin gNe (mCallB gLen (mCons (mVar 0) mNil)) (mBin Je (mC (.int 1)) (mCallB gLen (mCons (mVar 1) mNil)))))
  (ju (mC (.bl false)))
  jv)
  (jx (jk (Ym (U3 (mCallB ag (mCons (jc 2 [] (zp (Jv (gN 0) (Jv (gN 1) zq))) (Wr true true (mVar 1) (mSl (mVar 0) (Qs (mC (.int 1))) Vi)) mTT (mCall uy (mCons (mVar 0) (mCons (mVar 1) mNil)))) mNil))))
  (ju (mC (.bl false)))
  jv)
  (ju (Wp (mBin gNe (mBin jz (mVar 0) (mC (.int 0))) (mC (.str Xr))) (mCall Jt (mCons (mBin jz (mVar 0) (mC (.int 1))) (mCons (mBin jz (mVar 0) (mC (.int 2))) mNil))))))))))
noncomputable def jw:Fn:=fnOf 1 kf
noncomputable def Zp:MSt:=(ju (u5 (mBin gEq (mBin jz (mVar 0) (mC (.int 0))) (mC (.str ub))) (Vj (mBin jz (mVar 1) (mBin jz (mVar 0) (mC (.int 1)))))))
noncomputable def Jd:Fn:=fnOf 0 Zp
noncomputable def Xu:MSt:=(jx (J2 2 (mBin Je (mVar 0) (mC (.int 1))))
  (jx (jk (mTest (mBin gIn (mBin jz (mVar 1) (mC (.int 0))) (J6 (mCons (mC (.str Jl)) (mCons (mC (.str jb)) mNil)))))
  (ju (U7 mNil))
  jv)
  (jx (jk (mTest (mBin gEq (mBin jz (mVar 1) (mC (.int 0))) (mC (.str w_jump))))
  (ju (U7 (mCons (mBin Je (mVar 2) (mBin jz (mVar 1) (mC (.int 1)))) mNil)))
  jv)
  (jx (jk (mTest (mBin gIn (mBin jz (mVar 1) (mC (.int 0))) (J6 (mCons (mC (.str yz)) (mCons (mC (.str uo)) mNil)))))
  (ju (U7 (mCons (mBin Je (mVar 2) (mBin jz (mVar 1) (Yl (mC (.int 2))))) (mCons (mBin Je (mVar 2) (mBin jz (mVar 1) (Yl (mC (.int 1))))) mNil))))
  jv)
  (ju (U7 (mCons (mVar 2) mNil)))))))
noncomputable def Ju:Fn:=fnOf 1 Xu
noncomputable def Z7:MSt:=(jx (J2 4 (Wo (mVar 0) (mVar 3) (mVar 2)))
  (Vk (mVar 0) (mVar 3) (jc 2 [] (zp (Jv (gN 0) (Jv (gN 1) zq))) (Wr false false (mVar 4) (mVar 2)) mTT (u5 (mVar 0) (mVar 1)))))
noncomputable def kc:MSt:=(Q2 (gN 3) (je (mVar 1)) Z7)
noncomputable def yu:Fn:=fnOf 2 kc
noncomputable def Qj:MSt:=(jx (jk (mTest (mBin gNe (mBin jz (mVar 0) (mC (.int 0))) (mC (.str Ji))))
  (ju (mVar 1))
  jv)
  (ju (jc 2 [0] (zp (Jv (gN 0) (Jv (gN 1) zq))) (Z5 (mVar 1)) mTT (Wp (mVar 1) (mBin gEq (mVar 0) (mBin jz (mVar 2) (mC (.int 1))))))))
noncomputable def uh:Fn:=fnOf 0 Qj
noncomputable def jf:MSt:=(jx (jk (Ym (U3 (mCall jw (mCons (mVar 3) mNil))))
  (ju (mVar 2))
  jv)
  (jx (jk (Yk (mTest (mBin (zo false) (mVar 2) (mVar 1))) (U3 (mCall Jd (mCons (mVar 3) (mCons (mBin J5 (mVar 1) (mVar 2)) mNil)))))
  (ju (mVar 2))
  jv)
  (jx (J2 4 (mCall Ju (mCons (mVar 2) (mCons (mVar 3) mNil))))
  (jx (jk (U3 (mCallB gw (mCons (jc 1 [0] (gN 0) (je (mVar 4)) mTT (mBin gGe (mVar 0) (mCallB gLen (mCons (mVar 1) mNil)))) mNil)))
  (ju (mVar 2))
  jv)
  (jk (mTest (mBin (zo false) (mVar 2) (mVar 1)))
  (Ux (mCall yu (mCons (mVar 1) (mCons (mVar 4) (mCons (mCall uh (mCons (mVar 3) (mCons (mBin J5 (mVar 1) (mVar 2)) mNil))) mNil)))))
  jv)))))
noncomputable def Yj:MSt:=(jx (jk (Ym (mTest (y0 gLe gLe (mC (.int 1)) (mCallB gLen (mCons (mVar 0) mNil)) (mC c_MOST_STEPS))))
  (ju (mC (.int 0)))
  jv)
  (jx (J2 1 (Ab [.inl 0] (mCons (mCall qu mNil) mNil)))
  (jx (Q2 (zp (Jv (gN 2) (Jv (gN 3) zq))) (Z5 (mVar 0)) jf)
  (ju (mC .non)))))
noncomputable def J1:Fn:=fnOf 4 Yj
noncomputable def Xl:MSt:=(ju (ax (mCall J1 (mCons (mVar 0) mNil))))
noncomputable def Jk:Fn:=fnOf 0 Xl
noncomputable def Ce:MSt:=(jx (J2 1 (mCall J1 (mCons (mVar 0) mNil)))
  (jk (mTest (Qr (mVar 1)))
  ag6
  jv))
noncomputable def X2:Fn:=fnOf 1 Ce
noncomputable def Xn:MSt:=(jx (jk (mTest (mBin Zr (mBin jz (mBin jz (mVar 0) (mVar 2)) (mC (.int 0))) (mC c_LEADING)))
  (ju (U7 mNil))
  jv)
  (ju (jc 1 [1] (gN 0) (je (mCall Ju (mCons (mVar 2) (mCons (mBin jz (mVar 0) (mVar 2)) mNil)))) mTT (mBin J5 (mVar 1) (mVar 0)))))
noncomputable def J8:Fn:=fnOf 0 Xn
noncomputable def Z8:MSt:=(jx (J2 3 (mCall J8 (mCons (mVar 0) (mCons (mVar 1) (mCons (mVar 2) mNil)))))
  (jx (J2 4 (u5 (mBin gGt (mCallB gLen (mCons (mVar 3) mNil)) (mC (.int 0))) (mBin gEq (mBin jz (mVar 3) (mC (.int 0))) (mBin jz (mVar 3) (Yl (mC (.int 1)))))))
  (Vk (mVar 1) (mVar 2) (mIf (U3 (mVar 4)) (mBin jz (mVar 3) (mC (.int 0))) (mVar 2)))))
noncomputable def ka:MSt:=(jx (J2 1 Vg)
  (jx (Q2 (gN 2) (Qf (mCons (mBin gSub (mCallB gLen (mCons (mVar 0) mNil)) (mC (.int 1))) (mCons (Yl (mC (.int 1))) (mCons (Yl (mC (.int 1))) mNil)))) Z8)
  (Q1 1 (ju (mVar 1)))))
noncomputable def zn:Fn:=fnOf 4 ka
noncomputable def Xv:MSt:=(ju (jc 1 [0] (gN 0) (uu (mVar 1)) (mTest (mBin gEq (mBin J5 (mVar 1) (mVar 0)) (mVar 0))) (mVar 0)))
noncomputable def U4:Fn:=fnOf 0 Xv
noncomputable def xi:MSt:=(Vk (mVar 0) (mVar 2) (mC (.bl true)))
noncomputable def Cd:MSt:=(Q2 (gN 2) (je (mVar 1)) xi)
noncomputable def yh:Fn:=fnOf 1 Cd
noncomputable def Qy:MSt:=(ju (mIf (mTest (mBin gIn (mBin jz (mBin jz (mVar 0) (mVar 1)) (mC (.int 0))) (mC c_TELLING))) (U7 mNil) (U7 (mCons (mVar 1) mNil))))
noncomputable def uq:Fn:=fnOf 0 Qy
noncomputable def u7:MSt:=(jx (J2 6 (u5 (Qr (mVar 4)) (mBin gEq (mBin J5 (mVar 1) (mVar 4)) (mVar 5))))
  (jx (jk (Yk (Ym (U3 (mVar 6))) (mTest (mBin (zo true) (mVar 5) (mVar 3))))
  Aa
  jv)
  (jx (jk (Yk (mTest (Qr (mVar 4))) (Ym (U3 (mVar 6))))
  (jx (Ux (ui (mVar 2) (mVar 4)))
  (Ux (mCall yh (mCons (mVar 3) (mCons (mCall uq (mCons (mVar 0) (mCons (mBin J5 (mVar 1) (mVar 4)) mNil))) mNil)))))
  jv)
  (jx (Ux (ui (mVar 2) (mVar 5)))
  (jx (Ux (mCall yh (mCons (mVar 3) (mCons (mCall J8 (mCons (mVar 0) (mCons (mVar 1) (mCons (mVar 5) mNil)))) mNil))))
  (J2 4 (mIf (mTest (mBin gIn (mBin jz (mBin jz (mVar 0) (mVar 5)) (mC (.int 0))) (mBin Je (mC c_LEADING) (mC c_TELLING)))) (mC .non) (mBin Je (mVar 5) (mC (.int 1))))))))))
noncomputable def Qk:MSt:=(jx (J2 2 (Vh mNil))
  (jx (J2 3 Vg)
  (jx (J2 4 (mC (.int 0)))
  (jx (Q2 (gN 5) (je (mCall U4 (mCons (mVar 1) (mCons (mCallB gLen (mCons (mVar 0) mNil)) mNil)))) u7)
  (Q1 2 (ju (mVar 2)))))))
noncomputable def Us:Fn:=fnOf 5 Qk
noncomputable def qm:MSt:=(jx (J2 4 (mBin jz (mVar 0) (mVar 2)))
  (jx (J2 5 (mBin J5 (mVar 1) (mVar 2)))
  (jx (J2 6 (mBin Je (mBin J5 (mVar 3) (mVar 2)) (mC (.int 1))))
  (jx (jk (Yk (mTest (mBin gNe (mVar 5) (mVar 2))) (mTest (mBin gIn (mBin jz (mBin jz (mVar 0) (mVar 5)) (mC (.int 0))) (mC c_TELLING))))
  (ju (mBin jz (mVar 0) (mVar 5)))
  jv)
  (jx (jk (mTest (mBin gNe (mVar 5) (mVar 2)))
  (ju (J6 (mCons (mC (.str w_jump)) (mCons (mBin gSub (mBin J5 (mVar 3) (mVar 5)) (mVar 6)) mNil))))
  jv)
  (jx (jk (mTest (mBin gIn (mBin jz (mVar 4) (mC (.int 0))) (mC c_LEADING)))
  (ju (mBin Je (mSl (mVar 4) Vi (Qs (Yl (mC (.int 2))))) (mCallB Cz (mCons (jc 1 [6,3] (gN 0) (je (mCall J8 (mCons (mVar 0) (mCons (mVar 1) (mCons (mVar 2) mNil))))) mTT (mBin gSub (mBin J5 (mVar 2) (mVar 0)) (mVar 1))) mNil))))
  jv)
  (ju (mVar 4))))))))
noncomputable def ur:Fn:=fnOf 3 qm
noncomputable def gp:MSt:=(jx (Ux (mCall X2 (mCons (mVar 0) mNil)))
  (jx (J2 1 (mCall zn (mCons (mVar 0) mNil)))
  (jx (J2 2 (mCall Us (mCons (mVar 0) (mCons (mVar 1) mNil))))
  (jx (J2 3 (mCallB Wb (mCons (jc 2 [] (zp (Jv (gN 0) (Jv (gN 1) zq))) (Z5 (mVar 2)) mTT (J6 (mCons (mVar 1) (mCons (mVar 0) mNil)))) mNil)))
  (ju (xk 1 [0,1,3] (gN 0) (je (mVar 2)) mTT (mCall ur (mCons (mVar 1) (mCons (mVar 2) (mCons (mVar 0) (mCons (mVar 3) mNil)))))))))))
noncomputable def Yz:Fn:=fnOf 3 gp
noncomputable def Az:MSt:=(jx (jk (mTest (mBin gIn (mBin jz (mVar 0) (mC (.int 0))) (J6 (mCons (mC (.str Jl)) (mCons (mC (.str jb)) mNil)))))
  (ju (U7 mNil))
  jv)
  (jx (jk (mTest (mBin gEq (mBin jz (mVar 0) (mC (.int 0))) (mC (.str w_jump))))
  (ju (U7 (mCons (mBin Je (mBin Je (mVar 1) (mC (.int 1))) (mBin jz (mVar 0) (mC (.int 1)))) mNil)))
  jv)
  (jx (jk (mTest (mBin gIn (mBin jz (mVar 0) (mC (.int 0))) (J6 (mCons (mC (.str yz)) (mCons (mC (.str uo)) mNil)))))
  (ju (U7 (mCons (mBin Je (mBin Je (mVar 1) (mC (.int 1))) (mBin jz (mVar 0) (Yl (mC (.int 2))))) (mCons (mBin Je (mBin Je (mVar 1) (mC (.int 1))) (mBin jz (mVar 0) (Yl (mC (.int 1))))) mNil))))
  jv)
  (ju (U7 (mCons (mBin Je (mVar 1) (mC (.int 1))) mNil))))))
noncomputable def zh:Fn:=fnOf 0 Az
noncomputable def Q5:MSt:=(jk (mTest (mBin Zr (mVar 3) (mVar 1)))
  (Ux (ui (mVar 1) (mVar 3)))
  jv)
noncomputable def Q4:MSt:=(jk (mTest (mBin gIn (mVar 2) (mVar 1)))
  (Q2 (gN 3) (je (mCall zh (mCons (mBin jz (mVar 0) (mVar 2)) (mCons (mVar 2) mNil)))) Q5)
  jv)
noncomputable def A9:MSt:=(jx (J2 1 (Vh (mCons (mC (.int 0)) mNil)))
  (jx (Q2 (gN 2) (uu (mCallB gLen (mCons (mVar 0) mNil))) Q4)
  (Q1 1 (ju (mVar 1)))))
noncomputable def f_there:Fn:=fnOf 3 A9
noncomputable def Wi:MSt:=(jk (mTest (mBin gEq (mBin Jf (mCall Up (mCons (mVar 0) (mCons (mBin Je (mC (.int 40)) (mVar 2)) mNil))) (mC (.int 4))) (mC (.int 0))))
  (Wq (mVar 1) (mVar 2) (J6 (mCons (mC (.str w_jump)) (mCons (mBin Jf (mCall Up (mCons (mVar 0) (mCons (mBin Je (mC (.int 30)) (mVar 2)) mNil))) (mCallB ah (mCons (mC (.int 3)) (mCons (mBin gSub (mBin gSub (mCallB gLen (mCons (mVar 1) mNil)) (mVar 2)) (mC (.int 1))) mNil)))) mNil))))
  jv)
noncomputable def Wj:MSt:=(jx (J2 5 (mBin jz (mVar 3) (mVar 4)))
  (jx (J2 6 (jc 1 [3] (gN 0) (je (mCall zh (mCons (mVar 5) (mCons (mVar 4) mNil)))) mTT (mBin jz (mVar 1) (mVar 0))))
  (jx (jk (Yk (mTest (mBin gIn (mBin jz (mVar 5) (mC (.int 0))) (J6 (mCons (mC (.str w_jump)) (mCons (mC (.str yz)) (mCons (mC (.str uo)) mNil)))))) (U3 (mCallB gw (mCons (jc 1 [] (gN 0) (je (mVar 6)) mTT (mBin gEq (mBin jz (mVar 0) (mC (.int 0))) (mC (.str w_jump)))) mNil))))
  (ju (mC (.bl false)))
  jv)
  (jx (jk (Yk (mTest (mBin gEq (mBin jz (mVar 5) (mC (.int 0))) (mC (.str w_jump)))) (mOr (mTest (mBin gIn (mBin jz (mBin jz (mVar 6) (mC (.int 0))) (mC (.int 0))) (J6 (mCons (mC (.str Jl)) (mCons (mC (.str jb)) mNil))))) (mTest (mBin gEq (mBin jz (mVar 5) (mC (.int 1))) (mC (.int 0))))))
  (ju (mC (.bl false)))
  jv)
  (jk (Yk (mTest (mBin gIn (mBin jz (mVar 5) (mC (.int 0))) (J6 (mCons (mC (.str yz)) (mCons (mC (.str uo)) mNil))))) (mTest (mBin gEq (mBin jz (mVar 5) (Yl (mC (.int 1)))) (mBin jz (mVar 5) (Yl (mC (.int 2)))))))
  (ju (mC (.bl false)))
  jv)))))
noncomputable def aj2:MSt:=(jx (J2 1 (mCall v5 (mCons (mVar 0) (mCons (mC (.int 0)) (mCons (mBin Jf (mCall Up (mCons (mVar 0) (mCons (mC (.int 60)) mNil))) (mC (.int 13))) mNil)))))
  (jx (Q2 (gN 2) (uu (mBin gSub (mCallB gLen (mCons (mVar 1) mNil)) (mC (.int 1)))) Wi)
  (jx (Q1 1 (jk (Ym (U3 (mCall Jk (mCons (mVar 1) mNil))))
  (ju (mC (.bl true)))
  jv))
  (jx (J2 3 (mCall Yz (mCons (mVar 1) mNil)))
  (jx (Q1 3 (jk (mOr (Ym (U3 (mCall Jk (mCons (mVar 3) mNil)))) (mTest (mBin gNe (mCallB gSorted (mCons (mCall f_there (mCons (mVar 3) mNil)) mNil)) (mListRng (mCallB gLen (mCons (mVar 3) mNil))))))
  (ju (mC (.bl false)))
  jv))
  (jx (Q2 (gN 4) (uu (mCallB gLen (mCons (mVar 3) mNil))) Wj)
  (jx (J2 7 (mCallB Cy (mCons (mVar 3) mNil)))
  (jx (J2 8 (mCall Yz (mCons (mVar 7) mNil)))
  (jx (Ux (ui (mVar 8) (J6 (mCons (mC (.str U6)) mNil))))
  (ju (u5 (mBin gEq (mSl (mVar 8) Vi (Qs (Yl (mC (.int 1))))) (mVar 3)) (mBin gEq (mVar 7) (mVar 3)))))))))))))
noncomputable def f_law:Fn:=fnOf 8 aj2
structure Tx (w:World) (K:PySem.W.Frag) (mg:Str→Option Value):Prop where
 n_range:mg "range"=none
 n_len:mg "len"=none
 n_max:mg "max"=none
 n_min:mg "min"=none
 n_enumerate:mg "enumerate"=none
 n_isinstance:mg "isinstance"=none
 n_tuple:mg "tuple"=none
 n_str:mg "str"=none
 n_zip:mg "zip"=none
 n_int:mg "int"=none
 n_bool:mg "bool"=none
 n_all:mg "all"=none
 n_any:mg "any"=none
 n_dict:mg "dict"=none
 n_sorted:mg "sorted"=none
 n_list:mg "list"=none
 c_MOST_STEPS:Jj K mg "MOST_STEPS" c_MOST_STEPS
 c_SLOTS:Jj K mg "SLOTS" c_SLOTS
 c_PARTS:vc w K mg "PARTS" xh X6
 c_ROUND:Jj K mg "ROUND" c_ROUND
 c_SIZES:Jj K mg "SIZES" c_SIZES
 c_FARTHEST:Jj K mg "FARTHEST" c_FARTHEST
 c_BASES:Jj K mg "BASES" c_BASES
 c_OPS:Jj K mg "OPS" c_OPS
 c_TESTS:Jj K mg "TESTS" c_TESTS
 c_DIVIDING:Jj K mg "DIVIDING" c_DIVIDING
 c_SHIFTING:Jj K mg "SHIFTING" c_SHIFTING
 c_WIDTH:Jj K mg "WIDTH" c_WIDTH
 c_LEADING:Jj K mg "LEADING" c_LEADING
 c_TELLING:Jj K mg "TELLING" c_TELLING
 d_cell:J3 K mg "_law_cell" df ["_law_script","_law_k_here"]
 d_mix:J3 K mg "_law_mix" Ai ["_law_script","_law_k_here"]
 d_k:J3 K mg "_law_k" s_k ["_law_number"]
 d_op:J3 K mg "_law_op" ad4 ["_law_number"]
 d_step:J3 K mg "_law_step" dh ["_law_script","_law_base","_law_left"]
 d_code:J3 K mg "_law_code" Kn ["_law_script","_law_base","_law_many"]
 d_p_no_slots:J3 K mg "no_slots" Zd []
 d_p_is_whole:J3 K mg "is_whole" Zc ["thing"]
 d_p_is_number:J3 K mg "is_number" Z3 ["thing"]
 d_p_is_part:J3 K mg "is_part" Qv ["kind","part"]
 d_p_can_be_done_by:J3 K mg "can_be_done_by" Uc ["op","k"]
 d_p_is_step:J3 K mg "is_step" Yd ["thing"]
 d_p_lacks_its_slot:J3 K mg "lacks_its_slot" Ud ["step","slots"]
 d_p_goals_from:J3 K mg "goals_from" Yb ["place","step"]
 d_p_hand_on:J3 K mg "hand_on" Yc ["kept","goals","slots"]
 d_p_kept_behind:J3 K mg "kept_behind" Uw ["step","slots"]
 d_p_first_wrong_place:J3 K mg "first_wrong_place" Jc ["code"]
 d_p_is_let_in:J3 K mg "is_let_in" Z4 ["code"]
 d_p_look:J3 K mg "look" V7 ["code"]
 d_p_led_goals:J3 K mg "led_goals" yq ["code","ends","place"]
 d_p_ends_of:J3 K mg "ends_of" Qu ["code"]
 d_p_own_places:J3 K mg "own_places" Ue ["ends","count"]
 d_p_lead:J3 K mg "lead" V8 ["led_to","goals"]
 d_p_bridge_goals:J3 K mg "bridge_goals" yn ["code","end"]
 d_p_places_left:J3 K mg "places_left" Ys ["code","ends"]
 d_p_new_step:J3 K mg "new_step" Y1 ["code","ends","place","new_places"]
 d_p_shrunk:J3 K mg "shrunk" Y0 ["code"]
 d_goals:J3 K mg "_law_goals" G8 ["_law_step_here","_law_at"]
 d_there:J3 K mg "_law_there" G7 ["_law_code_here"]
 d_law:J3 K mg "law" Xb ["_law_script"]
section
variable {P:Program} {w:World} {K:PySem.W.Frag} {mg:Str→Option Value} {base:Heap}
theorem Be (T:Tx w K mg):ul P w K mg base "_law_cell" 1 2 gv:=fnC T.d_cell ["_law_script","_law_k_here"] ["len"] ⟨rfl,rfl,rfl,by decide +kernel,rfl,by decide +kernel,by decide +kernel⟩ (by decide +kernel) (by decide +kernel) rfl rfl fun _ _ _ _ _ _ _ hr C=>(j1 (jn (Jx (sv C 0 rfl) (fun _=>rfl))
  (j3 (j5 (me_idx (sv C 0 rfl) (me_bin J4 (sv C 1 rfl) (me_callB cm_len (C.g 0 rfl) T.n_len PySem.boot_len (ma_cons (sv C 0 rfl) ma_nil rfl))) (fun _ _=>rfl))))
  j8)
  (j3 (j5 me_int)))
theorem z9 (T:Tx w K mg):ul P w K mg base "_law_mix" 2 2 Up:=fnC T.d_mix ["_law_script","_law_k_here","_law_number"] ["_law_cell"] ⟨rfl,rfl,rfl,by decide +kernel,rfl,by decide +kernel,by decide +kernel⟩ (by decide +kernel) (by decide +kernel) rfl rfl fun _ _ _ _ _ _ _ hr C=>(j1 (sa C 2 rfl (me_bin J4 (me_bin om_add (me_fn (Be T) (hr.mono (by decide)) (C.g 0 rfl) (ma_cons (sv C 0 rfl) (ma_cons (sv C 1 rfl) ma_nil rfl) rfl) rfl) (me_bin om_mul me_int (me_bin om_add (sv C 1 rfl) me_int))) me_int))
  (j1 (sa C 2 rfl (me_bin J4 (me_bin om_mul (sv C 2 rfl) me_int) me_int))
  (j3 (j5 (me_bin J4 (me_bin om_add (me_bin om_mul (me_bin U1 (sv C 2 rfl) me_int) me_int) (sv C 2 rfl)) me_int)))))
theorem ok_k (T:Tx w K mg):ul P w K mg base "_law_k" 1 1 f_k:=fnC T.d_k ["_law_number","_law_some"] [] ⟨rfl,rfl,rfl,by decide +kernel,rfl,by decide +kernel,by decide +kernel⟩ (by decide +kernel) (by decide +kernel) rfl rfl fun _ _ _ _ _ _ _ hr C=>(j1 (sa C 1 rfl (Jp (ma_cons me_int (ma_cons me_int (ma_cons me_int (ma_cons me_int (ma_cons me_int (ma_cons me_int (ma_cons me_int (ma_cons me_int (ma_cons me_int (ma_cons me_int (ma_cons me_int (ma_cons me_int ma_nil rfl) rfl) rfl) rfl) rfl) rfl) rfl) rfl) rfl) rfl) rfl) rfl)))
  (j3 (j5 (xm (mt_cmp Ad (me_bin J4 (sv C 0 rfl) me_int) me_int (nomark _)) (me_idx (sv C 1 rfl) (me_bin J4 (me_bin U1 (sv C 0 rfl) me_int) me_int) (fun _ _=>rfl)) (me_bin J4 (me_bin U1 (sv C 0 rfl) me_int) me_int)))))
theorem Ac (T:Tx w K mg):ul P w K mg base "_law_op" 1 1 ac:=fnC T.d_op ["_law_number"] [] ⟨rfl,rfl,rfl,by decide +kernel,rfl,by decide +kernel,by decide +kernel⟩ (by decide +kernel) (by decide +kernel) rfl rfl fun _ _ _ _ _ _ _ hr C=>(j3 (j5 (me_idx (Jp (ma_cons (me_str Fv) (ma_cons (me_str K8) (ma_cons (me_str K6) (ma_cons (me_str Xj) (ma_cons (me_str Xk) (ma_cons (me_str Eb) (ma_cons (me_str b9) (ma_cons (me_str Ei) (ma_cons (me_str Xi) (ma_cons (me_str Qc) ma_nil rfl) rfl) rfl) rfl) rfl) rfl) rfl) rfl) rfl) rfl)) (me_bin J4 (sv C 0 rfl) me_int) (fun _ _=>rfl))))
theorem ok_step (T:Tx w K mg):ul P w K mg base "_law_step" 3 3 Wa:=fnC T.d_step ["_law_script","_law_base","_law_left","_law_number","_law_k_here","_law_way","_law_small","_law_one","_law_other","_law_op_here","_law_test"] ["_law_mix","_law_k","max","_law_op"] ⟨rfl,rfl,rfl,by decide +kernel,rfl,by decide +kernel,by decide +kernel⟩ (by decide +kernel) (by decide +kernel) rfl rfl fun _ _ _ _ _ _ _ hr C=>(j1 (sa C 3 rfl (me_fn (z9 T) (hr.mono (by decide)) (C.g 0 rfl) (ma_cons (sv C 0 rfl) (ma_cons (sv C 1 rfl) ma_nil rfl) rfl) rfl))
  (j1 (sa C 4 rfl (me_fn (ok_k T) (hr.mono (by decide)) (C.g 1 rfl) (ma_cons (me_fn (z9 T) (hr.mono (by decide)) (C.g 0 rfl) (ma_cons (sv C 0 rfl) (ma_cons (me_bin om_add (sv C 1 rfl) me_int) ma_nil rfl) rfl) rfl) ma_nil rfl) rfl))
  (j1 (sa C 5 rfl (me_bin J4 (sv C 3 rfl) me_int))
  (j1 (sa C 6 rfl (me_idx (Jp (ma_cons me_int (ma_cons me_int (ma_cons me_int (ma_cons me_int (ma_cons me_int (ma_cons me_int ma_nil rfl) rfl) rfl) rfl) rfl) rfl)) (me_bin J4 (me_bin U1 (sv C 3 rfl) me_int) me_int) (fun _ _=>rfl)))
  (j1 (sa C 7 rfl (me_bin J4 (me_fn (z9 T) (hr.mono (by decide)) (C.g 0 rfl) (ma_cons (sv C 0 rfl) (ma_cons (me_bin om_add (sv C 1 rfl) me_int) ma_nil rfl) rfl) rfl) (me_callB (Cl C.calm) (C.g 2 rfl) T.n_max PyProof.Rows.boot_max (ma_cons me_int (ma_cons (sv C 2 rfl) ma_nil rfl) rfl))))
  (j1 (sa C 8 rfl (me_bin J4 (me_fn (z9 T) (hr.mono (by decide)) (C.g 0 rfl) (ma_cons (sv C 0 rfl) (ma_cons (me_bin om_add (sv C 1 rfl) me_int) ma_nil rfl) rfl) rfl) (me_callB (Cl C.calm) (C.g 2 rfl) T.n_max PyProof.Rows.boot_max (ma_cons me_int (ma_cons (sv C 2 rfl) ma_nil rfl) rfl))))
  (j1 (jn (mt_cmp q0 (sv C 5 rfl) me_int (nomark _))
  (j3 (j5 (me_tup (ma_cons (me_str Fu) (ma_cons (me_idx (Jp (ma_cons me_int (ma_cons me_int (ma_cons me_int ma_nil rfl) rfl) rfl)) (me_bin J4 (me_bin U1 (sv C 3 rfl) me_int) me_int) (fun _ _=>rfl)) (ma_cons (me_idx (Jp (ma_cons (me_str bx) (ma_cons (me_str a13) ma_nil rfl) rfl)) (me_bin J4 (me_bin U1 (sv C 3 rfl) me_int) me_int) (fun _ _=>rfl)) (ma_cons (xm (Jx (me_bin J4 (me_bin U1 (sv C 3 rfl) me_int) me_int) (fun _=>rfl)) (sv C 6 rfl) (sv C 4 rfl)) ma_nil rfl) rfl) rfl) rfl))))
  j8)
  (j1 (jn (mt_cmp q0 (sv C 5 rfl) me_int (nomark _))
  (j3 (j5 (me_idx (Jp (ma_cons (me_tup (ma_cons (me_str V0) ma_nil rfl)) (ma_cons (me_tup (ma_cons (me_str Eg) ma_nil rfl)) (ma_cons (me_tup (ma_cons (me_str Eh) ma_nil rfl)) (ma_cons (me_tup (ma_cons (me_str Uf) ma_nil rfl)) ma_nil rfl) rfl) rfl) rfl)) (me_bin J4 (me_bin U1 (sv C 3 rfl) me_int) me_int) (fun _ _=>rfl))))
  j8)
  (j1 (jn (mt_cmp q0 (sv C 5 rfl) me_int (nomark _))
  (j3 (j5 (me_tup (ma_cons (me_idx (Jp (ma_cons (me_str Ef) (ma_cons (me_str w_setx_eq) ma_nil rfl) rfl)) (me_bin om_sub (sv C 5 rfl) me_int) (fun _ _=>rfl)) (ma_cons (sv C 4 rfl) ma_nil rfl) rfl))))
  j8)
  (j1 (jn (mt_cmp q0 (sv C 5 rfl) me_int (nomark _))
  (j3 (j5 (me_tup (ma_cons (me_idx (Jp (ma_cons (me_str qi) (ma_cons (me_str Qb) ma_nil rfl) rfl)) (me_bin om_sub (sv C 5 rfl) me_int) (fun _ _=>rfl)) (ma_cons (me_bin J4 (me_bin U1 (sv C 3 rfl) me_int) me_int) ma_nil rfl) rfl))))
  j8)
  (j1 (jn (mt_cmp q0 (sv C 5 rfl) me_int (nomark _))
  (j1 (sa C 9 rfl (me_fn (Ac T) (hr.mono (by decide)) (C.g 3 rfl) (ma_cons (me_bin U1 (sv C 3 rfl) me_int) ma_nil rfl) rfl))
  (j1 (jn (mt_cmp (U0 C.un) (sv C 9 rfl) (me_tup (ma_cons (me_str Xj) (ma_cons (me_str Xk) (ma_cons (me_str Xi) (ma_cons (me_str Qc) ma_nil rfl) rfl) rfl) rfl)) rfl)
  (j3 (sa C 4 rfl (me_bin om_add me_int (me_bin J4 (sv C 4 rfl) me_int))))
  j8)
  (j3 (j5 (me_tup (ma_cons (me_str gj) (ma_cons (sv C 9 rfl) (ma_cons (sv C 4 rfl) ma_nil rfl) rfl) rfl))))))
  j8)
  (j1 (jn (mt_cmp (om_eq C.un) (sv C 5 rfl) me_int (nomark _))
  (j3 (j5 (me_tup (ma_cons (me_str Ee) (ma_cons (me_fn (Ac T) (hr.mono (by decide)) (C.g 3 rfl) (ma_cons (me_bin U1 (sv C 3 rfl) me_int) ma_nil rfl) rfl) ma_nil rfl) rfl))))
  j8)
  (j1 (jn (mt_cmp (om_eq C.un) (sv C 5 rfl) me_int (nomark _))
  (j3 (j5 (me_tup (ma_cons (me_str ud) (ma_cons (sv C 7 rfl) ma_nil rfl) rfl))))
  j8)
  (j1 (sa C 10 rfl (me_idx (Jp (ma_cons (me_str Kz) (ma_cons (me_str Ky) (ma_cons (me_str K9) (ma_cons (me_str Ec) ma_nil rfl) rfl) rfl) rfl)) (me_bin J4 (me_bin U1 (sv C 3 rfl) me_int) me_int) (fun _ _=>rfl)))
  (j1 (jn (mt_cmp q0 (sv C 5 rfl) me_int (nomark _))
  (j3 (j5 (me_tup (ma_cons (me_str Zn) (ma_cons (sv C 10 rfl) (ma_cons (xm (Jx (me_bin J4 (me_bin U1 (sv C 3 rfl) me_int) me_int) (fun _=>rfl)) (sv C 4 rfl) (sv C 6 rfl)) (ma_cons (sv C 7 rfl) (ma_cons (sv C 8 rfl) ma_nil rfl) rfl) rfl) rfl) rfl))))
  j8)
  (j1 (jn (mt_cmp (om_eq C.un) (sv C 5 rfl) me_int (nomark _))
  (j3 (j5 (me_tup (ma_cons (me_str Yg) (ma_cons (sv C 10 rfl) (ma_cons (sv C 7 rfl) (ma_cons (sv C 8 rfl) ma_nil rfl) rfl) rfl) rfl))))
  j8)
  (j3 (j5 (xm (mt_cmp (om_eq C.un) (sv C 5 rfl) me_int (nomark _)) (me_tup (ma_cons (me_str yp) (ma_cons (sv C 4 rfl) ma_nil rfl) rfl)) (me_tup (ma_cons (me_str qi) (ma_cons (me_bin J4 (me_bin U1 (sv C 3 rfl) me_int) me_int) ma_nil rfl) rfl)))))))))))))))))))))
theorem Bf (T:Tx w K mg):ul P w K mg base "_law_code" 4 3 v5:=fnC T.d_code ["_law_script","_law_base","_law_many","_law_found"] ["range","_law_mix"] ⟨rfl,rfl,rfl,by decide +kernel,rfl,by decide +kernel,by decide +kernel⟩ (by decide +kernel) (by decide +kernel) rfl rfl fun _ _ _ _ _ _ _ hr C=>(j1 (sac C 3 rfl (T:=["_law_k_here"]) (caps:=["_law_script","_law_base","_law_many"]) (ix:=[0,1,2]) (jg (show yr _ (defScope Kn)=true by decide +kernel)) (ug C.hN (by decide +kernel)) C.calm (ym (C.g 0 rfl) T.n_range (sv C 2 rfl)) (fun C2 s2 H2 ex2=>have B:Z0 _ ["_law_k_here"] ["_law_script","_law_base","_law_many"] ["_law_step"]=true:=(by decide +kernel);have C:=Yo (C:=C2) (s:=s2) (H:=H2) (ex:=ex2) C.calm C.un (by decide +kernel) B;And.intro (stb C 0 rfl (blk_loc B (j:=0) rfl)) (And.intro mifs_nil (me_fn (ok_step T) (hr.mono (by decide)) (C.g 0 rfl) (ma_cons (svb C 1 rfl) (ma_cons (me_bin om_add (svb C 2 rfl) (me_bin om_mul me_int (svb C 0 rfl))) (ma_cons (me_bin om_sub (svb C 3 rfl) (svb C 0 rfl)) ma_nil rfl) rfl) rfl) rfl))))
  (j3 (j5 (az (sv C 3 rfl) (Jp (ma_cons (me_idx (Jp (ma_cons (me_tup (ma_cons (me_str Uf) ma_nil rfl)) (ma_cons (me_tup (ma_cons (me_str yp) (ma_cons me_int ma_nil rfl) rfl)) ma_nil rfl) rfl)) (me_bin J4 (me_fn (z9 T) (hr.mono (by decide)) (C.g 1 rfl) (ma_cons (sv C 0 rfl) (ma_cons (me_bin om_add (sv C 1 rfl) (me_bin om_mul me_int (sv C 2 rfl))) ma_nil rfl) rfl) rfl) me_int) (fun _ _=>rfl)) ma_nil rfl))))))
theorem Xo (T:Tx w K mg):ul P w K mg base "no_slots" 1 0 qu:=fnC T.d_p_no_slots [] ["SLOTS"] ⟨rfl,rfl,rfl,by decide +kernel,rfl,by decide +kernel,by decide +kernel⟩ (by decide +kernel) (by decide +kernel) rfl rfl fun _ _ _ _ _ _ _ hr C=>(j3 (j5 (a76 (ma_cons Yq ma_nil rfl) (ja T.c_SLOTS (C.g 0 rfl)))))
theorem Uz (T:Tx w K mg):ul P w K mg base "is_whole" 1 1 U5:=fnC T.d_p_is_whole ["thing"] ["isinstance","int","bool"] ⟨rfl,rfl,rfl,by decide +kernel,rfl,by decide +kernel,by decide +kernel⟩ (by decide +kernel) (by decide +kernel) rfl rfl fun _ _ _ _ _ _ _ hr C=>(j3 (j5 (me_and (Ws .int PyProof.Rows.boot_int (C.g 0 rfl) T.n_isinstance (C.g 1 rfl) T.n_int (sv C 0 rfl)) (me_one (c7 (Ws .bool M.boot_bool (C.g 0 rfl) T.n_isinstance (C.g 2 rfl) T.n_bool (sv C 0 rfl)))))))
theorem xr (T:Tx w K mg):ul P w K mg base "is_number" 2 1 Zz:=fnC T.d_p_is_number ["thing"] ["is_whole","ROUND"] ⟨rfl,rfl,rfl,by decide +kernel,rfl,by decide +kernel,by decide +kernel⟩ (by decide +kernel) (by decide +kernel) rfl rfl fun _ _ _ _ _ _ _ hr C=>(j3 (j5 (me_and (me_fn (Uz T) (hr.mono (by decide)) (C.g 0 rfl) (ma_cons (sv C 0 rfl) ma_nil rfl) rfl) (me_one (xl w9 q0 me_int (sv C 0 rfl) (ja T.c_ROUND (C.g 1 rfl)) rfl)))))
theorem ok_p_is_part (T:Tx w K mg):ul P w K mg base "is_part" 3 2 uy:=fnC T.d_p_is_part ["kind","part"] ["is_number","is_whole","SIZES","SLOTS","FARTHEST","BASES","OPS","TESTS"] ⟨rfl,rfl,rfl,by decide +kernel,rfl,by decide +kernel,by decide +kernel⟩ (by decide +kernel) (by decide +kernel) rfl rfl fun _ _ _ _ _ _ _ hr C=>(j1 (jn (mt_cmp (om_eq C.un) (sv C 0 rfl) (me_str va) (nomark _))
  (j3 (j5 (me_fn (xr T) (hr.mono (by decide)) (C.g 0 rfl) (ma_cons (sv C 1 rfl) ma_nil rfl) rfl)))
  j8)
  (j1 (jn (mt_cmp (om_eq C.un) (sv C 0 rfl) (me_str Fw) (nomark _))
  (j3 (j5 (me_and (me_fn (Uz T) (hr.mono (by decide)) (C.g 1 rfl) (ma_cons (sv C 1 rfl) ma_nil rfl) rfl) (me_one (me_cmp (U0 C.un) (sv C 1 rfl) (ja T.c_SIZES (C.g 2 rfl)) rfl)))))
  j8)
  (j1 (jn (mt_cmp (om_eq C.un) (sv C 0 rfl) (me_str Fx) (nomark _))
  (j3 (j5 (me_and (me_fn (Uz T) (hr.mono (by decide)) (C.g 1 rfl) (ma_cons (sv C 1 rfl) ma_nil rfl) rfl) (me_one (xl w9 q0 me_int (sv C 1 rfl) (ja T.c_SLOTS (C.g 3 rfl)) rfl)))))
  j8)
  (j1 (jn (mt_cmp (om_eq C.un) (sv C 0 rfl) (me_str Xq) (nomark _))
  (j3 (j5 (me_and (me_fn (Uz T) (hr.mono (by decide)) (C.g 1 rfl) (ma_cons (sv C 1 rfl) ma_nil rfl) rfl) (me_one (xl w9 w9 me_int (sv C 1 rfl) (ja T.c_FARTHEST (C.g 4 rfl)) rfl)))))
  j8)
  (j1 (jn (mt_cmp (om_eq C.un) (sv C 0 rfl) (me_str Ft) (nomark _))
  (j3 (j5 (me_cmp (U0 C.un) (sv C 1 rfl) (ja T.c_BASES (C.g 5 rfl)) rfl)))
  j8)
  (j1 (jn (mt_cmp (om_eq C.un) (sv C 0 rfl) (me_str bz) (nomark _))
  (j3 (j5 (me_cmp (U0 C.un) (sv C 1 rfl) (ja T.c_OPS (C.g 6 rfl)) rfl)))
  j8)
  (j3 (j5 (me_cmp (U0 C.un) (sv C 1 rfl) (ja T.c_TESTS (C.g 7 rfl)) rfl)))))))))
theorem za (T:Tx w K mg):ul P w K mg base "can_be_done_by" 1 2 Jt:=fnC T.d_p_can_be_done_by ["op","k"] ["DIVIDING","SHIFTING","WIDTH"] ⟨rfl,rfl,rfl,by decide +kernel,rfl,by decide +kernel,by decide +kernel⟩ (by decide +kernel) (by decide +kernel) rfl rfl fun _ _ _ _ _ _ _ hr C=>(j1 (jn (mt_cmp (U0 C.un) (sv C 0 rfl) (ja T.c_DIVIDING (C.g 0 rfl)) rfl)
  (j3 (j5 (me_cmp (xt C.un) (sv C 1 rfl) me_int (nomark _))))
  j8)
  (j1 (jn (mt_cmp (U0 C.un) (sv C 0 rfl) (ja T.c_SHIFTING (C.g 1 rfl)) rfl)
  (j3 (j5 (me_cmp q0 (sv C 1 rfl) (ja T.c_WIDTH (C.g 2 rfl)) (nomark _))))
  j8)
  (j3 (j5 Yq))))
theorem Wz (T:Tx w K mg):ul P w K mg base "is_step" 4 1 jw:=fnC T.d_p_is_step ["thing","kinds"] ["isinstance","tuple","len","str","PARTS","zip","all","can_be_done_by"] ⟨rfl,rfl,rfl,by decide +kernel,rfl,by decide +kernel,by decide +kernel⟩ (by decide +kernel) (by decide +kernel) rfl rfl fun _ _ _ _ _ _ _ hr C=>(j1 (jn (Gn (Y5 (Jx (Ws .tuple M.boot_tuple (C.g 0 rfl) T.n_isinstance (C.g 1 rfl) T.n_tuple (sv C 0 rfl)) (fun _=>rfl))) (Ww (mt_cmp (om_eq C.un) (me_callB cm_len (C.g 2 rfl) T.n_len PySem.boot_len (ma_cons (sv C 0 rfl) ma_nil rfl)) me_int (nomark _)))).t
  (j3 (j5 Yq))
  j8)
  (j1 (jn (Gn (Y5 (Jx (Ws .str M.boot_str (C.g 0 rfl) T.n_isinstance (C.g 3 rfl) T.n_str (me_idx (sv C 0 rfl) me_int (fun _ _=>rfl))) (fun _=>rfl))) (Ww (Kf T.c_PARTS (C.g 4 rfl) (me_idx (sv C 0 rfl) me_int (fun _ _=>rfl))))).t
  (j3 (j5 Yq))
  j8)
  (j1 (sa C 1 rfl (cy T.c_PARTS (C.g 4 rfl) (me_idx (sv C 0 rfl) me_int (fun _ _=>rfl)) (fun _ _=>rfl)))
  (j1 (jn (mt_cmp (xt C.un) (me_callB cm_len (C.g 2 rfl) T.n_len PySem.boot_len (ma_cons (sv C 0 rfl) ma_nil rfl)) (me_bin om_add me_int (me_callB cm_len (C.g 2 rfl) T.n_len PySem.boot_len (ma_cons (sv C 1 rfl) ma_nil rfl))) (nomark _))
  (j3 (j5 Yq))
  j8)
  (j1 (jn (Y5 (Jx (me_callB (aa7 C.calm) (C.g 6 rfl) T.n_all PyProof.Rows.boot_all (ma_cons (Uj (T:=["kind","part"]) (caps:=[]) (ix:=[]) (jg (show yr _ (defScope Yd)=true by decide +kernel)) (ug C.hN (by decide +kernel)) C.calm (Db true true (C.g 5 rfl) T.n_zip (sv C 1 rfl) (xn (sv C 0 rfl) (Wv me_int) Wu)) (fun C2 s2 H2 ex2=>have B:Z0 _ ["kind","part"] [] ["is_part"]=true:=(by decide +kernel);have C:=Yo (C:=C2) (s:=s2) (H:=H2) (ex:=ex2) C.calm C.un (by decide +kernel) B;And.intro (mt_tup C.calm (mts_cons (stb C 0 rfl (blk_loc B (j:=0) rfl)) (mts_cons (stb C 1 rfl (blk_loc B (j:=1) rfl)) q9))) (And.intro mifs_nil (me_fn (ok_p_is_part T) (hr.mono (by decide)) (C.g 0 rfl) (ma_cons (svb C 0 rfl) (ma_cons (svb C 1 rfl) ma_nil rfl) rfl) rfl)))) ma_nil rfl)) (fun _=>rfl)))
  (j3 (j5 Yq))
  j8)
  (j3 (j5 (me_or (me_cmp (xt C.un) (me_idx (sv C 0 rfl) me_int (fun _ _=>rfl)) (me_str gj) (nomark _)) (me_one (me_fn (za T) (hr.mono (by decide)) (C.g 7 rfl) (ma_cons (me_idx (sv C 0 rfl) me_int (fun _ _=>rfl)) (ma_cons (me_idx (sv C 0 rfl) me_int (fun _ _=>rfl)) ma_nil rfl) rfl) rfl))))))))))
theorem zb (T:Tx w K mg):ul P w K mg base "lacks_its_slot" 1 2 Jd:=fnC T.d_p_lacks_its_slot ["step","slots"] [] ⟨rfl,rfl,rfl,by decide +kernel,rfl,by decide +kernel,by decide +kernel⟩ (by decide +kernel) (by decide +kernel) rfl rfl fun _ _ _ _ _ _ _ hr C=>(j3 (j5 (me_and (me_cmp (om_eq C.un) (me_idx (sv C 0 rfl) me_int (fun _ _=>rfl)) (me_str Qb) (nomark _)) (me_one (c7 (me_idx (sv C 1 rfl) (me_idx (sv C 0 rfl) me_int (fun _ _=>rfl)) (fun _ _=>rfl)))))))
theorem Yr (T:Tx w K mg):ul P w K mg base "goals_from" 1 2 Ju:=fnC T.d_p_goals_from ["place","step","after"] [] ⟨rfl,rfl,rfl,by decide +kernel,rfl,by decide +kernel,by decide +kernel⟩ (by decide +kernel) (by decide +kernel) rfl rfl fun _ _ _ _ _ _ _ hr C=>(j1 (sa C 2 rfl (me_bin om_add (sv C 0 rfl) me_int))
  (j1 (jn (mt_cmp (U0 C.un) (me_idx (sv C 1 rfl) me_int (fun _ _=>rfl)) (me_tup (ma_cons (me_str yp) (ma_cons (me_str Uf) ma_nil rfl) rfl)) rfl)
  (j3 (j5 (Jp ma_nil)))
  j8)
  (j1 (jn (mt_cmp (om_eq C.un) (me_idx (sv C 1 rfl) me_int (fun _ _=>rfl)) (me_str ud) (nomark _))
  (j3 (j5 (Jp (ma_cons (me_bin om_add (sv C 2 rfl) (me_idx (sv C 1 rfl) me_int (fun _ _=>rfl))) ma_nil rfl))))
  j8)
  (j1 (jn (mt_cmp (U0 C.un) (me_idx (sv C 1 rfl) me_int (fun _ _=>rfl)) (me_tup (ma_cons (me_str Zn) (ma_cons (me_str Yg) ma_nil rfl) rfl)) rfl)
  (j3 (j5 (Jp (ma_cons (me_bin om_add (sv C 2 rfl) (me_idx (sv C 1 rfl) (Ua me_int) (fun _ _=>rfl))) (ma_cons (me_bin om_add (sv C 2 rfl) (me_idx (sv C 1 rfl) (Ua me_int) (fun _ _=>rfl))) ma_nil rfl) rfl))))
  j8)
  (j3 (j5 (Jp (ma_cons (sv C 2 rfl) ma_nil rfl))))))))
theorem Wy (T:Tx w K mg):ul P w K mg base "hand_on" 1 3 yu:=fnC T.d_p_hand_on ["kept","goals","slots","goal","before"] ["zip"] ⟨rfl,rfl,rfl,by decide +kernel,rfl,by decide +kernel,by decide +kernel⟩ (by decide +kernel) (by decide +kernel) rfl rfl fun _ _ _ _ _ _ _ hr C=>(j3 (Y6 PassesOwn.never C.calm (Uy (sv C 1 rfl)) (st C 3 rfl)
  (j1 (sa C 4 rfl (c9 C.un (sv C 0 rfl) (sv C 3 rfl) (sv C 2 rfl) ⟨rfl,rfl,rfl,rfl⟩))
  (j3 (Ke C.un (sv C 0 rfl) (sv C 3 rfl) (Uj (T:=["one","other"]) (caps:=[]) (ix:=[]) (jg (show yr _ (defScope Yc)=true by decide +kernel)) (ug C.hN (by decide +kernel)) C.calm (Db false false (C.g 0 rfl) T.n_zip (sv C 4 rfl) (sv C 2 rfl)) (fun C2 s2 H2 ex2=>have B:Z0 _ ["one","other"] [] []=true:=(by decide +kernel);have C:=Yo (C:=C2) (s:=s2) (H:=H2) (ex:=ex2) C.calm C.un (by decide +kernel) B;And.intro (mt_tup C.calm (mts_cons (stb C 0 rfl (blk_loc B (j:=0) rfl)) (mts_cons (stb C 1 rfl (blk_loc B (j:=1) rfl)) q9))) (And.intro mifs_nil (me_and (svb C 0 rfl) (me_one (svb C 1 rfl)))))))))))
theorem qc (T:Tx w K mg):ul P w K mg base "kept_behind" 1 2 uh:=fnC T.d_p_kept_behind ["step","slots"] ["enumerate"] ⟨rfl,rfl,rfl,by decide +kernel,rfl,by decide +kernel,by decide +kernel⟩ (by decide +kernel) (by decide +kernel) rfl rfl fun _ _ _ _ _ _ _ hr C=>(j1 (jn (mt_cmp (xt C.un) (me_idx (sv C 0 rfl) me_int (fun _ _=>rfl)) (me_str qi) (nomark _))
  (j3 (j5 (sv C 1 rfl)))
  j8)
  (j3 (j5 (Uj (T:=["slot","kept"]) (caps:=["step"]) (ix:=[0]) (jg (show yr _ (defScope Uw)=true by decide +kernel)) (ug C.hN (by decide +kernel)) C.calm (Wt (C.g 0 rfl) T.n_enumerate (sv C 1 rfl)) (fun C2 s2 H2 ex2=>have B:Z0 _ ["slot","kept"] ["step"] []=true:=(by decide +kernel);have C:=Yo (C:=C2) (s:=s2) (H:=H2) (ex:=ex2) C.calm C.un (by decide +kernel) B;And.intro (mt_tup C.calm (mts_cons (stb C 0 rfl (blk_loc B (j:=0) rfl)) (mts_cons (stb C 1 rfl (blk_loc B (j:=1) rfl)) q9))) (And.intro mifs_nil (me_or (svb C 1 rfl) (me_one (me_cmp (om_eq C.un) (svb C 0 rfl) (me_idx (svb C 2 rfl) me_int (fun _ _=>rfl)) (nomark _))))))))))
theorem U2 (T:Tx w K mg):ul P w K mg base "first_wrong_place" 5 1 J1:=fnC T.d_p_first_wrong_place ["code","kept","place","step","goals"] ["len","MOST_STEPS","no_slots","enumerate","is_step","lacks_its_slot","goals_from","any","kept_behind","hand_on"] ⟨rfl,rfl,rfl,by decide +kernel,rfl,by decide +kernel,by decide +kernel⟩ (by decide +kernel) (by decide +kernel) rfl rfl fun _ _ _ _ _ _ _ hr C=>(j1 (jn (Y5 (Dd w9 w9 me_int (me_callB cm_len (C.g 0 rfl) T.n_len PySem.boot_len (ma_cons (sv C 0 rfl) ma_nil rfl)) (ja T.c_MOST_STEPS (C.g 1 rfl)) rfl))
  (j3 (j5 me_int))
  j8)
  (j1 (sa C 1 rfl (a9 (Fa (a78 (Xo T) (hr.mono (by decide)) (C.g 2 rfl)) a5) (by decide) rfl rfl (by intro h;cases h) (by decide)))
  (j1 (Y6 PassesOwn.never C.calm (Wt (C.g 3 rfl) T.n_enumerate (sv C 0 rfl)) (mt_tup C.calm (mts_cons (st C 2 rfl) (mts_cons (st C 3 rfl) q9)))
  (j1 (jn (Y5 (Jx (me_fn (Wz T) (hr.mono (by decide)) (C.g 4 rfl) (ma_cons (sv C 3 rfl) ma_nil rfl) rfl) (fun _=>rfl)))
  (j3 (j5 (sv C 2 rfl)))
  j8)
  (j1 (jn (Zt (De C.un (sv C 2 rfl) (sv C 1 rfl) rfl) (Y4 (Jx (me_fn (zb T) (hr.mono (by decide)) (C.g 5 rfl) (ma_cons (sv C 3 rfl) (ma_cons (me_dget C.un (sv C 1 rfl) (sv C 2 rfl) (fun _ _=>rfl)) ma_nil rfl) rfl) rfl) (fun _=>rfl)))).t
  (j3 (j5 (sv C 2 rfl)))
  j8)
  (j1 (sa C 4 rfl (me_fn (Yr T) (hr.mono (by decide)) (C.g 6 rfl) (ma_cons (sv C 2 rfl) (ma_cons (sv C 3 rfl) ma_nil rfl) rfl) rfl))
  (j1 (jn (Jx (me_callB (Ck C.calm) (C.g 7 rfl) T.n_any PyProof.Rows.boot_any (ma_cons (Uj (T:=["goal"]) (caps:=["code"]) (ix:=[0]) (jg (show yr _ (defScope Jc)=true by decide +kernel)) (ug C.hN (by decide +kernel)) C.calm (Uy (sv C 4 rfl)) (fun C2 s2 H2 ex2=>have B:Z0 _ ["goal"] ["code"] ["len"]=true:=(by decide +kernel);have C:=Yo (C:=C2) (s:=s2) (H:=H2) (ex:=ex2) C.calm C.un (by decide +kernel) B;And.intro (stb C 0 rfl (blk_loc B (j:=0) rfl)) (And.intro mifs_nil (me_cmp om_ge (svb C 0 rfl) (me_callB cm_len (C.g 0 rfl) T.n_len PySem.boot_len (ma_cons (svb C 1 rfl) ma_nil rfl)) (nomark _))))) ma_nil rfl)) (fun _=>rfl))
  (j3 (j5 (sv C 2 rfl)))
  j8)
  (j3 (jn (De C.un (sv C 2 rfl) (sv C 1 rfl) rfl)
  (j3 (yv (me_fn (Wy T) (hr.mono (by decide)) (C.g 9 rfl) (ma_cons (sv C 1 rfl) (ma_cons (sv C 4 rfl) (ma_cons (me_fn (qc T) (hr.mono (by decide)) (C.g 8 rfl) (ma_cons (sv C 3 rfl) (ma_cons (me_dget C.un (sv C 1 rfl) (sv C 2 rfl) (fun _ _=>rfl)) ma_nil rfl) rfl) rfl) ma_nil rfl) rfl) rfl) rfl)))
  j8)))))))
  (j3 (j5 c8)))))
theorem z0 (T:Tx w K mg):ul P w K mg base "is_let_in" 6 1 Jk:=fnC T.d_p_is_let_in ["code"] ["first_wrong_place"] ⟨rfl,rfl,rfl,by decide +kernel,rfl,by decide +kernel,by decide +kernel⟩ (by decide +kernel) (by decide +kernel) rfl rfl fun _ _ _ _ _ _ _ hr C=>(j3 (j5 (a77 (me_fn (U2 T) (hr.mono (by decide)) (C.g 0 rfl) (ma_cons (sv C 0 rfl) ma_nil rfl) rfl))))
theorem Fe (T:Tx w K mg):ul P w K mg base "look" 6 1 X2:=fnC T.d_p_look ["code","place"] ["first_wrong_place"] ⟨rfl,rfl,rfl,by decide +kernel,rfl,by decide +kernel,by decide +kernel⟩ (by decide +kernel) (by decide +kernel) rfl rfl fun _ _ _ _ _ _ _ hr C=>(j1 (sa C 1 rfl (me_fn (U2 T) (hr.mono (by decide)) (C.g 0 rfl) (ma_cons (sv C 0 rfl) ma_nil rfl) rfl))
  (j3 (jn (Gm (sv C 1 rfl))
  (j3 a73)
  j8)))
theorem Ub (T:Tx w K mg):ul P w K mg base "led_goals" 2 3 J8:=fnC T.d_p_led_goals ["code","ends","place"] ["LEADING","goals_from"] ⟨rfl,rfl,rfl,by decide +kernel,rfl,by decide +kernel,by decide +kernel⟩ (by decide +kernel) (by decide +kernel) rfl rfl fun _ _ _ _ _ _ _ hr C=>(j1 (jn (mt_cmp (Vs C.un) (me_idx (me_idx (sv C 0 rfl) (sv C 2 rfl) (fun _ _=>rfl)) me_int (fun _ _=>rfl)) (ja T.c_LEADING (C.g 0 rfl)) rfl)
  (j3 (j5 (Jp ma_nil)))
  j8)
  (j3 (j5 (Uj (T:=["goal"]) (caps:=["ends"]) (ix:=[1]) (jg (show yr _ (defScope yq)=true by decide +kernel)) (ug C.hN (by decide +kernel)) C.calm (Uy (me_fn (Yr T) (hr.mono (by decide)) (C.g 1 rfl) (ma_cons (sv C 2 rfl) (ma_cons (me_idx (sv C 0 rfl) (sv C 2 rfl) (fun _ _=>rfl)) ma_nil rfl) rfl) rfl)) (fun C2 s2 H2 ex2=>have B:Z0 _ ["goal"] ["ends"] []=true:=(by decide +kernel);have C:=Yo (C:=C2) (s:=s2) (H:=H2) (ex:=ex2) C.calm C.un (by decide +kernel) B;And.intro (stb C 0 rfl (blk_loc B (j:=0) rfl)) (And.intro mifs_nil (me_dget C.un (svb C 1 rfl) (svb C 0 rfl) (fun _ _=>rfl))))))))
theorem Wx (T:Tx w K mg):ul P w K mg base "ends_of" 3 1 zn:=fnC T.d_p_ends_of ["code","ends","place","goals","only_leads_on"] ["len","range","led_goals"] ⟨rfl,rfl,rfl,by decide +kernel,rfl,by decide +kernel,by decide +kernel⟩ (by decide +kernel) (by decide +kernel) rfl rfl fun _ _ _ _ _ _ _ hr C=>(j1 (sa C 1 rfl Gi)
  (j1 (Y6 PassesOwn.never C.calm (a6 (C.g 1 rfl) T.n_range (ma_cons (me_bin om_sub (me_callB cm_len (C.g 0 rfl) T.n_len PySem.boot_len (ma_cons (sv C 0 rfl) ma_nil rfl)) me_int) (ma_cons (Ua me_int) (ma_cons (Ua me_int) ma_nil rfl) rfl) rfl)) (st C 2 rfl)
  (j1 (sa C 3 rfl (me_fn (Ub T) (hr.mono (by decide)) (C.g 2 rfl) (ma_cons (sv C 0 rfl) (ma_cons (sv C 1 rfl) (ma_cons (sv C 2 rfl) ma_nil rfl) rfl) rfl) rfl))
  (j1 (sa C 4 rfl (me_and (me_cmp Ad (me_callB cm_len (C.g 0 rfl) T.n_len PySem.boot_len (ma_cons (sv C 3 rfl) ma_nil rfl)) me_int (nomark _)) (me_one (me_cmp (om_eq C.un) (me_idx (sv C 3 rfl) me_int (fun _ _=>rfl)) (me_idx (sv C 3 rfl) (Ua me_int) (fun _ _=>rfl)) (nomark _)))))
  (j3 (Ke C.un (sv C 1 rfl) (sv C 2 rfl) (xm (Jx (sv C 4 rfl) (fun _=>rfl)) (me_idx (sv C 3 rfl) me_int (fun _ _=>rfl)) (sv C 2 rfl)))))))
  (j3 (xo 1 (j5 (sv C 1 rfl))))))
theorem Qo (T:Tx w K mg):ul P w K mg base "own_places" 1 2 U4:=fnC T.d_p_own_places ["ends","count"] ["range"] ⟨rfl,rfl,rfl,by decide +kernel,rfl,by decide +kernel,by decide +kernel⟩ (by decide +kernel) (by decide +kernel) rfl rfl fun _ _ _ _ _ _ _ hr C=>(j3 (j5 (Uj (T:=["place"]) (caps:=["ends"]) (ix:=[0]) (jg (show yr _ (defScope Ue)=true by decide +kernel)) (ug C.hN (by decide +kernel)) C.calm (ym (C.g 0 rfl) T.n_range (sv C 1 rfl)) (fun C2 s2 H2 ex2=>have B:Z0 _ ["place"] ["ends"] []=true:=(by decide +kernel);have C:=Yo (C:=C2) (s:=s2) (H:=H2) (ex:=ex2) C.calm C.un (by decide +kernel) B;And.intro (stb C 0 rfl (blk_loc B (j:=0) rfl)) (And.intro (mifs_one (mt_cmp (om_eq C.un) (me_dget C.un (svb C 1 rfl) (svb C 0 rfl) (fun _ _=>rfl)) (svb C 0 rfl) (nomark _))) (svb C 0 rfl))))))
theorem wz (T:Tx w K mg):ul P w K mg base "lead" 1 2 yh:=fnC T.d_p_lead ["led_to","goals","goal"] [] ⟨rfl,rfl,rfl,by decide +kernel,rfl,by decide +kernel,by decide +kernel⟩ (by decide +kernel) (by decide +kernel) rfl rfl fun _ _ _ _ _ _ _ hr C=>(j3 (Y6 PassesOwn.never C.calm (Uy (sv C 1 rfl)) (st C 2 rfl)
  (j3 (Ke C.un (sv C 0 rfl) (sv C 2 rfl) Yq))))
theorem q8 (T:Tx w K mg):ul P w K mg base "bridge_goals" 1 2 uq:=fnC T.d_p_bridge_goals ["code","end"] ["TELLING"] ⟨rfl,rfl,rfl,by decide +kernel,rfl,by decide +kernel,by decide +kernel⟩ (by decide +kernel) (by decide +kernel) rfl rfl fun _ _ _ _ _ _ _ hr C=>(j3 (j5 (xm (mt_cmp (U0 C.un) (me_idx (me_idx (sv C 0 rfl) (sv C 1 rfl) (fun _ _=>rfl)) me_int (fun _ _=>rfl)) (ja T.c_TELLING (C.g 0 rfl)) rfl) (Jp ma_nil) (Jp (ma_cons (sv C 1 rfl) ma_nil rfl)))))
theorem qd (T:Tx w K mg):ul P w K mg base "places_left" 3 2 Us:=fnC T.d_p_places_left ["code","ends","left","led_to","onward","place","goes_on_here"] ["len","own_places","bridge_goals","lead","led_goals","LEADING","TELLING"] ⟨rfl,rfl,rfl,by decide +kernel,rfl,by decide +kernel,by decide +kernel⟩ (by decide +kernel) (by decide +kernel) rfl rfl fun _ _ _ _ _ _ _ hr C=>(j1 (sa C 2 rfl (Gj ma_nil))
  (j1 (sa C 3 rfl Gi)
  (j1 (sa C 4 rfl me_int)
  (j1 (Y6 PassesOwn.never C.calm (Uy (me_fn (Qo T) (hr.mono (by decide)) (C.g 1 rfl) (ma_cons (sv C 1 rfl) (ma_cons (me_callB cm_len (C.g 0 rfl) T.n_len PySem.boot_len (ma_cons (sv C 0 rfl) ma_nil rfl)) ma_nil rfl) rfl) rfl)) (st C 5 rfl)
  (j1 (sa C 6 rfl (me_and (a8 (sv C 4 rfl)) (me_one (me_cmp (om_eq C.un) (me_dget C.un (sv C 1 rfl) (sv C 4 rfl) (fun _ _=>rfl)) (sv C 5 rfl) (nomark _)))))
  (j1 (jn (Zt (Y5 (Jx (sv C 6 rfl) (fun _=>rfl))) (Y4 (Fb C.un (sv C 5 rfl) (sv C 3 rfl) rfl))).t
  (j3 a4)
  j8)
  (j1 (jn (Zt (Gm (sv C 4 rfl)) (Y4 (Y5 (Jx (sv C 6 rfl) (fun _=>rfl))))).t
  (j1 (yv (zk (sv C 2 rfl) (ma_cons (sv C 4 rfl) ma_nil rfl) (fun _ _=>rfl)))
  (j3 (yv (me_fn (wz T) (hr.mono (by decide)) (C.g 3 rfl) (ma_cons (sv C 3 rfl) (ma_cons (me_fn (q8 T) (hr.mono (by decide)) (C.g 2 rfl) (ma_cons (sv C 0 rfl) (ma_cons (me_dget C.un (sv C 1 rfl) (sv C 4 rfl) (fun _ _=>rfl)) ma_nil rfl) rfl) rfl) ma_nil rfl) rfl) rfl))))
  j8)
  (j1 (yv (zk (sv C 2 rfl) (ma_cons (sv C 5 rfl) ma_nil rfl) (fun _ _=>rfl)))
  (j1 (yv (me_fn (wz T) (hr.mono (by decide)) (C.g 3 rfl) (ma_cons (sv C 3 rfl) (ma_cons (me_fn (Ub T) (hr.mono (by decide)) (C.g 4 rfl) (ma_cons (sv C 0 rfl) (ma_cons (sv C 1 rfl) (ma_cons (sv C 5 rfl) ma_nil rfl) rfl) rfl) rfl) ma_nil rfl) rfl) rfl))
  (j3 (sa C 4 rfl (xm (mt_cmp (U0 C.un) (me_idx (me_idx (sv C 0 rfl) (sv C 5 rfl) (fun _ _=>rfl)) me_int (fun _ _=>rfl)) (me_bin om_add (ja T.c_LEADING (C.g 5 rfl)) (ja T.c_TELLING (C.g 6 rfl))) rfl) c8 (me_bin om_add (sv C 5 rfl) me_int))))))))))
  (j3 (xo 2 (j5 (sv C 2 rfl))))))))
theorem ok_p_new_step (T:Tx w K mg):ul P w K mg base "new_step" 3 4 ur:=fnC T.d_p_new_step ["code","ends","place","new_places","step","end","after"] ["TELLING","LEADING","led_goals","tuple"] ⟨rfl,rfl,rfl,by decide +kernel,rfl,by decide +kernel,by decide +kernel⟩ (by decide +kernel) (by decide +kernel) rfl rfl fun _ _ _ _ _ _ _ hr C=>(j1 (sa C 4 rfl (me_idx (sv C 0 rfl) (sv C 2 rfl) (fun _ _=>rfl)))
  (j1 (sa C 5 rfl (me_dget C.un (sv C 1 rfl) (sv C 2 rfl) (fun _ _=>rfl)))
  (j1 (sa C 6 rfl (me_bin om_add (me_dget C.un (sv C 3 rfl) (sv C 2 rfl) (fun _ _=>rfl)) me_int))
  (j1 (jn (Zt (mt_cmp (xt C.un) (sv C 5 rfl) (sv C 2 rfl) (nomark _)) (Y4 (mt_cmp (U0 C.un) (me_idx (me_idx (sv C 0 rfl) (sv C 5 rfl) (fun _ _=>rfl)) me_int (fun _ _=>rfl)) (ja T.c_TELLING (C.g 0 rfl)) rfl))).t
  (j3 (j5 (me_idx (sv C 0 rfl) (sv C 5 rfl) (fun _ _=>rfl))))
  j8)
  (j1 (jn (mt_cmp (xt C.un) (sv C 5 rfl) (sv C 2 rfl) (nomark _))
  (j3 (j5 (me_tup (ma_cons (me_str ud) (ma_cons (me_bin om_sub (me_dget C.un (sv C 3 rfl) (sv C 5 rfl) (fun _ _=>rfl)) (sv C 6 rfl)) ma_nil rfl) rfl))))
  j8)
  (j1 (jn (mt_cmp (U0 C.un) (me_idx (sv C 4 rfl) me_int (fun _ _=>rfl)) (ja T.c_LEADING (C.g 1 rfl)) rfl)
  (j3 (j5 (me_bin om_add (xn (sv C 4 rfl) Wu (Wv (Ua me_int))) (Q0 aa5 (C.g 3 rfl) T.n_tuple M.boot_tuple (ma_cons (Uj (T:=["goal"]) (caps:=["after","new_places"]) (ix:=[6,3]) (jg (show yr _ (defScope Y1)=true by decide +kernel)) (ug C.hN (by decide +kernel)) C.calm (Uy (me_fn (Ub T) (hr.mono (by decide)) (C.g 2 rfl) (ma_cons (sv C 0 rfl) (ma_cons (sv C 1 rfl) (ma_cons (sv C 2 rfl) ma_nil rfl) rfl) rfl) rfl)) (fun C2 s2 H2 ex2=>have B:Z0 _ ["goal"] ["after","new_places"] []=true:=(by decide +kernel);have C:=Yo (C:=C2) (s:=s2) (H:=H2) (ex:=ex2) C.calm C.un (by decide +kernel) B;And.intro (stb C 0 rfl (blk_loc B (j:=0) rfl)) (And.intro mifs_nil (me_bin om_sub (me_dget C.un (svb C 2 rfl) (svb C 0 rfl) (fun _ _=>rfl)) (svb C 1 rfl))))) ma_nil rfl)))))
  j8)
  (j3 (j5 (sv C 4 rfl)))))))))
theorem Qt (T:Tx w K mg):ul P w K mg base "shrunk" 7 1 Yz:=fnC T.d_p_shrunk ["code","ends","left","new_places"] ["look","ends_of","places_left","enumerate","dict"] ⟨rfl,rfl,rfl,by decide +kernel,rfl,by decide +kernel,by decide +kernel⟩ (by decide +kernel) (by decide +kernel) rfl rfl fun _ _ _ _ _ _ _ hr C=>(j1 (yv (me_fn (Fe T) (hr.mono (by decide)) (C.g 0 rfl) (ma_cons (sv C 0 rfl) ma_nil rfl) rfl))
  (j1 (sa C 1 rfl (me_fn (Wx T) (hr.mono (by decide)) (C.g 1 rfl) (ma_cons (sv C 0 rfl) ma_nil rfl) rfl))
  (j1 (sa C 2 rfl (me_fn (qd T) (hr.mono (by decide)) (C.g 2 rfl) (ma_cons (sv C 0 rfl) (ma_cons (sv C 1 rfl) ma_nil rfl) rfl) rfl))
  (j1 (sa C 3 rfl (Q0 (A7 C.calm) (C.g 4 rfl) T.n_dict PyProof.Rows.boot_dict (ma_cons (Uj (T:=["new_place","place"]) (caps:=[]) (ix:=[]) (jg (show yr _ (defScope Y0)=true by decide +kernel)) (ug C.hN (by decide +kernel)) C.calm (Wt (C.g 3 rfl) T.n_enumerate (sv C 2 rfl)) (fun C2 s2 H2 ex2=>have B:Z0 _ ["new_place","place"] [] []=true:=(by decide +kernel);have C:=Yo (C:=C2) (s:=s2) (H:=H2) (ex:=ex2) C.calm C.un (by decide +kernel) B;And.intro (mt_tup C.calm (mts_cons (stb C 0 rfl (blk_loc B (j:=0) rfl)) (mts_cons (stb C 1 rfl (blk_loc B (j:=1) rfl)) q9))) (And.intro mifs_nil (me_tup (ma_cons (svb C 1 rfl) (ma_cons (svb C 0 rfl) ma_nil rfl) rfl))))) ma_nil rfl)))
  (j3 (j5 (cz (T:=["place"]) (caps:=["code","ends","new_places"]) (ix:=[0,1,3]) (jg (show yr _ (defScope Y0)=true by decide +kernel)) (ug C.hN (by decide +kernel)) C.calm (Uy (sv C 2 rfl)) (fun C2 s2 H2 ex2=>have B:Z0 _ ["place"] ["code","ends","new_places"] ["new_step"]=true:=(by decide +kernel);have C:=Yo (C:=C2) (s:=s2) (H:=H2) (ex:=ex2) C.calm C.un (by decide +kernel) B;And.intro (stb C 0 rfl (blk_loc B (j:=0) rfl)) (And.intro mifs_nil (me_fn (ok_p_new_step T) (hr.mono (by decide)) (C.g 0 rfl) (ma_cons (svb C 1 rfl) (ma_cons (svb C 2 rfl) (ma_cons (svb C 0 rfl) (ma_cons (svb C 3 rfl) ma_nil rfl) rfl) rfl) rfl) rfl))))))))))
theorem Vr (T:Tx w K mg):ul P w K mg base "_law_goals" 1 2 zh:=fnC T.d_goals ["_law_step_here","_law_at"] [] ⟨rfl,rfl,rfl,by decide +kernel,rfl,by decide +kernel,by decide +kernel⟩ (by decide +kernel) (by decide +kernel) rfl rfl fun _ _ _ _ _ _ _ hr C=>(j1 (jn (mt_cmp (U0 C.un) (me_idx (sv C 0 rfl) me_int (fun _ _=>rfl)) (me_tup (ma_cons (me_str yp) (ma_cons (me_str Uf) ma_nil rfl) rfl)) rfl)
  (j3 (j5 (Jp ma_nil)))
  j8)
  (j1 (jn (mt_cmp (om_eq C.un) (me_idx (sv C 0 rfl) me_int (fun _ _=>rfl)) (me_str ud) (nomark _))
  (j3 (j5 (Jp (ma_cons (me_bin om_add (me_bin om_add (sv C 1 rfl) me_int) (me_idx (sv C 0 rfl) me_int (fun _ _=>rfl))) ma_nil rfl))))
  j8)
  (j1 (jn (mt_cmp (U0 C.un) (me_idx (sv C 0 rfl) me_int (fun _ _=>rfl)) (me_tup (ma_cons (me_str Zn) (ma_cons (me_str Yg) ma_nil rfl) rfl)) rfl)
  (j3 (j5 (Jp (ma_cons (me_bin om_add (me_bin om_add (sv C 1 rfl) me_int) (me_idx (sv C 0 rfl) (Ua me_int) (fun _ _=>rfl))) (ma_cons (me_bin om_add (me_bin om_add (sv C 1 rfl) me_int) (me_idx (sv C 0 rfl) (Ua me_int) (fun _ _=>rfl))) ma_nil rfl) rfl))))
  j8)
  (j3 (j5 (Jp (ma_cons (me_bin om_add (sv C 1 rfl) me_int) ma_nil rfl)))))))
theorem Dj (T:Tx w K mg):ul P w K mg base "_law_there" 2 1 f_there:=fnC T.d_there ["_law_code_here","_law_found","_law_at","_law_goal"] ["len","range","_law_goals"] ⟨rfl,rfl,rfl,by decide +kernel,rfl,by decide +kernel,by decide +kernel⟩ (by decide +kernel) (by decide +kernel) rfl rfl fun _ _ _ _ _ _ _ hr C=>(j1 (sa C 1 rfl (Gj (ma_cons me_int ma_nil rfl)))
  (j1 (Y6 PassesOwn.never C.calm (ym (C.g 1 rfl) T.n_range (me_callB cm_len (C.g 0 rfl) T.n_len PySem.boot_len (ma_cons (sv C 0 rfl) ma_nil rfl))) (st C 2 rfl)
  (j3 (jn (mt_cmp (U0 C.un) (sv C 2 rfl) (sv C 1 rfl) rfl)
  (j3 (Y6 PassesOwn.never C.calm (Uy (me_fn (Vr T) (hr.mono (by decide)) (C.g 2 rfl) (ma_cons (me_idx (sv C 0 rfl) (sv C 2 rfl) (fun _ _=>rfl)) (ma_cons (sv C 2 rfl) ma_nil rfl) rfl) rfl)) (st C 3 rfl)
  (j3 (jn (mt_cmp (Vs C.un) (sv C 3 rfl) (sv C 1 rfl) rfl)
  (j3 (yv (zk (sv C 1 rfl) (ma_cons (sv C 3 rfl) ma_nil rfl) (fun _ _=>rfl))))
  j8))))
  j8)))
  (j3 (xo 1 (j5 (sv C 1 rfl))))))
theorem di:FnScope ["_law_script","_law_code_here","_law_k_here","_law_found","_law_at","_law_step_here","_law_leads","_law_handed","_law_again"] ["_law_script"] (defScope Xb):=⟨rfl,rfl,rfl,by decide +kernel,rfl,by decide +kernel,by decide +kernel⟩
theorem Bg (T:Tx w K mg) {f:Addr} {fd:FuncData} (F:Fun K "law" "law" Xb f fd):FnOk P w K mg base CX0 8 f fd ["_law_script"] (spM K 1 f_law):=by
 refine fo F di rfl rfl fun cdv A outer s H E hr=>?_
 have C:=a09 (CX:=CX0) (P:=P) (w:=w) (K:=K) (mg:=mg) (base:=base) (outer:=outer) (H:=H) (E:=E) di.nd (cr (by decide +kernel)) (a02 (show glB _ ["_law_mix","_law_code","len","range","min","is_let_in","shrunk","_law_there","sorted","list","_law_goals","any"]=true from (by decide +kernel))) hr
 exact ((j1 (sa C 1 rfl (me_fn (Bf T) (hr.mono (by decide)) (C.g 1 rfl) (ma_cons (sv C 0 rfl) (ma_cons me_int (ma_cons (me_bin J4 (me_fn (z9 T) (hr.mono (by decide)) (C.g 0 rfl) (ma_cons (sv C 0 rfl) (ma_cons me_int ma_nil rfl) rfl) rfl) me_int) ma_nil rfl) rfl) rfl) rfl))
  (j1 (Y6 PassesOwn.never C.calm (ym (C.g 3 rfl) T.n_range (me_bin om_sub (me_callB cm_len (C.g 2 rfl) T.n_len PySem.boot_len (ma_cons (sv C 1 rfl) ma_nil rfl)) me_int)) (st C 2 rfl)
  (j3 (jn (mt_cmp (om_eq C.un) (me_bin J4 (me_fn (z9 T) (hr.mono (by decide)) (C.g 0 rfl) (ma_cons (sv C 0 rfl) (ma_cons (me_bin om_add me_int (sv C 2 rfl)) ma_nil rfl) rfl) rfl) me_int) me_int (nomark _))
  (j3 (Dc (sv C 1 rfl) (sv C 2 rfl) (me_tup (ma_cons (me_str ud) (ma_cons (me_bin J4 (me_fn (z9 T) (hr.mono (by decide)) (C.g 0 rfl) (ma_cons (sv C 0 rfl) (ma_cons (me_bin om_add me_int (sv C 2 rfl)) ma_nil rfl) rfl) rfl) (me_callB (aa6 C.calm) (C.g 4 rfl) T.n_min PyProof.Rows.boot_min (ma_cons me_int (ma_cons (me_bin om_sub (me_bin om_sub (me_callB cm_len (C.g 2 rfl) T.n_len PySem.boot_len (ma_cons (sv C 1 rfl) ma_nil rfl)) (sv C 2 rfl)) me_int) ma_nil rfl) rfl))) ma_nil rfl) rfl))))
  j8)))
  (j1 (xo 1 (jn (Y5 (Jx (me_fn (z0 T) (hr.mono (by decide)) (C.g 5 rfl) (ma_cons (sv C 1 rfl) ma_nil rfl) rfl) (fun _=>rfl)))
  (j3 (j5 Yq))
  j8))
  (j1 (sa C 3 rfl (me_fn (Qt T) (hr.mono (by decide)) (C.g 6 rfl) (ma_cons (sv C 1 rfl) ma_nil rfl) rfl))
  (j1 (xo 3 (jn (Gn (Y5 (Jx (me_fn (z0 T) (hr.mono (by decide)) (C.g 5 rfl) (ma_cons (sv C 3 rfl) ma_nil rfl) rfl) (fun _=>rfl))) (Ww (mt_cmp (xt C.un) (me_callB Ez (C.g 8 rfl) T.n_sorted PyProof.Rows.boot_sorted (ma_cons (me_fn (Dj T) (hr.mono (by decide)) (C.g 7 rfl) (ma_cons (sv C 3 rfl) ma_nil rfl) rfl) ma_nil rfl)) (Kb C.calm (C.g 9 rfl) T.n_list (C.g 3 rfl) T.n_range (me_callB cm_len (C.g 2 rfl) T.n_len PySem.boot_len (ma_cons (sv C 3 rfl) ma_nil rfl))) (nomark _)))).t
  (j3 (j5 Yq))
  j8))
  (j1 (Y6 PassesOwn.never C.calm (ym (C.g 3 rfl) T.n_range (me_callB cm_len (C.g 2 rfl) T.n_len PySem.boot_len (ma_cons (sv C 3 rfl) ma_nil rfl))) (st C 4 rfl)
  (j1 (sa C 5 rfl (me_idx (sv C 3 rfl) (sv C 4 rfl) (fun _ _=>rfl)))
  (j1 (sac C 6 rfl (T:=["_law_goal"]) (caps:=["_law_found"]) (ix:=[3]) (jg (show yr _ (defScope Xb)=true by decide +kernel)) (ug C.hN (by decide +kernel)) C.calm (Uy (me_fn (Vr T) (hr.mono (by decide)) (C.g 10 rfl) (ma_cons (sv C 5 rfl) (ma_cons (sv C 4 rfl) ma_nil rfl) rfl) rfl)) (fun C2 s2 H2 ex2=>have B:Z0 _ ["_law_goal"] ["_law_found"] []=true:=(by decide +kernel);have C:=Yo (C:=C2) (s:=s2) (H:=H2) (ex:=ex2) C.calm C.un (by decide +kernel) B;And.intro (stb C 0 rfl (blk_loc B (j:=0) rfl)) (And.intro mifs_nil (me_idx (svb C 1 rfl) (svb C 0 rfl) (fun _ _=>rfl)))))
  (j1 (jn (Zt (mt_cmp (U0 C.un) (me_idx (sv C 5 rfl) me_int (fun _ _=>rfl)) (me_tup (ma_cons (me_str ud) (ma_cons (me_str Zn) (ma_cons (me_str Yg) ma_nil rfl) rfl) rfl)) rfl) (Y4 (Jx (me_callB (Ck C.calm) (C.g 11 rfl) T.n_any PyProof.Rows.boot_any (ma_cons (Uj (T:=["_law_lead"]) (caps:=[]) (ix:=[]) (jg (show yr _ (defScope Xb)=true by decide +kernel)) (ug C.hN (by decide +kernel)) C.calm (Uy (sv C 6 rfl)) (fun C2 s2 H2 ex2=>have B:Z0 _ ["_law_lead"] [] []=true:=(by decide +kernel);have C:=Yo (C:=C2) (s:=s2) (H:=H2) (ex:=ex2) C.calm C.un (by decide +kernel) B;And.intro (stb C 0 rfl (blk_loc B (j:=0) rfl)) (And.intro mifs_nil (me_cmp (om_eq C.un) (me_idx (svb C 0 rfl) me_int (fun _ _=>rfl)) (me_str ud) (nomark _))))) ma_nil rfl)) (fun _=>rfl)))).t
  (j3 (j5 Yq))
  j8)
  (j1 (jn (Zt (mt_cmp (om_eq C.un) (me_idx (sv C 5 rfl) me_int (fun _ _=>rfl)) (me_str ud) (nomark _)) (Y4 (Gn (mt_cmp (U0 C.un) (me_idx (me_idx (sv C 6 rfl) me_int (fun _ _=>rfl)) me_int (fun _ _=>rfl)) (me_tup (ma_cons (me_str yp) (ma_cons (me_str Uf) ma_nil rfl) rfl)) rfl) (Ww (mt_cmp (om_eq C.un) (me_idx (sv C 5 rfl) me_int (fun _ _=>rfl)) me_int (nomark _)))).t)).t
  (j3 (j5 Yq))
  j8)
  (j3 (jn (Zt (mt_cmp (U0 C.un) (me_idx (sv C 5 rfl) me_int (fun _ _=>rfl)) (me_tup (ma_cons (me_str Zn) (ma_cons (me_str Yg) ma_nil rfl) rfl)) rfl) (Y4 (mt_cmp (om_eq C.un) (me_idx (sv C 5 rfl) (Ua me_int) (fun _ _=>rfl)) (me_idx (sv C 5 rfl) (Ua me_int) (fun _ _=>rfl)) (nomark _)))).t
  (j3 (j5 Yq))
  j8)))))))
  (j1 (sa C 7 rfl (Q0 A6 (C.g 9 rfl) T.n_list M.boot_list (ma_cons (sv C 3 rfl) ma_nil rfl)))
  (j1 (sa C 8 rfl (me_fn (Qt T) (hr.mono (by decide)) (C.g 6 rfl) (ma_cons (sv C 7 rfl) ma_nil rfl) rfl))
  (j1 (yv (zk (sv C 8 rfl) (ma_cons (me_tup (ma_cons (me_str V0) ma_nil rfl)) ma_nil rfl) (fun _ _=>rfl)))
  (j3 (j5 (me_and (me_cmp (om_eq C.un) (xn (sv C 8 rfl) Wu (Wv (Ua me_int))) (sv C 3 rfl) (nomark _)) (me_one (me_cmp (om_eq C.un) (sv C 7 rfl) (sv C 3 rfl) (nomark _))))))))))))))))
theorem finish {fa:Addr} (hmg:mg "law"=some (.ref fa)) (T:Tx w K mg):∃ fd:FuncData,Qx fd ["_law_script"]∧∀ base:Heap,FnOk P w K mg base CX0 8 fa fd ["_law_script"] (spM K 1 f_law):=by
 obtain ⟨f,fd,h1,h2,h3⟩:=T.d_law
 have e:=hmg.symm.trans h1
 cases e
 exact ⟨fd,h3,fun base=>Bg T h2⟩
theorem mkT {h:Heap} (KX:K.In h) (G:h.Ns mainGlobals mg)
    (n_range:PySem.W.nsIn K mainGlobals "range"=some none)
    (n_len:PySem.W.nsIn K mainGlobals "len"=some none)
    (n_max:PySem.W.nsIn K mainGlobals "max"=some none)
    (n_min:PySem.W.nsIn K mainGlobals "min"=some none)
    (n_enumerate:PySem.W.nsIn K mainGlobals "enumerate"=some none)
    (n_isinstance:PySem.W.nsIn K mainGlobals "isinstance"=some none)
    (n_tuple:PySem.W.nsIn K mainGlobals "tuple"=some none)
    (n_str:PySem.W.nsIn K mainGlobals "str"=some none)
    (n_zip:PySem.W.nsIn K mainGlobals "zip"=some none)
    (n_int:PySem.W.nsIn K mainGlobals "int"=some none)
    (n_bool:PySem.W.nsIn K mainGlobals "bool"=some none)
    (n_all:PySem.W.nsIn K mainGlobals "all"=some none)
    (n_any:PySem.W.nsIn K mainGlobals "any"=some none)
    (n_dict:PySem.W.nsIn K mainGlobals "dict"=some none)
    (n_sorted:PySem.W.nsIn K mainGlobals "sorted"=some none)
    (n_list:PySem.W.nsIn K mainGlobals "list"=some none)
    {t_MOST_STEPS:Tok}
    (a_MOST_STEPS:PySem.W.nsIn K mainGlobals "MOST_STEPS"=some (some (.int 2000 t_MOST_STEPS)))
    {t_SLOTS:Tok}
    (a_SLOTS:PySem.W.nsIn K mainGlobals "SLOTS"=some (some (.int 8 t_SLOTS)))
    {p_PARTS:Addr} {ep_PARTS:Nat} {k0_PARTS k1_PARTS k2_PARTS k3_PARTS k4_PARTS k5_PARTS k6_PARTS k7_PARTS k8_PARTS k9_PARTS k10_PARTS k11_PARTS k12_PARTS k13_PARTS k14_PARTS:Tok} {v0_PARTS v1_PARTS v2_PARTS v3_PARTS v4_PARTS v5_PARTS v6_PARTS v7_PARTS v8_PARTS v9_PARTS v10_PARTS v11_PARTS v12_PARTS v13_PARTS v14_PARTS:Addr}
    (a_PARTS:PySem.W.nsIn K mainGlobals "PARTS"=some (some (.ref p_PARTS)))
    (l_PARTS:K.lookup p_PARTS=some ⟨.type "dict",none,.dict #[⟨PyData.keyHash w.params ⟨ya.toArray⟩,.str ⟨ya.toArray⟩ k0_PARTS,.ref v0_PARTS⟩,⟨PyData.keyHash w.params ⟨U6.toArray⟩,.str ⟨U6.toArray⟩ k1_PARTS,.ref v1_PARTS⟩,⟨PyData.keyHash w.params ⟨Z1.toArray⟩,.str ⟨Z1.toArray⟩ k2_PARTS,.ref v2_PARTS⟩,⟨PyData.keyHash w.params ⟨w_setx.toArray⟩,.str ⟨w_setx.toArray⟩ k3_PARTS,.ref v3_PARTS⟩,⟨PyData.keyHash w.params ⟨Yh.toArray⟩,.str ⟨Yh.toArray⟩ k4_PARTS,.ref v4_PARTS⟩,⟨PyData.keyHash w.params ⟨Yi.toArray⟩,.str ⟨Yi.toArray⟩ k5_PARTS,.ref v5_PARTS⟩,⟨PyData.keyHash w.params ⟨Ji.toArray⟩,.str ⟨Ji.toArray⟩ k6_PARTS,.ref v6_PARTS⟩,⟨PyData.keyHash w.params ⟨ub.toArray⟩,.str ⟨ub.toArray⟩ k7_PARTS,.ref v7_PARTS⟩,⟨PyData.keyHash w.params ⟨Xr.toArray⟩,.str ⟨Xr.toArray⟩ k8_PARTS,.ref v8_PARTS⟩,⟨PyData.keyHash w.params ⟨Zm.toArray⟩,.str ⟨Zm.toArray⟩ k9_PARTS,.ref v9_PARTS⟩,⟨PyData.keyHash w.params ⟨w_jump.toArray⟩,.str ⟨w_jump.toArray⟩ k10_PARTS,.ref v10_PARTS⟩,⟨PyData.keyHash w.params ⟨yz.toArray⟩,.str ⟨yz.toArray⟩ k11_PARTS,.ref v11_PARTS⟩,⟨PyData.keyHash w.params ⟨uo.toArray⟩,.str ⟨uo.toArray⟩ k12_PARTS,.ref v12_PARTS⟩,⟨PyData.keyHash w.params ⟨Jl.toArray⟩,.str ⟨Jl.toArray⟩ k13_PARTS,.ref v13_PARTS⟩,⟨PyData.keyHash w.params ⟨jb.toArray⟩,.str ⟨jb.toArray⟩ k14_PARTS,.ref v14_PARTS⟩] ep_PARTS,#[]⟩)
    (h_PARTS:(p_PARTS == sysModules)=false)
    {u0_0_PARTS u0_1_PARTS u0_2_PARTS:Tok} {od0_PARTS:Option Addr} {z0_PARTS:Nat} {sl0_PARTS:Array (Option Value)}
    (l0_PARTS:K.lookup v0_PARTS=some ⟨.type "tuple",od0_PARTS,.seq #[.str ⟨qj.toArray⟩ u0_0_PARTS,.str ⟨qh.toArray⟩ u0_1_PARTS,.str ⟨ji.toArray⟩ u0_2_PARTS] z0_PARTS,sl0_PARTS⟩)
    {od1_PARTS:Option Addr} {z1_PARTS:Nat} {sl1_PARTS:Array (Option Value)}
    (l1_PARTS:K.lookup v1_PARTS=some ⟨.type "tuple",od1_PARTS,.seq #[] z1_PARTS,sl1_PARTS⟩)
    {u2_0_PARTS:Tok} {od2_PARTS:Option Addr} {z2_PARTS:Nat} {sl2_PARTS:Array (Option Value)}
    (l2_PARTS:K.lookup v2_PARTS=some ⟨.type "tuple",od2_PARTS,.seq #[.str ⟨ji.toArray⟩ u2_0_PARTS] z2_PARTS,sl2_PARTS⟩)
    {u3_0_PARTS:Tok} {od3_PARTS:Option Addr} {z3_PARTS:Nat} {sl3_PARTS:Array (Option Value)}
    (l3_PARTS:K.lookup v3_PARTS=some ⟨.type "tuple",od3_PARTS,.seq #[.str ⟨ji.toArray⟩ u3_0_PARTS] z3_PARTS,sl3_PARTS⟩)
    {od4_PARTS:Option Addr} {z4_PARTS:Nat} {sl4_PARTS:Array (Option Value)}
    (l4_PARTS:K.lookup v4_PARTS=some ⟨.type "tuple",od4_PARTS,.seq #[] z4_PARTS,sl4_PARTS⟩)
    {od5_PARTS:Option Addr} {z5_PARTS:Nat} {sl5_PARTS:Array (Option Value)}
    (l5_PARTS:K.lookup v5_PARTS=some ⟨.type "tuple",od5_PARTS,.seq #[] z5_PARTS,sl5_PARTS⟩)
    {u6_0_PARTS:Tok} {od6_PARTS:Option Addr} {z6_PARTS:Nat} {sl6_PARTS:Array (Option Value)}
    (l6_PARTS:K.lookup v6_PARTS=some ⟨.type "tuple",od6_PARTS,.seq #[.str ⟨yc.toArray⟩ u6_0_PARTS] z6_PARTS,sl6_PARTS⟩)
    {u7_0_PARTS:Tok} {od7_PARTS:Option Addr} {z7_PARTS:Nat} {sl7_PARTS:Array (Option Value)}
    (l7_PARTS:K.lookup v7_PARTS=some ⟨.type "tuple",od7_PARTS,.seq #[.str ⟨yc.toArray⟩ u7_0_PARTS] z7_PARTS,sl7_PARTS⟩)
    {u8_0_PARTS u8_1_PARTS:Tok} {od8_PARTS:Option Addr} {z8_PARTS:Nat} {sl8_PARTS:Array (Option Value)}
    (l8_PARTS:K.lookup v8_PARTS=some ⟨.type "tuple",od8_PARTS,.seq #[.str ⟨wa.toArray⟩ u8_0_PARTS,.str ⟨ji.toArray⟩ u8_1_PARTS] z8_PARTS,sl8_PARTS⟩)
    {u9_0_PARTS:Tok} {od9_PARTS:Option Addr} {z9_PARTS:Nat} {sl9_PARTS:Array (Option Value)}
    (l9_PARTS:K.lookup v9_PARTS=some ⟨.type "tuple",od9_PARTS,.seq #[.str ⟨wa.toArray⟩ u9_0_PARTS] z9_PARTS,sl9_PARTS⟩)
    {u10_0_PARTS:Tok} {od10_PARTS:Option Addr} {z10_PARTS:Nat} {sl10_PARTS:Array (Option Value)}
    (l10_PARTS:K.lookup v10_PARTS=some ⟨.type "tuple",od10_PARTS,.seq #[.str ⟨jm.toArray⟩ u10_0_PARTS] z10_PARTS,sl10_PARTS⟩)
    {u11_0_PARTS u11_1_PARTS u11_2_PARTS u11_3_PARTS:Tok} {od11_PARTS:Option Addr} {z11_PARTS:Nat} {sl11_PARTS:Array (Option Value)}
    (l11_PARTS:K.lookup v11_PARTS=some ⟨.type "tuple",od11_PARTS,.seq #[.str ⟨Zy.toArray⟩ u11_0_PARTS,.str ⟨ji.toArray⟩ u11_1_PARTS,.str ⟨jm.toArray⟩ u11_2_PARTS,.str ⟨jm.toArray⟩ u11_3_PARTS] z11_PARTS,sl11_PARTS⟩)
    {u12_0_PARTS u12_1_PARTS u12_2_PARTS:Tok} {od12_PARTS:Option Addr} {z12_PARTS:Nat} {sl12_PARTS:Array (Option Value)}
    (l12_PARTS:K.lookup v12_PARTS=some ⟨.type "tuple",od12_PARTS,.seq #[.str ⟨Zy.toArray⟩ u12_0_PARTS,.str ⟨jm.toArray⟩ u12_1_PARTS,.str ⟨jm.toArray⟩ u12_2_PARTS] z12_PARTS,sl12_PARTS⟩)
    {u13_0_PARTS:Tok} {od13_PARTS:Option Addr} {z13_PARTS:Nat} {sl13_PARTS:Array (Option Value)}
    (l13_PARTS:K.lookup v13_PARTS=some ⟨.type "tuple",od13_PARTS,.seq #[.str ⟨ji.toArray⟩ u13_0_PARTS] z13_PARTS,sl13_PARTS⟩)
    {od14_PARTS:Option Addr} {z14_PARTS:Nat} {sl14_PARTS:Array (Option Value)}
    (l14_PARTS:K.lookup v14_PARTS=some ⟨.type "tuple",od14_PARTS,.seq #[] z14_PARTS,sl14_PARTS⟩)
    {t_ROUND:Tok}
    (a_ROUND:PySem.W.nsIn K mainGlobals "ROUND"=some (some (.int 4294967296 t_ROUND)))
    {p_SIZES:Addr} {t0_SIZES t1_SIZES t2_SIZES:Tok} {od_SIZES:Option Addr} {z_SIZES:Nat} {sl_SIZES:Array (Option Value)}
    (a_SIZES:PySem.W.nsIn K mainGlobals "SIZES"=some (some (.ref p_SIZES)))
    (l_SIZES:K.lookup p_SIZES=some ⟨.type "tuple",od_SIZES,.seq #[.int 1 t0_SIZES,.int 2 t1_SIZES,.int 4 t2_SIZES] z_SIZES,sl_SIZES⟩)
    {t_FARTHEST:Tok}
    (a_FARTHEST:PySem.W.nsIn K mainGlobals "FARTHEST"=some (some (.int 2000 t_FARTHEST)))
    {p_BASES:Addr} {t0_BASES t1_BASES:Tok} {od_BASES:Option Addr} {z_BASES:Nat} {sl_BASES:Array (Option Value)}
    (a_BASES:PySem.W.nsIn K mainGlobals "BASES"=some (some (.ref p_BASES)))
    (l_BASES:K.lookup p_BASES=some ⟨.type "tuple",od_BASES,.seq #[.str ⟨W0.toArray⟩ t0_BASES,.str ⟨w_x.toArray⟩ t1_BASES] z_BASES,sl_BASES⟩)
    {p_OPS:Addr} {t0_OPS t1_OPS t2_OPS t3_OPS t4_OPS t5_OPS t6_OPS t7_OPS t8_OPS t9_OPS:Tok} {od_OPS:Option Addr} {z_OPS:Nat} {sl_OPS:Array (Option Value)}
    (a_OPS:PySem.W.nsIn K mainGlobals "OPS"=some (some (.ref p_OPS)))
    (l_OPS:K.lookup p_OPS=some ⟨.type "tuple",od_OPS,.seq #[.str ⟨Zx.toArray⟩ t0_OPS,.str ⟨yb.toArray⟩ t1_OPS,.str ⟨yd.toArray⟩ t2_OPS,.str ⟨u9.toArray⟩ t3_OPS,.str ⟨u8.toArray⟩ t4_OPS,.str ⟨Qa.toArray⟩ t5_OPS,.str ⟨K7.toArray⟩ t6_OPS,.str ⟨Qd.toArray⟩ t7_OPS,.str ⟨uz.toArray⟩ t8_OPS,.str ⟨Jn.toArray⟩ t9_OPS] z_OPS,sl_OPS⟩)
    {p_TESTS:Addr} {t0_TESTS t1_TESTS t2_TESTS t3_TESTS:Tok} {od_TESTS:Option Addr} {z_TESTS:Nat} {sl_TESTS:Array (Option Value)}
    (a_TESTS:PySem.W.nsIn K mainGlobals "TESTS"=some (some (.ref p_TESTS)))
    (l_TESTS:K.lookup p_TESTS=some ⟨.type "tuple",od_TESTS,.seq #[.str ⟨Um.toArray⟩ t0_TESTS,.str ⟨Uk.toArray⟩ t1_TESTS,.str ⟨Uo.toArray⟩ t2_TESTS,.str ⟨Zl.toArray⟩ t3_TESTS] z_TESTS,sl_TESTS⟩)
    {p_DIVIDING:Addr} {t0_DIVIDING t1_DIVIDING:Tok} {od_DIVIDING:Option Addr} {z_DIVIDING:Nat} {sl_DIVIDING:Array (Option Value)}
    (a_DIVIDING:PySem.W.nsIn K mainGlobals "DIVIDING"=some (some (.ref p_DIVIDING)))
    (l_DIVIDING:K.lookup p_DIVIDING=some ⟨.type "tuple",od_DIVIDING,.seq #[.str ⟨u9.toArray⟩ t0_DIVIDING,.str ⟨u8.toArray⟩ t1_DIVIDING] z_DIVIDING,sl_DIVIDING⟩)
    {p_SHIFTING:Addr} {t0_SHIFTING t1_SHIFTING:Tok} {od_SHIFTING:Option Addr} {z_SHIFTING:Nat} {sl_SHIFTING:Array (Option Value)}
    (a_SHIFTING:PySem.W.nsIn K mainGlobals "SHIFTING"=some (some (.ref p_SHIFTING)))
    (l_SHIFTING:K.lookup p_SHIFTING=some ⟨.type "tuple",od_SHIFTING,.seq #[.str ⟨uz.toArray⟩ t0_SHIFTING,.str ⟨Jn.toArray⟩ t1_SHIFTING] z_SHIFTING,sl_SHIFTING⟩)
    {t_WIDTH:Tok}
    (a_WIDTH:PySem.W.nsIn K mainGlobals "WIDTH"=some (some (.int 32 t_WIDTH)))
    {p_LEADING:Addr} {t0_LEADING t1_LEADING t2_LEADING:Tok} {od_LEADING:Option Addr} {z_LEADING:Nat} {sl_LEADING:Array (Option Value)}
    (a_LEADING:PySem.W.nsIn K mainGlobals "LEADING"=some (some (.ref p_LEADING)))
    (l_LEADING:K.lookup p_LEADING=some ⟨.type "tuple",od_LEADING,.seq #[.str ⟨w_jump.toArray⟩ t0_LEADING,.str ⟨yz.toArray⟩ t1_LEADING,.str ⟨uo.toArray⟩ t2_LEADING] z_LEADING,sl_LEADING⟩)
    {p_TELLING:Addr} {t0_TELLING t1_TELLING:Tok} {od_TELLING:Option Addr} {z_TELLING:Nat} {sl_TELLING:Array (Option Value)}
    (a_TELLING:PySem.W.nsIn K mainGlobals "TELLING"=some (some (.ref p_TELLING)))
    (l_TELLING:K.lookup p_TELLING=some ⟨.type "tuple",od_TELLING,.seq #[.str ⟨Jl.toArray⟩ t0_TELLING,.str ⟨jb.toArray⟩ t1_TELLING] z_TELLING,sl_TELLING⟩)
    (d_cell:J9 K "_law_cell" df)
    (d_mix:J9 K "_law_mix" Ai)
    (d_k:J9 K "_law_k" s_k)
    (d_op:J9 K "_law_op" ad4)
    (d_step:J9 K "_law_step" dh)
    (d_code:J9 K "_law_code" Kn)
    (d_p_no_slots:J9 K "no_slots" Zd)
    (d_p_is_whole:J9 K "is_whole" Zc)
    (d_p_is_number:J9 K "is_number" Z3)
    (d_p_is_part:J9 K "is_part" Qv)
    (d_p_can_be_done_by:J9 K "can_be_done_by" Uc)
    (d_p_is_step:J9 K "is_step" Yd)
    (d_p_lacks_its_slot:J9 K "lacks_its_slot" Ud)
    (d_p_goals_from:J9 K "goals_from" Yb)
    (d_p_hand_on:J9 K "hand_on" Yc)
    (d_p_kept_behind:J9 K "kept_behind" Uw)
    (d_p_first_wrong_place:J9 K "first_wrong_place" Jc)
    (d_p_is_let_in:J9 K "is_let_in" Z4)
    (d_p_look:J9 K "look" V7)
    (d_p_led_goals:J9 K "led_goals" yq)
    (d_p_ends_of:J9 K "ends_of" Qu)
    (d_p_own_places:J9 K "own_places" Ue)
    (d_p_lead:J9 K "lead" V8)
    (d_p_bridge_goals:J9 K "bridge_goals" yn)
    (d_p_places_left:J9 K "places_left" Ys)
    (d_p_new_step:J9 K "new_step" Y1)
    (d_p_shrunk:J9 K "shrunk" Y0)
    (d_goals:J9 K "_law_goals" G8)
    (d_there:J9 K "_law_there" G7)
    (d_law:J9 K "law" Xb):Tx w K mg :=
  ⟨PySem.W.mg_none_of KX G n_range,
   PySem.W.mg_none_of KX G n_len,
   PySem.W.mg_none_of KX G n_max,
   PySem.W.mg_none_of KX G n_min,
   PySem.W.mg_none_of KX G n_enumerate,
   PySem.W.mg_none_of KX G n_isinstance,
   PySem.W.mg_none_of KX G n_tuple,
   PySem.W.mg_none_of KX G n_str,
   PySem.W.mg_none_of KX G n_zip,
   PySem.W.mg_none_of KX G n_int,
   PySem.W.mg_none_of KX G n_bool,
   PySem.W.mg_none_of KX G n_all,
   PySem.W.mg_none_of KX G n_any,
   PySem.W.mg_none_of KX G n_dict,
   PySem.W.mg_none_of KX G n_sorted,
   PySem.W.mg_none_of KX G n_list,
   yf KX G a_MOST_STEPS,
   yf KX G a_SLOTS,
   A3 [(ya,k0_PARTS,v0_PARTS),(U6,k1_PARTS,v1_PARTS),(Z1,k2_PARTS,v2_PARTS),(w_setx,k3_PARTS,v3_PARTS),(Yh,k4_PARTS,v4_PARTS),(Yi,k5_PARTS,v5_PARTS),(Ji,k6_PARTS,v6_PARTS),(ub,k7_PARTS,v7_PARTS),(Xr,k8_PARTS,v8_PARTS),(Zm,k9_PARTS,v9_PARTS),(w_jump,k10_PARTS,v10_PARTS),(yz,k11_PARTS,v11_PARTS),(uo,k12_PARTS,v12_PARTS),(Jl,k13_PARTS,v13_PARTS),(jb,k14_PARTS,v14_PARTS)] KX G a_PARTS l_PARTS h_PARTS (show ([ya,U6,Z1,w_setx,Yh,Yi,Ji,ub,Xr,Zm,w_jump,yz,uo,Jl,jb]:List (List Nat)).Nodup by decide) rfl (fun F α=>(j2 (Jy (vs:=[.str ⟨qj.toArray⟩,.str ⟨qh.toArray⟩,.str ⟨ji.toArray⟩]) l0_PARTS (by show 3≤16777216;decide) (.cons ⟨_,rfl⟩ (.cons ⟨_,rfl⟩ (.cons ⟨_,rfl⟩ .nil))) (j2 (by unfold Rep;rfl) (j2 (by unfold Rep;rfl) (j2 (by unfold Rep;rfl) j6)))) (j2 (Jy (vs:=[]) l1_PARTS (by show 0≤16777216;decide) .nil j6) (j2 (Jy (vs:=[.str ⟨ji.toArray⟩]) l2_PARTS (by show 1≤16777216;decide) (.cons ⟨_,rfl⟩ .nil) (j2 (by unfold Rep;rfl) j6)) (j2 (Jy (vs:=[.str ⟨ji.toArray⟩]) l3_PARTS (by show 1≤16777216;decide) (.cons ⟨_,rfl⟩ .nil) (j2 (by unfold Rep;rfl) j6)) (j2 (Jy (vs:=[]) l4_PARTS (by show 0≤16777216;decide) .nil j6) (j2 (Jy (vs:=[]) l5_PARTS (by show 0≤16777216;decide) .nil j6) (j2 (Jy (vs:=[.str ⟨yc.toArray⟩]) l6_PARTS (by show 1≤16777216;decide) (.cons ⟨_,rfl⟩ .nil) (j2 (by unfold Rep;rfl) j6)) (j2 (Jy (vs:=[.str ⟨yc.toArray⟩]) l7_PARTS (by show 1≤16777216;decide) (.cons ⟨_,rfl⟩ .nil) (j2 (by unfold Rep;rfl) j6)) (j2 (Jy (vs:=[.str ⟨wa.toArray⟩,.str ⟨ji.toArray⟩]) l8_PARTS (by show 2≤16777216;decide) (.cons ⟨_,rfl⟩ (.cons ⟨_,rfl⟩ .nil)) (j2 (by unfold Rep;rfl) (j2 (by unfold Rep;rfl) j6))) (j2 (Jy (vs:=[.str ⟨wa.toArray⟩]) l9_PARTS (by show 1≤16777216;decide) (.cons ⟨_,rfl⟩ .nil) (j2 (by unfold Rep;rfl) j6)) (j2 (Jy (vs:=[.str ⟨jm.toArray⟩]) l10_PARTS (by show 1≤16777216;decide) (.cons ⟨_,rfl⟩ .nil) (j2 (by unfold Rep;rfl) j6)) (j2 (Jy (vs:=[.str ⟨Zy.toArray⟩,.str ⟨ji.toArray⟩,.str ⟨jm.toArray⟩,.str ⟨jm.toArray⟩]) l11_PARTS (by show 4≤16777216;decide) (.cons ⟨_,rfl⟩ (.cons ⟨_,rfl⟩ (.cons ⟨_,rfl⟩ (.cons ⟨_,rfl⟩ .nil)))) (j2 (by unfold Rep;rfl) (j2 (by unfold Rep;rfl) (j2 (by unfold Rep;rfl) (j2 (by unfold Rep;rfl) j6))))) (j2 (Jy (vs:=[.str ⟨Zy.toArray⟩,.str ⟨jm.toArray⟩,.str ⟨jm.toArray⟩]) l12_PARTS (by show 3≤16777216;decide) (.cons ⟨_,rfl⟩ (.cons ⟨_,rfl⟩ (.cons ⟨_,rfl⟩ .nil))) (j2 (by unfold Rep;rfl) (j2 (by unfold Rep;rfl) (j2 (by unfold Rep;rfl) j6)))) (j2 (Jy (vs:=[.str ⟨ji.toArray⟩]) l13_PARTS (by show 1≤16777216;decide) (.cons ⟨_,rfl⟩ .nil) (j2 (by unfold Rep;rfl) j6)) (j2 (Jy (vs:=[]) l14_PARTS (by show 0≤16777216;decide) .nil j6) j6)))))))))))))))),
   yf KX G a_ROUND,
   uc (vs:=[.int 1,.int 2,.int 4]) KX G a_SIZES l_SIZES (by show 3≤16777216;decide) (.cons ⟨_,rfl⟩ (.cons ⟨_,rfl⟩ (.cons ⟨_,rfl⟩ .nil))) (fun F α=>(j2 (by unfold Rep;rfl) (j2 (by unfold Rep;rfl) (j2 (by unfold Rep;rfl) j6)))),
   yf KX G a_FARTHEST,
   uc (vs:=[.str ⟨W0.toArray⟩,.str ⟨w_x.toArray⟩]) KX G a_BASES l_BASES (by show 2≤16777216;decide) (.cons ⟨_,rfl⟩ (.cons ⟨_,rfl⟩ .nil)) (fun F α=>(j2 (by unfold Rep;rfl) (j2 (by unfold Rep;rfl) j6))),
   uc (vs:=[.str ⟨Zx.toArray⟩,.str ⟨yb.toArray⟩,.str ⟨yd.toArray⟩,.str ⟨u9.toArray⟩,.str ⟨u8.toArray⟩,.str ⟨Qa.toArray⟩,.str ⟨K7.toArray⟩,.str ⟨Qd.toArray⟩,.str ⟨uz.toArray⟩,.str ⟨Jn.toArray⟩]) KX G a_OPS l_OPS (by show 10≤16777216;decide) (.cons ⟨_,rfl⟩ (.cons ⟨_,rfl⟩ (.cons ⟨_,rfl⟩ (.cons ⟨_,rfl⟩ (.cons ⟨_,rfl⟩ (.cons ⟨_,rfl⟩ (.cons ⟨_,rfl⟩ (.cons ⟨_,rfl⟩ (.cons ⟨_,rfl⟩ (.cons ⟨_,rfl⟩ .nil)))))))))) (fun F α=>(j2 (by unfold Rep;rfl) (j2 (by unfold Rep;rfl) (j2 (by unfold Rep;rfl) (j2 (by unfold Rep;rfl) (j2 (by unfold Rep;rfl) (j2 (by unfold Rep;rfl) (j2 (by unfold Rep;rfl) (j2 (by unfold Rep;rfl) (j2 (by unfold Rep;rfl) (j2 (by unfold Rep;rfl) j6))))))))))),
   uc (vs:=[.str ⟨Um.toArray⟩,.str ⟨Uk.toArray⟩,.str ⟨Uo.toArray⟩,.str ⟨Zl.toArray⟩]) KX G a_TESTS l_TESTS (by show 4≤16777216;decide) (.cons ⟨_,rfl⟩ (.cons ⟨_,rfl⟩ (.cons ⟨_,rfl⟩ (.cons ⟨_,rfl⟩ .nil)))) (fun F α=>(j2 (by unfold Rep;rfl) (j2 (by unfold Rep;rfl) (j2 (by unfold Rep;rfl) (j2 (by unfold Rep;rfl) j6))))),
   uc (vs:=[.str ⟨u9.toArray⟩,.str ⟨u8.toArray⟩]) KX G a_DIVIDING l_DIVIDING (by show 2≤16777216;decide) (.cons ⟨_,rfl⟩ (.cons ⟨_,rfl⟩ .nil)) (fun F α=>(j2 (by unfold Rep;rfl) (j2 (by unfold Rep;rfl) j6))),
   uc (vs:=[.str ⟨uz.toArray⟩,.str ⟨Jn.toArray⟩]) KX G a_SHIFTING l_SHIFTING (by show 2≤16777216;decide) (.cons ⟨_,rfl⟩ (.cons ⟨_,rfl⟩ .nil)) (fun F α=>(j2 (by unfold Rep;rfl) (j2 (by unfold Rep;rfl) j6))),
   yf KX G a_WIDTH,
   uc (vs:=[.str ⟨w_jump.toArray⟩,.str ⟨yz.toArray⟩,.str ⟨uo.toArray⟩]) KX G a_LEADING l_LEADING (by show 3≤16777216;decide) (.cons ⟨_,rfl⟩ (.cons ⟨_,rfl⟩ (.cons ⟨_,rfl⟩ .nil))) (fun F α=>(j2 (by unfold Rep;rfl) (j2 (by unfold Rep;rfl) (j2 (by unfold Rep;rfl) j6)))),
   uc (vs:=[.str ⟨Jl.toArray⟩,.str ⟨jb.toArray⟩]) KX G a_TELLING l_TELLING (by show 2≤16777216;decide) (.cons ⟨_,rfl⟩ (.cons ⟨_,rfl⟩ .nil)) (fun F α=>(j2 (by unfold Rep;rfl) (j2 (by unfold Rep;rfl) j6))),
   jd KX G d_cell (fun _ _ _ _ _ _ _ _=>by walk_at "bs"),
   jd KX G d_mix (fun _ _ _ _ _ _ _ _=>by walk_at "bs"),
   jd KX G d_k (fun _ _ _ _ _ _ _ _=>by walk_at "bs"),
   jd KX G d_op (fun _ _ _ _ _ _ _ _=>by walk_at "bs"),
   jd KX G d_step (fun _ _ _ _ _ _ _ _=>by walk_at "bs"),
   jd KX G d_code (fun _ _ _ _ _ _ _ _=>by walk_at "bs"),
   jd KX G d_p_no_slots (fun _ _ _ _ _ _ _ _=>by walk_at "bs"),
   jd KX G d_p_is_whole (fun _ _ _ _ _ _ _ _=>by walk_at "bs"),
   jd KX G d_p_is_number (fun _ _ _ _ _ _ _ _=>by walk_at "bs"),
   jd KX G d_p_is_part (fun _ _ _ _ _ _ _ _=>by walk_at "bs"),
   jd KX G d_p_can_be_done_by (fun _ _ _ _ _ _ _ _=>by walk_at "bs"),
   jd KX G d_p_is_step (fun _ _ _ _ _ _ _ _=>by walk_at "bs"),
   jd KX G d_p_lacks_its_slot (fun _ _ _ _ _ _ _ _=>by walk_at "bs"),
   jd KX G d_p_goals_from (fun _ _ _ _ _ _ _ _=>by walk_at "bs"),
   jd KX G d_p_hand_on (fun _ _ _ _ _ _ _ _=>by walk_at "bs"),
   jd KX G d_p_kept_behind (fun _ _ _ _ _ _ _ _=>by walk_at "bs"),
   jd KX G d_p_first_wrong_place (fun _ _ _ _ _ _ _ _=>by walk_at "bs"),
   jd KX G d_p_is_let_in (fun _ _ _ _ _ _ _ _=>by walk_at "bs"),
   jd KX G d_p_look (fun _ _ _ _ _ _ _ _=>by walk_at "bs"),
   jd KX G d_p_led_goals (fun _ _ _ _ _ _ _ _=>by walk_at "bs"),
   jd KX G d_p_ends_of (fun _ _ _ _ _ _ _ _=>by walk_at "bs"),
   jd KX G d_p_own_places (fun _ _ _ _ _ _ _ _=>by walk_at "bs"),
   jd KX G d_p_lead (fun _ _ _ _ _ _ _ _=>by walk_at "bs"),
   jd KX G d_p_bridge_goals (fun _ _ _ _ _ _ _ _=>by walk_at "bs"),
   jd KX G d_p_places_left (fun _ _ _ _ _ _ _ _=>by walk_at "bs"),
   jd KX G d_p_new_step (fun _ _ _ _ _ _ _ _=>by walk_at "bs"),
   jd KX G d_p_shrunk (fun _ _ _ _ _ _ _ _=>by walk_at "bs"),
   jd KX G d_goals (fun _ _ _ _ _ _ _ _=>by walk_at "bs"),
   jd KX G d_there (fun _ _ _ _ _ _ _ _=>by walk_at "bs"),
   jd KX G d_law (fun _ _ _ _ _ _ _ _=>by walk_at "bs")⟩
end
end K31
set_option Elab.async false
set_option linter.all false
set_option maxRecDepth 100000
set_option maxHeartbeats 4000000
namespace K31
open PySem PySem.Spec PyProof.Rows L2 M
noncomputable def opL:List (List Nat):=[Zx,yb,yd,u9,u8,Qa,K7,Qd,uz,Jn]
noncomputable def tsL:List (List Nat):=[Um,Uk,Uo,Zl]
noncomputable def atx:List (List Nat):=[W0,w_x]
noncomputable def cell (ns:List Int) (k:Nat):Int:=if ns=[] then 0 else ns.getD (k % ns.length) 0
noncomputable def sc (ns:List Int):D:=.lst (ns.map .int)
theorem A8 (ns:List Int) (k:Nat) (μ:Mu):gv [sc ns,.int k] μ=.ok (.int (cell ns k)) μ:=by
 cases ns with
 | nil=>rfl
 | cons n r =>
  refine Js 0 (um rfl (v_bin rfl (v_bin rfl (v_callB (d:=.int (List.map D.int (n::r)).length) rfl rfl) (g_mod _ _ ?_)) ?_))
  ·rw [List.length_map,List.length_cons];omega
  ·show atI ((n::r).map D.int) ((k:Int) % ((List.map D.int (n::r)).length:Nat))=_
   rw [zd (Int.emod_nonneg _ (by rw [List.length_map,List.length_cons];omega))]
   have e2:((k:Int) % ((List.map D.int (n::r)).length:Nat)).toNat=k % (n::r).length:=by
    rw [List.length_map]
    omega
   have hk:k % (n::r).length < (n::r).length:=Nat.mod_lt _ (by simp)
   rw [e2,List.getElem?_map,List.getElem?_eq_getElem hk]
   simp only [cell,reduceCtorEq,if_false,Option.map_some]
   rw [List.getD_eq_getElem?_getD,List.getElem?_eq_getElem hk]
   rfl
noncomputable def Vn (c:Int) (k:Nat):Int:=(c + 104729 * ((k:Int) + 1)) % 4294967291 * 48271 % 4294967279
noncomputable def mix (ns:List Int) (k:Nat):Int:=(Vn (cell ns k) k / 64 * 69621 + Vn (cell ns k) k) % 4294967231
theorem a75 (ns:List Int) (k:Nat) (μ:Mu):Up [sc ns,.int k] μ=.ok (.int (mix ns k)) μ:=by
 refine Js 1 ((v_set 2 (d:=.int ((cell ns k + 104729 * ((k:Int) + 1)) % 4294967291)) (v_bin (v_bin (v_call rfl (A8 ns k μ)) (v_bin rfl (v_bin rfl rfl rfl) (gx _ _ (by decide) (by decide))) rfl) rfl (g_mod _ _ (by decide)))).trans
  ((v_set 2 (d:=.int (Vn (cell ns k) k)) (v_bin (v_bin rfl rfl (C8 _ _ (by decide) (by decide))) rfl (g_mod _ _ (by decide)))).trans (v_ret ?_)))
 exact v_bin (x:=.int (Vn (cell ns k) k / 64 * 69621 + Vn (cell ns k) k)) (v_bin (x:=.int (Vn (cell ns k) k / 64 * 69621)) (v_bin (x:=.int (Vn (cell ns k) k / 64)) (v_bin (x:=.int (Vn (cell ns k) k)) rfl rfl (fw _ _ (by decide) (by decide))) rfl (C8 _ _ (by decide) (by decide))) rfl rfl) rfl (g_mod _ _ (by decide))
theorem a74 (ns:List Int) (k:Nat):0≤mix ns k:=Int.emod_nonneg _ (by decide)
noncomputable def kL:List Int:=[0,1,2,7,31,32,255,256,65535,2147483648,4294967295,12]
noncomputable def kv (n:Int):Int:=if n % 4 > 0 then kL.getD (n / 4 % 12).toNat 0 else n / 4 % 4294967296
theorem cf:∀ i < 12,0≤kL.getD i 0∧kL.getD i 0 < 4294967296:=by decide
theorem ah0 (n:Int):0≤kv n:=by
 unfold kv
 split
 ·exact (cf _ (by omega)).1
 ·omega
theorem ah1 (n:Int):kv n < 4294967296:=by
 unfold kv
 split
 ·exact (cf _ (by omega)).2
 ·omega
theorem k_eq (n:Int) (μ:Mu):f_k [.int n] μ=.ok (.int (kv n)) μ:=by
 have t1:∀ ρ:En,ρ[0]? =some (some (.int n))→mTest (mBin gGt (mBin Jf (mVar 0) (mC (.int 4))) (mC (.int 0))) ρ μ=.ok (decide (0 < n % 4)) μ:=fun ρ h=>Jz (v_bin (v_bin (Yu 0 h) rfl (g_mod _ _ (by decide))) rfl rfl)
 have hk:(n / 4 % 12).toNat < kL.length:=by show _ < 12;omega
 refine Js 1 ((v_set 1 (d:=.lst (kL.map .int)) rfl).trans (v_ret ?_))
 unfold kv
 by_cases h:n % 4 > 0
 ·have t1:=t1 [some (.int n),some (.lst (kL.map .int))] rfl
  rw [decide_eq_true h] at t1
  rw [if_pos h]
  refine (gh t1).trans (v_bin rfl (v_bin (v_bin rfl rfl (fw _ _ (by decide) (by decide))) rfl (g_mod _ _ (by decide))) ?_)
  show atI (kL.map D.int) (n / 4 % 12)=_
  rw [zd (by omega),List.getElem?_map,List.getElem?_eq_getElem hk,List.getD_eq_getElem?_getD,List.getElem?_eq_getElem hk]
  rfl
 ·have t1:=t1 [some (.int n),some (.lst (kL.map .int))] rfl
  rw [decide_eq_false h] at t1
  rw [if_neg h]
  exact (gf t1).trans (v_bin (v_bin rfl rfl (fw _ _ (by decide) (by decide))) rfl (g_mod _ _ (by decide)))
noncomputable def opw (n:Int):List Nat:=opL.getD (n % 10).toNat []
theorem Gr (n:Int):opw n∈opL:=by
 unfold opw
 have hk:(n % 10).toNat < opL.length:=by show _ < 10;omega
 rw [List.getD_eq_getElem?_getD,List.getElem?_eq_getElem hk]
 exact List.getElem_mem hk
theorem op_eq (n:Int) (μ:Mu):ac [.int n] μ=.ok (.str (opw n)) μ:=by
 have hk:(n % 10).toNat < opL.length:=by show _ < 10;omega
 refine Js 0 (v_ret (v_bin (x:=.lst (opL.map .str)) rfl (v_bin rfl rfl (g_mod _ _ (by decide))) ?_))
 show atI (opL.map D.str) (n % 10)=_
 unfold opw
 rw [zd (by omega),List.getElem?_map,List.getElem?_eq_getElem hk,List.getD_eq_getElem?_getD,List.getElem?_eq_getElem hk]
 rfl
inductive Kd | num | size | slot | dist | base | op | test
noncomputable def Kd.w:Kd→List Nat
 | .num=>ji
 | .size=>qj
 | .slot=>yc
 | .dist=>jm
 | .base=>qh
 | .op=>wa
 | .test=>Zy
theorem a10 (i j:Int) (ρ:En) (μ:Mu) (ma mb mc:MX) (h1:ma ρ μ=.ok (.int 0) μ) (h2:mb ρ μ=.ok (.int i) μ) (h3:mc ρ μ=.ok (.int j) μ):y0 gLe gLt ma mb mc ρ μ=.ok (.bl (decide (0≤i) && decide (i < j))) μ:=by
 rw [aa0,h1,bind_ok,a07,h2,bind_ok,a06,deref_int,deref_int,a94]
 by_cases h:0≤i
 ·simp only [h,decide_true,Bool.true_and,Option.bind_some]
  show Res.bind (.ok true μ) _=_
  rw [bind_ok,Cp,h3,bind_ok]
  rfl
 ·simp only [h,decide_false,Bool.false_and]
  rfl
theorem aj0 (i j:Int) (ρ:En) (μ:Mu) (ma mb mc:MX) (h1:ma ρ μ=.ok (.int 0) μ) (h2:mb ρ μ=.ok (.int i) μ) (h3:mc ρ μ=.ok (.int j) μ):y0 gLe gLe ma mb mc ρ μ=.ok (.bl (decide (0≤i) && decide (i≤j))) μ:=by
 rw [aa0,h1,bind_ok,a07,h2,bind_ok,a06,deref_int,deref_int,a94]
 by_cases h:0≤i
 ·simp only [h,decide_true,Bool.true_and,Option.bind_some]
  show Res.bind (.ok true μ) _=_
  rw [bind_ok,Cp,h3,bind_ok]
  rfl
 ·simp only [h,decide_false,Bool.false_and]
  rfl
inductive PlK:Kd→D→Prop
 | num {i:Int}:0≤i→i < 4294967296→PlK .num (.int i)
 | size {i:Int}:i=1∨i=2∨i=4→PlK .size (.int i)
 | slot {i:Int}:0≤i→i < 8→PlK .slot (.int i)
 | dist {i:Int}:0≤i→i≤2000→PlK .dist (.int i)
 | base {x:List Nat}:x∈atx→PlK .base (.str x)
 | op {x:List Nat}:x∈opL→PlK .op (.str x)
 | test {x:List Nat}:x∈tsL→PlK .test (.str x)
theorem W9 {P:List Nat→Prop} (h:P Zx∧P yb∧P yd∧P u9∧P u8∧P Qa∧P K7∧P Qd∧P uz∧P Jn):∀ x∈opL,P x:=by
 intro x hx
 simp only [opL,List.mem_cons,List.not_mem_nil,or_false] at hx
 obtain ⟨h1,h2,h3,h4,h5,h6,h7,h8,h9,h10⟩:=h
 rcases hx with rfl | rfl | rfl | rfl | rfl | rfl | rfl | rfl | rfl | rfl <;> assumption
theorem dz {P:List Nat→Prop} (h:P Um∧P Uk∧P Uo∧P Zl):∀ x∈tsL,P x:=by
 intro x hx
 simp only [tsL,List.mem_cons,List.not_mem_nil,or_false] at hx
 obtain ⟨h1,h2,h3,h4⟩:=h
 rcases hx with rfl | rfl | rfl | rfl <;> assumption
theorem Cc {P:List Nat→Prop} (h:P W0∧P w_x):∀ x∈atx,P x:=by
 intro x hx
 simp only [atx,List.mem_cons,List.not_mem_nil,or_false] at hx
 obtain ⟨h1,h2⟩:=h
 rcases hx with rfl | rfl <;> assumption
theorem Fh {k:Kd} {d:D} (h:PlK k d) (μ:Mu):uy [.str k.w,d] μ=.ok (.bl true) μ:=by
 cases h with
 | @num i h1 h2 =>
  refine (Js 0 (um rfl (v_call rfl (Js 0 (v_ret ((yx rfl).trans (a10 i 4294967296 _ _ _ _ _ rfl rfl rfl))))))).trans ?_
  rw [decide_eq_true h1,decide_eq_true h2];rfl
 | @size i h1=>rcases h1 with rfl | rfl | rfl <;> rfl
 | @slot i h1 h2 =>
  refine (Js 0 ((v_skip rfl).trans ((v_skip rfl).trans (um rfl ((yx rfl).trans (a10 i 8 _ _ _ _ _ rfl rfl rfl)))))).trans ?_
  rw [decide_eq_true h1,decide_eq_true h2];rfl
 | @dist i h1 h2 =>
  refine (Js 0 ((v_skip rfl).trans ((v_skip rfl).trans ((v_skip rfl).trans (um rfl ((yx rfl).trans (aj0 i 2000 _ _ _ _ _ rfl rfl rfl))))))).trans ?_
  rw [decide_eq_true h1,decide_eq_true h2];rfl
 | base hx=>revert hx;exact Cc (P:=fun x=>uy [.str Kd.base.w,.str x] μ=.ok (.bl true) μ) ⟨rfl,rfl⟩ _
 | op hx=>revert hx;exact W9 (P:=fun x=>uy [.str Kd.op.w,.str x] μ=.ok (.bl true) μ) ⟨rfl,rfl,rfl,rfl,rfl,rfl,rfl,rfl,rfl,rfl⟩ _
 | test hx=>revert hx;exact dz (P:=fun x=>uy [.str Kd.test.w,.str x] μ=.ok (.bl true) μ) ⟨rfl,rfl,rfl,rfl⟩ _
noncomputable abbrev cTg:MG:=zp (Jv (gN 0) (Jv (gN 1) zq))
noncomputable abbrev cEl:MX:=mCall uy (mCons (mVar 0) (mCons (mVar 1) mNil))
theorem wl (μ:Mu):∀ (ps:List (Kd×D)),(∀ p∈ps,PlK p.1 p.2)→∀ (a b:Option D) (acc:List D),jy cTg mTT cEl (ps.map fun p=>.tup [.str p.1.w,p.2]) [a,b] μ acc=.ok (acc++ps.map fun _=>.bl true) μ
 | [],_,a,b,acc=>by simp [jy]
 | p::ps,h,a,b,acc=>by
  obtain ⟨h1,h2⟩:=List.forall_mem_cons.mp h
  have e:cEl [some (.str p.1.w),some p.2] μ=.ok (.bl true) μ:=v_call rfl (Fh h1 μ)
  have ih:=wl μ ps h2 (some (.str p.1.w)) (some p.2) (acc++[.bl true])
  rw [List.map_cons,List.map_cons]
  show (noX (cEl [some (.str p.1.w),some p.2] μ)).bind _=_
  rw [e]
  show jy cTg mTT cEl _ [some (.str p.1.w),some p.2] μ (acc++[.bl true])=_
  rw [ih,List.append_assoc,List.singleton_append]
theorem kh:∀ ps:List (Kd×D),Yn (ps.map fun _=>.bl true)=some (ps.map fun _=>true)
 | []=>rfl
 | p::ps=>by
  rw [List.map_cons,List.map_cons]
  unfold Yn
  rw [kh ps]
  rfl
theorem tailG (ps:List (Kd×D)) (hp:∀ p∈ps,PlK p.1 p.2) {ρ:En} {μ:Mu} {r:MSt} (hl:ps.length≤16777216) (hz:Wr true true (mVar 1) (mSl (mVar 0) (Qs (mC (.int 1))) Vi) ρ μ=.ok (ps.map fun p=>.tup [.str p.1.w,p.2]) μ) :
  jx (jk (Ym (U3 (mCallB ag (mCons (jc 2 [] cTg (Wr true true (mVar 1) (mSl (mVar 0) (Qs (mC (.int 1))) Vi)) mTT cEl) mNil)))) (ju (mC (.bl false))) jv) r ρ μ=r ρ μ:=by
 have e1:jc 2 [] cTg (Wr true true (mVar 1) (mSl (mVar 0) (Qs (mC (.int 1))) Vi)) mTT cEl ρ μ=.ok (.lst (ps.map fun _=>.bl true)) μ:=by
  unfold jc
  rw [hz,bind_ok,if_pos (by rw [List.length_map];exact hl)]
  show (jy cTg mTT cEl _ [none,none] μ []).bind _=_
  rw [wl μ ps hp]
  rfl
 refine v_skip (Xg (k:=true) (Zg (d:=.bl true) (v_callB (v_cons e1 v_nil) ?_) rfl))
 show (Yn (ps.map fun _=>.bl true)).map _=_
 rw [kh]
 simp
theorem a56 {a b c:D} (ha:PlK .size a) (hb:PlK .base b) (hc:PlK .num c) (μ:Mu):jw [.tup [.str ya,a,b,c]] μ=.ok (.bl true) μ :=
 Js 1 ((v_skip rfl).trans ((v_skip rfl).trans ((v_set 1 rfl).trans ((v_skip rfl).trans ((tailG [(.size,a),(.base,b),(.num,c)] (List.forall_mem_cons.mpr ⟨ha,List.forall_mem_cons.mpr ⟨hb,List.forall_mem_cons.mpr ⟨hc,fun _ z=>nomatch z⟩⟩⟩) (show 3≤16777216 by decide) rfl).trans (rfl))))))
theorem af6 (μ:Mu):jw [.tup [.str U6]] μ=.ok (.bl true) μ :=
 Js 1 ((v_skip rfl).trans ((v_skip rfl).trans ((v_set 1 rfl).trans ((v_skip rfl).trans ((tailG [] (fun _ z=>nomatch z) (show 0≤16777216 by decide) rfl).trans (rfl))))))
theorem af5 {a:D} (ha:PlK .num a) (μ:Mu):jw [.tup [.str Z1,a]] μ=.ok (.bl true) μ :=
 Js 1 ((v_skip rfl).trans ((v_skip rfl).trans ((v_set 1 rfl).trans ((v_skip rfl).trans ((tailG [(.num,a)] (List.forall_mem_cons.mpr ⟨ha,fun _ z=>nomatch z⟩) (show 1≤16777216 by decide) rfl).trans (rfl))))))
theorem a55 {a:D} (ha:PlK .num a) (μ:Mu):jw [.tup [.str w_setx,a]] μ=.ok (.bl true) μ :=
 Js 1 ((v_skip rfl).trans ((v_skip rfl).trans ((v_set 1 rfl).trans ((v_skip rfl).trans ((tailG [(.num,a)] (List.forall_mem_cons.mpr ⟨ha,fun _ z=>nomatch z⟩) (show 1≤16777216 by decide) rfl).trans (rfl))))))
theorem af4 (μ:Mu):jw [.tup [.str Yh]] μ=.ok (.bl true) μ :=
 Js 1 ((v_skip rfl).trans ((v_skip rfl).trans ((v_set 1 rfl).trans ((v_skip rfl).trans ((tailG [] (fun _ z=>nomatch z) (show 0≤16777216 by decide) rfl).trans (rfl))))))
theorem af3 (μ:Mu):jw [.tup [.str Yi]] μ=.ok (.bl true) μ :=
 Js 1 ((v_skip rfl).trans ((v_skip rfl).trans ((v_set 1 rfl).trans ((v_skip rfl).trans ((tailG [] (fun _ z=>nomatch z) (show 0≤16777216 by decide) rfl).trans (rfl))))))
theorem a57 {a:D} (ha:PlK .slot a) (μ:Mu):jw [.tup [.str Ji,a]] μ=.ok (.bl true) μ :=
 Js 1 ((v_skip rfl).trans ((v_skip rfl).trans ((v_set 1 rfl).trans ((v_skip rfl).trans ((tailG [(.slot,a)] (List.forall_mem_cons.mpr ⟨ha,fun _ z=>nomatch z⟩) (show 1≤16777216 by decide) rfl).trans (rfl))))))
theorem Bm {a:D} (ha:PlK .slot a) (μ:Mu):jw [.tup [.str ub,a]] μ=.ok (.bl true) μ :=
 Js 1 ((v_skip rfl).trans ((v_skip rfl).trans ((v_set 1 rfl).trans ((v_skip rfl).trans ((tailG [(.slot,a)] (List.forall_mem_cons.mpr ⟨ha,fun _ z=>nomatch z⟩) (show 1≤16777216 by decide) rfl).trans (rfl))))))
theorem af8 {a:D} (ha:PlK .op a) (μ:Mu):jw [.tup [.str Zm,a]] μ=.ok (.bl true) μ :=
 Js 1 ((v_skip rfl).trans ((v_skip rfl).trans ((v_set 1 rfl).trans ((v_skip rfl).trans ((tailG [(.op,a)] (List.forall_mem_cons.mpr ⟨ha,fun _ z=>nomatch z⟩) (show 1≤16777216 by decide) rfl).trans (rfl))))))
theorem a58 {a:D} (ha:PlK .dist a) (μ:Mu):jw [.tup [.str w_jump,a]] μ=.ok (.bl true) μ :=
 Js 1 ((v_skip rfl).trans ((v_skip rfl).trans ((v_set 1 rfl).trans ((v_skip rfl).trans ((tailG [(.dist,a)] (List.forall_mem_cons.mpr ⟨ha,fun _ z=>nomatch z⟩) (show 1≤16777216 by decide) rfl).trans (rfl))))))
theorem p_if {a b c d:D} (ha:PlK .test a) (hb:PlK .num b) (hc:PlK .dist c) (hd:PlK .dist d) (μ:Mu):jw [.tup [.str yz,a,b,c,d]] μ=.ok (.bl true) μ :=
 Js 1 ((v_skip rfl).trans ((v_skip rfl).trans ((v_set 1 rfl).trans ((v_skip rfl).trans ((tailG [(.test,a),(.num,b),(.dist,c),(.dist,d)] (List.forall_mem_cons.mpr ⟨ha,List.forall_mem_cons.mpr ⟨hb,List.forall_mem_cons.mpr ⟨hc,List.forall_mem_cons.mpr ⟨hd,fun _ z=>nomatch z⟩⟩⟩⟩) (show 4≤16777216 by decide) rfl).trans (rfl))))))
theorem af7 {a b c:D} (ha:PlK .test a) (hb:PlK .dist b) (hc:PlK .dist c) (μ:Mu):jw [.tup [.str uo,a,b,c]] μ=.ok (.bl true) μ :=
 Js 1 ((v_skip rfl).trans ((v_skip rfl).trans ((v_set 1 rfl).trans ((v_skip rfl).trans ((tailG [(.test,a),(.dist,b),(.dist,c)] (List.forall_mem_cons.mpr ⟨ha,List.forall_mem_cons.mpr ⟨hb,List.forall_mem_cons.mpr ⟨hc,fun _ z=>nomatch z⟩⟩⟩) (show 3≤16777216 by decide) rfl).trans (rfl))))))
theorem a54 {a:D} (ha:PlK .num a) (μ:Mu):jw [.tup [.str Jl,a]] μ=.ok (.bl true) μ :=
 Js 1 ((v_skip rfl).trans ((v_skip rfl).trans ((v_set 1 rfl).trans ((v_skip rfl).trans ((tailG [(.num,a)] (List.forall_mem_cons.mpr ⟨ha,fun _ z=>nomatch z⟩) (show 1≤16777216 by decide) rfl).trans (rfl))))))
theorem Bn (μ:Mu):jw [.tup [.str jb]] μ=.ok (.bl true) μ :=
 Js 1 ((v_skip rfl).trans ((v_skip rfl).trans ((v_set 1 rfl).trans ((v_skip rfl).trans ((tailG [] (fun _ z=>nomatch z) (show 0≤16777216 by decide) rfl).trans (rfl))))))
theorem p_do {a b:D} (ha:PlK .op a) (hb:PlK .num b) (μ:Mu) (hc:Jt [a,b] μ=.ok (.bl true) μ):jw [.tup [.str Xr,a,b]] μ=.ok (.bl true) μ :=
 Js 1 ((v_skip rfl).trans ((v_skip rfl).trans ((v_set 1 rfl).trans ((v_skip rfl).trans ((tailG [(.op,a),(.num,b)] (List.forall_mem_cons.mpr ⟨ha,List.forall_mem_cons.mpr ⟨hb,fun _ z=>nomatch z⟩⟩) (show 2≤16777216 by decide) rfl).trans (v_ret ((d3 rfl).trans (v_call rfl hc))))))))
theorem aa9 {x:List Nat} (hx:x∈opL) {k:Int} (h:x∈[u9,u8,uz,Jn]→1≤k∧k < 32) (μ:Mu):Jt [.str x,.int k] μ=.ok (.bl true) μ:=by
 have n0:1≤k→(!(k == 0))=true:=fun z=>by
  have:(k == 0)=false:=by rw [beq_eq_false_iff_ne];omega
  rw [this];rfl
 revert hx h
 revert x
 intro x hx
 refine W9 (P:=fun x=>(x∈[u9,u8,uz,Jn]→1≤k∧k < 32)→Jt [.str x,.int k] μ=.ok (.bl true) μ) ⟨fun _=>rfl,fun _=>rfl,fun _=>rfl,fun h=>?_,fun h=>?_,fun _=>rfl,fun _=>rfl,fun _=>rfl,fun h=>?_,fun h=>?_⟩ x hx
 ·have:=n0 (h (by decide)).1
  refine (Js 0 (um rfl (v_bin rfl rfl rfl))).trans ?_
  show Res.ok (D.bl (!(k == 0))) μ=_
  rw [this]
 ·have:=n0 (h (by decide)).1
  refine (Js 0 (um rfl (v_bin rfl rfl rfl))).trans ?_
  show Res.ok (D.bl (!(k == 0))) μ=_
  rw [this]
 ·have:=decide_eq_true (h (by decide)).2
  refine (Js 0 ((v_skip rfl).trans (um rfl (v_bin rfl rfl rfl)))).trans ?_
  show Res.ok (D.bl (decide (k < 32))) μ=_
  rw [this]
 ·have:=decide_eq_true (h (by decide)).2
  refine (Js 0 ((v_skip rfl).trans (um rfl (v_bin rfl rfl rfl)))).trans ?_
  show Res.ok (D.bl (decide (k < 32))) μ=_
  rw [this]
end K31
set_option Elab.async false
set_option linter.all false
set_option maxRecDepth 100000
set_option maxHeartbeats 4000000
namespace K31
open PySem PySem.Spec PyProof.Rows L2 M
inductive Vw | tl | jp (n:Nat) | br (n m:Nat) | kp (s:Nat) | ft (s:Nat) | ot
noncomputable def Vw.goals:Vw→Nat→List Nat
 | .tl,_=>[]
 | .jp n,p=>[p + 1 + n]
 | .br n m,p=>[p + 1 + n,p + 1 + m]
 | _,p=>[p + 1]
noncomputable def Vw.lacks (bs:List Bool):Vw→Bool
 | .ft s=> !(bs.getD s false)
 | _=>false
noncomputable def Vw.behind (bs:List Bool):Vw→List Bool
 | .kp s=>bs.set s true
 | _=>bs
noncomputable def Vw.isK (k:Nat):Vw→Bool
 | .kp s=>s == k
 | _=>false
noncomputable def Vw.ok:Vw→Prop
 | .ft s=>s < 8
 | .kp s=>s < 8
 | _=>True
noncomputable def gI (l:List Nat):D:=.lst (l.map fun (g:Nat)=>.int g)
noncomputable def bI (l:List Bool):D:=.lst (l.map .bl)
inductive Sh:D→Vw→Prop
 | load {a b c:D}:PlK .size a→PlK .base b→PlK .num c→Sh (.tup [.str ya,a,b,c]) .ot
 | len:Sh (.tup [.str U6]) .ot
 | tax:Sh (.tup [.str Yh]) .ot
 | txa:Sh (.tup [.str Yi]) .ot
 | tella:Sh (.tup [.str jb]) .tl
 | set {a:D}:PlK .num a→Sh (.tup [.str Z1,a]) .ot
 | setx {a:D}:PlK .num a→Sh (.tup [.str w_setx,a]) .ot
 | keep {s:Nat}:s < 8→Sh (.tup [.str Ji,.int s]) (.kp s)
 | fetch {s:Nat}:s < 8→Sh (.tup [.str ub,.int s]) (.ft s)
 | do_ {x:List Nat} {k:Int}:x∈opL→0≤k→k < 4294967296→(x∈[u9,u8,uz,Jn]→1≤k∧k < 32)→Sh (.tup [.str Xr,.str x,.int k]) .ot
 | dox {a:D}:PlK .op a→Sh (.tup [.str Zm,a]) .ot
 | jump {n:Nat}:n≤2000→Sh (.tup [.str w_jump,.int n]) (.jp n)
 | if_ {a b:D} {n m:Nat}:PlK .test a→PlK .num b→n≤2000→m≤2000→Sh (.tup [.str yz,a,b,.int n,.int m]) (.br n m)
 | ifx {a:D} {n m:Nat}:PlK .test a→n≤2000→m≤2000→Sh (.tup [.str uo,a,.int n,.int m]) (.br n m)
 | tell {a:D}:PlK .num a→Sh (.tup [.str Jl,a]) .tl
theorem qt {n:Nat} (h:n≤2000):PlK .dist (.int n):=.dist (by omega) (by omega)
theorem G5 {n:Nat} (h:n < 8):PlK .slot (.int n):=.slot (by omega) (by omega)
theorem jo {k:Kd} {d:D} (h:PlK k d):j7 d=true∧dpt d=0:=by
 cases h with
 | base hx=>exact ⟨Cc (P:=fun x=>j7 (.str x)=true) ⟨by decide,by decide⟩ _ hx,rfl⟩
 | op hx=>exact ⟨W9 (P:=fun x=>j7 (.str x)=true) ⟨by decide,by decide,by decide,by decide,by decide,by decide,by decide,by decide,by decide,by decide⟩ _ hx,rfl⟩
 | test hx=>exact ⟨dz (P:=fun x=>j7 (.str x)=true) ⟨by decide,by decide,by decide,by decide⟩ _ hx,rfl⟩
 | _=>exact ⟨rfl,rfl⟩
theorem dn {d:D} {v:Vw} (h:Sh d v):j7 d=true∧dpt d≤1:=by
 cases h with
 | load h1 h2 h3=>exact ⟨by simp [j7,plainDs,(jo h1).1,(jo h2).1,(jo h3).1];decide,by simp [dpt,dpts,(jo h1).2,(jo h2).2,(jo h3).2]⟩
 | set h1=>exact ⟨by simp [j7,plainDs,(jo h1).1];decide,by simp [dpt,dpts,(jo h1).2]⟩
 | setx h1=>exact ⟨by simp [j7,plainDs,(jo h1).1];decide,by simp [dpt,dpts,(jo h1).2]⟩
 | dox h1=>exact ⟨by simp [j7,plainDs,(jo h1).1];decide,by simp [dpt,dpts,(jo h1).2]⟩
 | tell h1=>exact ⟨by simp [j7,plainDs,(jo h1).1];decide,by simp [dpt,dpts,(jo h1).2]⟩
 | if_ h1 h2 _ _=>exact ⟨by simp [j7,plainDs,(jo h1).1,(jo h2).1];decide,by simp [dpt,dpts,(jo h1).2,(jo h2).2]⟩
 | ifx h1 _ _=>exact ⟨by simp [j7,plainDs,(jo h1).1];decide,by simp [dpt,dpts,(jo h1).2]⟩
 | do_ hx _ _ _=>exact ⟨by have:=(jo (.op hx)).1;simp only [j7] at this;simp only [j7,plainDs,this];decide,by simp [dpt,dpts]⟩
 | _=>exact ⟨by simp [j7,plainDs];decide,by simp [dpt,dpts]⟩
theorem be {d:D} {v:Vw} (h:Sh d v) (μ:Mu):jw [d] μ=.ok (.bl true) μ:=by
 cases h with
 | load h1 h2 h3=>exact a56 h1 h2 h3 μ
 | len=>exact af6 μ
 | tax=>exact af4 μ
 | txa=>exact af3 μ
 | tella=>exact Bn μ
 | set h=>exact af5 h μ
 | setx h=>exact a55 h μ
 | keep h=>exact a57 (G5 h) μ
 | fetch h=>exact Bm (G5 h) μ
 | do_ hx h1 h2 h3=>exact p_do (.op hx) (.num h1 h2) μ (aa9 hx h3 μ)
 | dox h=>exact af8 h μ
 | jump h=>exact a58 (qt h) μ
 | if_ h1 h2 h3 h4=>exact p_if h1 h2 (qt h3) (qt h4) μ
 | ifx h1 h2 h3=>exact af7 h1 (qt h2) (qt h3) μ
 | tell h=>exact a54 h μ
theorem sh_pg {d:D} {v:Vw} (h:Sh d v) (p:Nat) (μ:Mu):Ju [.int p,d] μ=.ok (gI (v.goals p)) μ:=by
 cases h <;> rfl
theorem Ak {d:D} {v:Vw} (h:Sh d v):v.ok:=by
 cases h with
 | keep h=>exact h
 | fetch h=>exact h
 | _=>exact True.intro
end K31
set_option Elab.async false
set_option linter.all false
set_option maxRecDepth 100000
set_option maxHeartbeats 4000000
namespace K31
open PySem PySem.Spec PyProof.Rows L2 M
theorem a18 {m:MX} {ρ:En} {μ μ1:Mu} {k:Bool} (h:m ρ μ=.ok (.bl k) μ1):Vj m ρ μ=.ok (.bl (!k)) μ1:=by unfold Vj;rw [h];rfl
theorem aj3 {bs:List Bool} {s:Nat} (h:s < bs.length):jz (bI bs) (.int s)=some (.bl (bs.getD s false)):=by
 show atI (bs.map D.bl) (s:Int)=_
 rw [zd (by omega),Int.toNat_natCast,List.getElem?_map,List.getElem?_eq_getElem h,List.getD_eq_getElem?_getD,List.getElem?_eq_getElem h]
 rfl
theorem ad1 {d:D} {v:Vw} (h:Sh d v) {bs:List Bool} (hb:bs.length=8) (μ:Mu):Jd [d,bI bs] μ=.ok (.bl (v.lacks bs)) μ:=by
 cases h with
 | fetch h=>exact Js 0 (v_ret ((yx rfl).trans (a18 (v_bin rfl rfl (aj3 (by omega))))))
 | _=>exact Js 0 (v_ret (W2 rfl))
noncomputable def kb (s:Nat):Nat→List Bool→List Bool
 | _,[]=>[]
 | i,b::r=>(b || i == s)::kb s (i + 1) r
theorem a00 {s:Nat}:∀ (i:Nat) (bs:List Bool),s < i→kb s i bs=bs
 | _,[],_=>rfl
 | i,b::r,h=>by
  unfold kb
  rw [a00 (i + 1) r (by omega),show (i == s)=false from beq_eq_false_iff_ne.mpr (by omega),Bool.or_false]
theorem cg {s:Nat}:∀ (i:Nat) (bs:List Bool),i≤s→kb s i bs=bs.set (s - i) true
 | _,[],_=>rfl
 | i,b::r,h=>by
  unfold kb
  by_cases z:i=s
  ·subst z
   rw [a00 (i + 1) r (by omega),Nat.sub_self,List.set_cons_zero]
   simp
  ·rw [cg (i + 1) r (by omega),show (i == s)=false from beq_eq_false_iff_ne.mpr z,Bool.or_false,show s - i=(s - (i + 1)) + 1 by omega,List.set_cons_succ]
noncomputable abbrev kTg:MG:=zp (Jv (gN 0) (Jv (gN 1) zq))
noncomputable abbrev kEl:MX:=Wp (mVar 1) (mBin gEq (mVar 0) (mBin jz (mVar 2) (mC (.int 1))))
theorem eqN (i s:Nat):gEq (.int i) (.int s)=some (.bl (i == s)):=by
 show some (D.bl ((i:Int) == (s:Int)))=_
 by_cases z:i=s
 ·subst z;simp
 ·have:((i:Int) == (s:Int))=false:=by rw [beq_eq_false_iff_ne];omega
  rw [this,beq_eq_false_iff_ne.mpr z]
theorem Gb (s:Nat) (μ:Mu):∀ (bs:List Bool) (i:Nat) (a b:Option D) (acc:List D),jy kTg mTT kEl (uw i (bs.map .bl)) [a,b,some (.tup [.str Ji,.int s])] μ acc=.ok (acc++(kb s i bs).map .bl) μ
 | [],_,_,_,acc=>by simp [jy,uw,kb]
 | b::r,i,a,b',acc=>by
  have e:kEl [some (.int i),some (.bl b),some (.tup [.str Ji,.int s])] μ=.ok (.bl (b || i == s)) μ:=a17 rfl (v_bin rfl rfl (eqN i s))
  have ih:=Gb s μ r (i + 1) (some (.int i)) (some (.bl b)) (acc++[.bl (b || i == s)])
  rw [List.map_cons]
  unfold uw
  show (noX (kEl [some (.int i),some (.bl b),some (.tup [.str Ji,.int s])] μ)).bind _=_
  rw [e]
  show jy kTg mTT kEl _ [some (.int i),some (.bl b),some (.tup [.str Ji,.int s])] μ (acc++[.bl (b || i == s)])=_
  rw [ih,List.append_assoc,List.singleton_append]
  rfl
theorem ad2 {d:D} {v:Vw} (h:Sh d v) {bs:List Bool} (hb:bs.length=8) (μ:Mu):uh [d,bI bs] μ=.ok (bI (v.behind bs)) μ:=by
 cases h with
 | @keep s h =>
  refine Js 0 ((v_skip rfl).trans (v_ret ?_))
  have e0:Z5 (mVar 1) [some (.tup [.str Ji,.int s]),some (bI bs)] μ=.ok (uw 0 (bs.map .bl)) μ:=rfl
  show jc 2 [0] kTg (Z5 (mVar 1)) mTT kEl [some (.tup [.str Ji,.int s]),some (bI bs)] μ=_
  unfold jc
  rw [e0,bind_ok,if_pos (by rw [Q8,List.length_map,hb];decide)]
  show (jy kTg mTT kEl _ [none,none,some (.tup [.str Ji,.int s])] μ []).bind _=_
  rw [Gb s μ bs 0,cg 0 bs (Nat.zero_le _)]
  rfl
 | _=>exact Js 0 (um rfl rfl)
theorem Xw {v:Vw} {bs:List Bool}:(v.behind bs).length=bs.length:=by
 cases v <;> simp [Vw.behind]
end K31
set_option Elab.async false
set_option linter.all false
set_option maxRecDepth 100000
set_option maxHeartbeats 4000000
namespace K31
open PySem PySem.Spec PyProof.Rows L2 M
noncomputable def ins (L:List Nat) (g:Nat):List Nat:=if g∈L then L else L++[g]
theorem a7 {L:List Nat} {g q:Nat}:q∈ins L g↔q∈L∨q=g:=by
 unfold ins
 split
 ·rename_i h
  constructor
  ·exact .inl
  ·rintro (h' | rfl)
   ·exact h'
   ·exact h
 ·simp
theorem Jw {q:Nat}:∀ {gs L:List Nat},q∈gs.foldl ins L↔q∈L∨q∈gs
 | [],L=>by simp
 | g::gs,L=>by
  rw [List.foldl_cons,Jw,a7,List.mem_cons]
  constructor
  ·rintro ((h | h) | h)
   ·exact .inl h
   ·exact .inr (.inl h)
   ·exact .inr (.inr h)
  ·rintro (h | h | h)
   ·exact .inl (.inl h)
   ·exact .inl (.inr h)
   ·exact .inr h
theorem Wl {L:List Nat} {g:Nat}:(ins L g).length≤L.length + 1:=by
 unfold ins
 split <;> simp
theorem xj:∀ {gs L:List Nat},(gs.foldl ins L).length≤L.length + gs.length
 | [],L=>by simp
 | g::gs,L=>by
  rw [List.foldl_cons,List.length_cons]
  have:=@xj gs (ins L g)
  have:=@Wl L g
  omega
theorem ut (v:Vw) (p:Nat):(v.goals p).length≤2:=by cases v <;> simp [Vw.goals]
theorem xa {v:Vw} {p g:Nat} (h:g∈v.goals p):p < g:=by
 cases v <;> simp [Vw.goals] at h <;> omega
noncomputable def Tl (f:Nat→Vw):Nat→List Nat
 | 0=>[0]
 | p + 1=>if p∈Tl f p then ((f p).goals p).foldl ins (Tl f p) else Tl f p
noncomputable def Ul (f:Nat→Vw) (k:Nat):Nat→List Nat
 | 0=>[0]
 | p + 1=>if p∈Ul f k p∧(f p).isK k=false then ((f p).goals p).foldl ins (Ul f k p) else Ul f k p
theorem qa {f:Nat→Vw} {p q:Nat}:q∈Tl f (p + 1)↔q∈Tl f p∨(p∈Tl f p∧q∈(f p).goals p):=by
 rw [Tl]
 split
 ·rename_i h
  rw [Jw]
  simp [h]
 ·rename_i h
  simp [h]
theorem qb {f:Nat→Vw} {k p q:Nat}:q∈Ul f k (p + 1)↔q∈Ul f k p∨((p∈Ul f k p∧(f p).isK k=false)∧q∈(f p).goals p):=by
 rw [Ul]
 split
 ·rename_i h
  rw [Jw]
  simp [h]
 ·rename_i h
  constructor
  ·exact .inl
  ·rintro (h' | ⟨h',_⟩)
   ·exact h'
   ·exact absurd h' h
theorem b7 (f:Nat→Vw):∀ p,(Tl f p).length≤1 + 2 * p
 | 0=>by simp [Tl]
 | p + 1=>by
  rw [Tl]
  have:=b7 f p
  split
  ·have:=@xj ((f p).goals p) (Tl f p)
   have:=ut (f p) p
   omega
  ·omega
theorem K4 {f:Nat→Vw} {k:Nat}:∀ {p q:Nat},q∈Ul f k p→q∈Tl f p
 | 0,q,h=>h
 | p + 1,q,h=>by
  rw [qb] at h
  rw [qa]
  rcases h with h | ⟨⟨h,_⟩,h'⟩
  ·exact .inl (K4 h)
  ·exact .inr ⟨K4 h,h'⟩
noncomputable def zx (f:Nat→Vw) (p:Nat):Vw→Bool
 | .ft s=>decide (p∈Tl f p) && decide (p∈Ul f s p)
 | _=>false
noncomputable def fl (f:Nat→Vw) (n p:Nat):Bool:=zx f p (f p) || ((f p).goals p).any fun g=>decide (n≤g)
theorem Yy (μ:Mu) (xs:List D):j4 (μ++[.lst xs]) (.ref μ.length)=.lst xs:=by
 simp only [j4,List.getElem?_append_right (Nat.le_refl _),Nat.sub_self,List.getElem?_cons_zero]
theorem Cn {μ:Mu} {xs:List D} (ν:Mu):j4 (μ++[.lst xs]++ν) (.ref μ.length)=.lst xs:=by
 have:(μ++[.lst xs]++ν)[μ.length]? =some (.lst xs):=by
  rw [List.append_assoc,List.getElem?_append_right (Nat.le_refl _),Nat.sub_self]
  rfl
 simp only [j4,this]
theorem E4 {μ:Mu} {c:D} {xs:List D} (h:j4 μ c=.lst xs) (ν:Mu):j4 (μ++ν) c=.lst xs:=by
 cases c with
 | ref k =>
  simp only [j4] at h ⊢
  cases e:μ[k]? with
  | none=>rw [e] at h;cases h
  | some z =>
   have hk:k < μ.length:=(List.getElem?_eq_some_iff.mp e).1
   rw [List.getElem?_append_left hk,e]
   rw [e] at h
   exact h
 | _=>exact h
theorem yo (μ:Mu) (x y:Cell):(μ++[x]).set μ.length y=μ++[y]:=by
 rw [List.set_append_right _ _ (Nat.le_refl _),Nat.sub_self]
 rfl
noncomputable def iL (L:List Nat):List D:=L.map fun (g:Nat)=>D.int g
theorem Za:∀ L:List Nat,plainDs (iL L)=true
 | []=>rfl
 | g::L=>by
  show (j7 (D.int g) && plainDs (iL L))=true
  rw [Za L]
  rfl
theorem gz (g:Nat):∀ L:List Nat,inD (.int g) (iL L)=decide (g∈L)
 | []=>rfl
 | h::L=>by
  show (((h:Int) == (g:Int)) || inD (.int g) (iL L))=_
  rw [gz g L]
  by_cases z:h=g
  ·subst z;simp
  ·have:((h:Int) == (g:Int))=false:=by rw [beq_eq_false_iff_ne];omega
   rw [this,Bool.false_or]
   have:g≠h:=fun q=>z q.symm
   simp [this]
theorem ah7 (g:Nat) (L:List Nat):gIn (.int g) (.lst (iL L))=some (.bl (decide (g∈L))):=by
 show (if Wd (.int g) (iL L) then some (D.bl (inD (.int g) (iL L))) else none)=_
 rw [if_pos (by unfold Wd;rw [Za];rfl),gz]
theorem a69 (g:Nat) (L:List Nat):Zr (.int g) (.lst (iL L))=some (.bl (!decide (g∈L))):=by
 show (if Wd (.int g) (iL L) then some (D.bl (!inD (.int g) (iL L))) else none)=_
 rw [if_pos (by unfold Wd;rw [Za];rfl),gz]
theorem V2 {ρ:En} {μ μ1:Mu} {i:Nat} {n:MSt} {d:D} {ds:List D} {ρ1:En} (h:n (ρ.set i (some d)) μ=.ok (.nx ρ1) μ1):Jq (gN i) n (d::ds) ρ μ=Jq (gN i) n ds ρ1 μ1:=a20 i h
theorem Ar {mo m:MX} {ρ:En} {μ0:Mu} {L:List D} {y:D} (ho:mo ρ (μ0++[.lst L])=.ok (.ref μ0.length) (μ0++[.lst L])) (hm:m ρ (μ0++[.lst L])=.ok y (μ0++[.lst L])) (hl:L.length < 16777216):ui mo m ρ (μ0++[.lst L])=.ok .non (μ0++[.lst (L++[y])]):=by
 unfold ui
 rw [ho,bind_ok,Yy,if_pos (show f8 (.lst L)=true from rfl),hm,bind_ok]
 unfold Ca
 have:(μ0++[Cell.lst L])[μ0.length]? =some (.lst L):=by rw [List.getElem?_append_right (Nat.le_refl _),Nat.sub_self];rfl
 dsimp only
 rw [this]
 dsimp only
 rw [if_pos hl,yo]
theorem qg {m:MX} {ρ:En} {μ μ1:Mu} {d:D} (h:m ρ μ=.ok d μ1):Ux m ρ μ=.ok (.nx ρ) μ1:=by unfold Ux;rw [h];rfl
end K31
set_option Elab.async false
set_option linter.all false
set_option maxRecDepth 100000
set_option maxHeartbeats 4000000
namespace K31
open PySem PySem.Spec PyProof.Rows L2 M
noncomputable def y9 (ds:List D) (f:Nat→Vw):Prop:=∀ (i:Nat) (d:D),ds[i]? =some d→Sh d (f i)
theorem v_for {tg:MG} {it:MIt} {n:MSt} {ρ:En} {μ μ1:Mu} {ds:List D} (h:it ρ μ=.ok ds μ1):Q2 tg it n ρ μ=Jq tg n ds ρ μ1:=by rw [ai7,h];rfl
theorem Zw {m:MX} {ρ:En} {μ μ1:Mu} {ds:List D} (h:m ρ μ=.ok (.lst ds) μ1):je m ρ μ=.ok ds μ1:=by rw [A0,h];rfl
theorem Zf {m:MX} {ρ:En} {μ:Mu} {n:Nat} (h:m ρ μ=.ok (.int n) μ) (hn:n < 1000000):uu m ρ μ=.ok (iL (List.range' 0 n)) μ:=by
 rw [Cs,h,bind_ok,E1]
 unfold ql
 dsimp only
 rw [if_pos (by constructor <;> omega),Int.toNat_natCast,ofO_some]
 unfold qe
 rw [List.range_eq_range']
 rfl
theorem ua {d:D} {v:Vw} (h:Sh d v) (μ:Mu):j4 μ d=d:=by cases h <;> rfl
theorem fe {ds:List D} {p:Nat} {d:D} (h:ds[p]? =some d):jz (.lst ds) (.int p)=some d:=by
 show atI ds (p:Int)=_
 rw [zd (by omega),Int.toNat_natCast,h]
theorem qx (p m:Nat):iL (List.range' p (m + 1))=D.int p::iL (List.range' (p + 1) m):=by rw [List.range'_succ];rfl
theorem gq:∀ (bs:List Bool),Yn (bs.map D.bl)=some bs
 | []=>rfl
 | b::bs=>by rw [List.map_cons];unfold Yn;rw [gq bs];rfl
noncomputable def first (f:Nat→Vw) (n m:Nat):Option Nat:=(List.range' 0 m).find? (fl f n)
end K31
set_option Elab.async false
set_option linter.all false
set_option maxRecDepth 100000
set_option maxHeartbeats 4000000
namespace K31
open PySem PySem.Spec PyProof.Rows L2 M
noncomputable abbrev As:=List (Nat×List Bool)
noncomputable def dKs (A:As):List DK:=A.map fun p=>.inl (p.1:Int)
noncomputable def dVs (A:As):List D:=A.map fun p=>bI p.2
noncomputable def dC (A:As):Cell:=.dic (dKs A) (dVs A)
theorem a79 (q:Nat):List.lookup q ([]:As)=none:=rfl
theorem u6 (q a:Nat) (b:List Bool) (A:As):List.lookup q ((a,b)::A)=if a=q then some b else List.lookup q A:=by
 rw [List.lookup_cons]
 by_cases z:a=q
 ·subst z;simp
 ·rw [if_neg z,show (q == a)=false from beq_eq_false_iff_ne.mpr fun h=>z h.symm]
theorem Q7 {a q:Nat} (h:a≠q):¬ (Sum.inl (a:Int):DK)=.inl (q:Int):=fun z=>h (by have:=Sum.inl.inj z;omega)
theorem Qe (q:Nat):∀ A:As,J7 (dKs A) (dVs A) (.inl (q:Int))=(List.lookup q A).map bI
 | []=>rfl
 | (a,b)::A=>by
  show (if (Sum.inl (a:Int):DK)=.inl (q:Int) then some (bI b) else J7 (dKs A) (dVs A) (.inl (q:Int)))=_
  rw [u6]
  by_cases z:a=q
  ·subst z;simp
  ·rw [if_neg z,if_neg (Q7 z),Qe q A]
theorem b4 (q:Nat):∀ A:As,((dKs A).any fun k=>decide (k=.inl (q:Int)))=(List.lookup q A).isSome
 | []=>rfl
 | (a,b)::A=>by
  show (decide ((Sum.inl (a:Int):DK)=.inl (q:Int)) || (dKs A).any fun k=>decide (k=.inl (q:Int)))=_
  rw [u6,b4 q A]
  by_cases z:a=q
  ·subst z;simp
  ·rw [if_neg z,decide_eq_false (Q7 z),Bool.false_or]
noncomputable def rp (q:Nat) (v:List Bool):As→As
 | []=>[]
 | (a,b)::A=>(a,if a=q then v else b)::rp q v A
theorem Gz (q:Nat) (v:List Bool):∀ A:As,dKs (rp q v A)=dKs A
 | []=>rfl
 | (a,b)::A=>by show _::dKs (rp q v A)=_::dKs A;rw [Gz q v A]
theorem G9 (q:Nat) (v:List Bool):∀ A:As,dVs (rp q v A)=putVs (dKs A) (dVs A) (.inl (q:Int)) (bI v)
 | []=>rfl
 | (a,b)::A=>by
  show bI (if a=q then v else b)::dVs (rp q v A)=(if (Sum.inl (a:Int):DK)=.inl (q:Int) then bI v else bI b)::putVs (dKs A) (dVs A) (.inl (q:Int)) (bI v)
  rw [G9 q v A]
  congr 1
  by_cases z:a=q
  ·subst z;simp
  ·rw [if_neg z,if_neg (Q7 z)]
theorem db (q:Nat) (v:List Bool):∀ A:As,(rp q v A).length=A.length
 | []=>rfl
 | (a,b)::A=>by show (rp q v A).length + 1=A.length + 1;rw [db q v A]
theorem W6 (q:Nat) (v:List Bool) (r:Nat):∀ A:As,(List.lookup q A).isSome=true→List.lookup r (rp q v A)=if r=q then some v else List.lookup r A
 | [],h=>by cases h
 | (a,b)::A,h=>by
  show List.lookup r ((a,if a=q then v else b)::rp q v A)=_
  rw [u6,u6]
  by_cases z:a=q
  ·subst z
   by_cases y:r=a
   ·subst y;simp
   ·have y':¬ a=r:=fun h=>y h.symm
    rw [if_neg y',if_neg y',if_neg y]
    cases e:List.lookup a A with
    | some x=>rw [W6 a v r A (by rw [e];rfl),if_neg y]
    | none =>
     clear h
     have:∀ A:As,List.lookup a A=none→List.lookup r (rp a v A)=List.lookup r A:=by
      intro A
      induction A with
      | nil=>intro _;rfl
      | cons p A ih =>
       obtain ⟨a2,b2⟩:=p
       intro h
       show List.lookup r ((a2,if a2=a then v else b2)::rp a v A)=_
       rw [u6] at h
       split at h
       ·cases h
       ·rename_i h2
        rw [u6,u6,if_neg h2,ih h]
     exact this A e
  ·rw [u6,if_neg z] at h
   rw [W6 q v r A h,if_neg z]
   by_cases y:r=q
   ·subst y
    rw [if_neg z,if_pos rfl,if_pos rfl]
   ·rw [if_neg y,if_neg y]
noncomputable def pt (A:As) (q:Nat) (v:List Bool):As:=if (List.lookup q A).isSome=true then rp q v A else A++[(q,v)]
theorem Ge (q:Nat) (v:List Bool) (r:Nat):∀ A:As,List.lookup r (A++[(q,v)])=(List.lookup r A).or (if q=r then some v else none)
 | []=>by rw [List.nil_append,u6];rfl
 | (a,b)::A=>by
  rw [List.cons_append,u6,u6,Ge q v r A]
  split <;> rfl
theorem Gv (A:As) (q:Nat) (v:List Bool) (r:Nat):List.lookup r (pt A q v)=if r=q then some v else List.lookup r A:=by
 unfold pt
 split
 ·rename_i h;exact W6 q v r A h
 ·rename_i h
  rw [Ge]
  by_cases y:r=q
  ·subst y
   rw [if_pos rfl,if_pos rfl]
   cases e:List.lookup r A with
   | none=>rfl
   | some x=>rw [e] at h;exact absurd rfl h
  ·have y':¬ q=r:=fun h=>y h.symm
   rw [if_neg y,if_neg y']
   cases List.lookup r A <;> rfl
theorem D6 (A:As) (q:Nat) (v:List Bool):(pt A q v).length≤A.length + 1:=by
 unfold pt
 split
 ·rw [db];omega
 ·simp
theorem v_put {mo mi mv:MX} {ρ:En} {μ0:Mu} {A:As} {g:Nat} {v:List Bool} (hv:mv ρ (μ0++[dC A])=.ok (bI v) (μ0++[dC A])) (ho:mo ρ (μ0++[dC A])=.ok (.ref μ0.length) (μ0++[dC A])) (hi:mi ρ (μ0++[dC A])=.ok (.int g) (μ0++[dC A])) (hl:A.length < 16777216) :
  Vk mo mi mv ρ (μ0++[dC A])=.ok (.nx ρ) (μ0++[dC (pt A g v)]):=by
 unfold Vk
 rw [hv,bind_ok,ho,bind_ok,hi,bind_ok]
 have e:(μ0++[dC A])[μ0.length]? =some (dC A):=by rw [List.getElem?_append_right (Nat.le_refl _),Nat.sub_self];rfl
 unfold B3
 dsimp only
 rw [e]
 show (if (dKs A).length < 16777216 then (if ((dKs A).any fun k=>decide (k=.inl (g:Int)))=true then Res.ok (Out.nx ρ) ((μ0++[dC A]).set μ0.length (.dic (dKs A) (putVs (dKs A) (dVs A) (.inl (g:Int)) (bI v)))) else .ok (.nx ρ) ((μ0++[dC A]).set μ0.length (.dic (dKs A++[.inl (g:Int)]) (dVs A++[bI v])))) else .bad)=_
 rw [if_pos (by rw [dKs,List.length_map];exact hl),b4,yo,yo]
 unfold pt
 split
 ·rw [← G9,← Gz g v A];rfl
 ·rw [show dKs A++[Sum.inl (g:Int)]=dKs (A++[(g,v)]) by simp [dKs],show dVs A++[bI v]=dVs (A++[(g,v)]) by simp [dVs]]
  rfl
theorem qr (μ0:Mu) (A:As):j4 (μ0++[dC A]) (.ref μ0.length)=.dic (dKs A) (dVs A):=by
 have e:(μ0++[dC A])[μ0.length]? =some (dC A):=by rw [List.getElem?_append_right (Nat.le_refl _),Nat.sub_self];rfl
 show (match (μ0++[dC A])[List.length μ0]? with
  | some (.lst ds)=>D.lst ds
  | some (.dic ks vs)=>D.dic ks vs
  | _=>D.ref (List.length μ0))=_
 rw [e]
 rfl
noncomputable def Yx (a b:List Bool):List Bool:=List.zipWith (· && ·) a b
theorem K3 (μ:Mu):∀ (a b:List Bool) (x y:Option D) (acc:List D),jy kTg mTT (u5 (mVar 0) (mVar 1)) (M.pairD (a.map .bl) (b.map .bl)) [x,y] μ acc=.ok (acc++(Yx a b).map .bl) μ
 | [],b,x,y,acc=>by simp [jy,M.pairD,Yx]
 | a::as,[],x,y,acc=>by simp [jy,M.pairD,Yx]
 | a::as,b::bs,x,y,acc=>by
  have e:u5 (mVar 0) (mVar 1) [some (.bl a),some (.bl b)] μ=.ok (.bl (a && b)) μ:=G0 rfl rfl
  have ih:=K3 μ as bs (some (.bl a)) (some (.bl b)) (acc++[.bl (a && b)])
  show (noX (u5 (mVar 0) (mVar 1) [some (.bl a),some (.bl b)] μ)).bind _=_
  rw [e]
  show jy kTg mTT (u5 (mVar 0) (mVar 1)) (M.pairD (as.map .bl) (bs.map .bl)) [some (.bl a),some (.bl b)] μ (acc++[.bl (a && b)])=_
  rw [ih,List.append_assoc,List.singleton_append]
  rfl
noncomputable def ho (sl:List Bool) (A:As) (g:Nat):As:=pt A g (Yx ((List.lookup g A).getD sl) sl)
theorem fx {μ0:Mu} {x1:Option D} {sl:List Bool}:∀ (gs:List Nat) (A:As) (x3 x4:Option D),A.length + gs.length < 16777216→sl.length=8→(∀ q bs,List.lookup q A=some bs→bs.length=8)→∃ y3 y4,
  Jq (gN 3) Z7 (iL gs) [some (.ref μ0.length),x1,some (bI sl),x3,x4] (μ0++[dC A])=.ok (.nx [some (.ref μ0.length),x1,some (bI sl),y3,y4]) (μ0++[dC (gs.foldl (ho sl) A)])
 | [],A,x3,x4,_,_,_=>⟨x3,x4,rfl⟩
 | g::gs,A,x3,x4,hl,hs,h8=>by
  rw [List.length_cons] at hl
  have hb:((List.lookup g A).getD sl).length=8:=by
   cases e:List.lookup g A with
   | none=>exact hs
   | some bs=>exact h8 g bs e
  have ha:(Yx ((List.lookup g A).getD sl) sl).length=8:=by rw [Yx,List.length_zipWith,hb,hs];rfl
  obtain ⟨y3,y4,ih⟩:=fx (μ0:=μ0) (x1:=x1) gs (ho sl A g) (some (.int g)) (some (bI ((List.lookup g A).getD sl))) (by have:=D6 A g (Yx ((List.lookup g A).getD sl) sl);unfold ho;omega) hs (fun q bs e=>by
   unfold ho at e
   rw [Gv] at e
   split at e
   ·cases e;exact ha
   ·exact h8 q bs e)
  refine ⟨y3,y4,Eq.trans (V2 ?_) ih⟩
  have e1:Wo (mVar 0) (mVar 3) (mVar 2) [some (.ref μ0.length),x1,some (bI sl),some (.int g),x4] (μ0++[dC A])=.ok (bI ((List.lookup g A).getD sl)) (μ0++[dC A]):=by
   unfold Wo
   show (if f9 (j4 (μ0++[dC A]) (.ref μ0.length))=true then ofO (μ0++[dC A]) (C7 (j4 (μ0++[dC A]) (.ref μ0.length)) (.int g) (bI sl)) else .bad)=_
   rw [qr,if_pos (show f9 (.dic (dKs A) (dVs A))=true from rfl)]
   show ofO _ (some ((J7 (dKs A) (dVs A) (.inl (g:Int))).getD (bI sl)))=_
   rw [Qe]
   cases List.lookup g A <;> rfl
  refine (v_set 4 e1).trans (v_put ?_ rfl rfl (by omega))
  show jc 2 [] kTg (Wr false false (mVar 4) (mVar 2)) mTT (u5 (mVar 0) (mVar 1)) [some (.ref μ0.length),x1,some (bI sl),some (.int g),some (bI ((List.lookup g A).getD sl))] (μ0++[dC A])=_
  unfold jc
  rw [show Wr false false (mVar 4) (mVar 2) [some (.ref μ0.length),x1,some (bI sl),some (.int g),some (bI ((List.lookup g A).getD sl))] (μ0++[dC A])=.ok (M.pairD (((List.lookup g A).getD sl).map .bl) (sl.map .bl)) (μ0++[dC A]) from rfl,bind_ok]
  have hpl:∀ (a b:List D),(M.pairD a b).length≤a.length:=fun a b=>by unfold M.pairD;rw [List.length_map,List.length_zip];exact Nat.min_le_left _ _
  rw [if_pos (Nat.le_trans (hpl _ _) (by rw [List.length_map,hb];decide))]
  show (jy kTg mTT (u5 (mVar 0) (mVar 1)) _ [none,none] _ []).bind _=_
  rw [K3]
  rfl
theorem d6 (j:Nat) {n:MSt} {ds:List D} {μ μ1:Mu} {ρ1:En} (h:n (ds.map some++List.replicate j none) μ=.ok (.nx ρ1) μ1):fnOf j n ds μ=.ok .non μ1:=by rw [Cr,h];rfl
theorem aj {μ0:Mu} {sl:List Bool} {gs:List Nat} {A:As} (hl:A.length + gs.length < 16777216) (hs:sl.length=8) (h8:∀ q bs,List.lookup q A=some bs→bs.length=8) :
  yu [.ref μ0.length,gI gs,bI sl] (μ0++[dC A])=.ok .non (μ0++[dC (gs.foldl (ho sl) A)]):=by
 obtain ⟨y3,y4,e⟩:=fx (μ0:=μ0) (x1:=some (gI gs)) (sl:=sl) gs A none none hl hs h8
 exact d6 2 ((v_for (Zw rfl)).trans e)
end K31
set_option Elab.async false
set_option linter.all false
set_option maxRecDepth 100000
set_option maxHeartbeats 4000000
namespace K31
open PySem PySem.Spec PyProof.Rows L2 M
theorem K2:∀ (a s:List Bool),Yx (Yx a s) s=Yx a s
 | [],s=>rfl
 | a::as,[]=>rfl
 | a::as,b::bs=>by
  show ((a && b) && b)::Yx (Yx as bs) bs=(a && b)::Yx as bs
  rw [K2 as bs,Bool.and_assoc,Bool.and_self]
theorem b5:∀ (a s:List Bool) (k:Nat),(Yx a s).getD k false=(a.getD k false && s.getD k false)
 | [],s,k=>by simp [Yx]
 | a::as,[],k=>by simp [Yx]
 | a::as,b::bs,0=>rfl
 | a::as,b::bs,k + 1=>b5 as bs k
theorem zi (sl:List Bool) (q:Nat):∀ (gs:List Nat) (A:As),List.lookup q (gs.foldl (ho sl) A)=if q∈gs then some (Yx ((List.lookup q A).getD sl) sl) else List.lookup q A
 | [],A=>by simp
 | g::gs,A=>by
  rw [List.foldl_cons,zi sl q gs]
  unfold ho
  rw [Gv]
  by_cases h1:q=g
  ·subst h1
   rw [if_pos rfl,if_pos (List.mem_cons_self ..)]
   split
   ·rw [Option.getD_some,K2]
   ·rfl
  ·rw [if_neg h1]
   simp only [List.mem_cons,h1,false_or]
theorem ku (sl:List Bool):∀ (gs:List Nat) (A:As),(gs.foldl (ho sl) A).length≤A.length + gs.length
 | [],A=>by simp
 | g::gs,A=>by
  rw [List.foldl_cons,List.length_cons]
  have:=ku sl gs (ho sl A g)
  have:=D6 A g (Yx ((List.lookup g A).getD sl) sl)
  unfold ho at *
  omega
noncomputable def wy (v:Vw) (p:Nat) (A:As):As:=match List.lookup p A with
 | some bs=>(v.goals p).foldl (ho (v.behind bs)) A
 | none=>A
structure J (f:Nat→Vw) (p:Nat) (A:As):Prop where
 t:∀ q,(List.lookup q A).isSome=true↔q∈Tl f p
 l:∀ q bs,List.lookup q A=some bs→bs.length=8
 u:∀ q bs,List.lookup q A=some bs→∀ k < 8,(bs.getD k false=false↔q∈Ul f k p)
 n:A.length≤1 + 2 * p
noncomputable def noL:List Bool:=[false,false,false,false,false,false,false,false]
theorem J0 (f:Nat→Vw):J f 0 [(0,noL)]:=by
 refine ⟨fun q=>?_,fun q bs e=>?_,fun q bs e k hk=>?_,by simp⟩
 ·rw [u6]
  by_cases z:0=q
  ·subst z;simp [Tl]
  ·rw [if_neg z];simp [Tl,a79];omega
 ·rw [u6] at e
  split at e
  ·cases e;rfl
  ·cases e
 ·rw [u6] at e
  split at e
  ·rename_i z
   cases e
   have:noL.getD k false=false:=by
    match k,hk with
    | 0,_=>rfl
    | 1,_=>rfl
    | 2,_=>rfl
    | 3,_=>rfl
    | 4,_=>rfl
    | 5,_=>rfl
    | 6,_=>rfl
    | 7,_=>rfl
    | k + 8,h=>omega
   subst z
   exact ⟨fun _=>by simp [Ul],fun _=>this⟩
  ·cases e
theorem a32 {bs:List Bool} {s k:Nat} (hs:s < bs.length):(bs.set s true).getD k false=if k=s then true else bs.getD k false:=by
 rw [List.getD_eq_getElem?_getD,List.getD_eq_getElem?_getD]
 by_cases z:k=s
 ·subst z;rw [List.getElem?_set_self hs,if_pos rfl];rfl
 ·rw [List.getElem?_set_ne (Ne.symm z),if_neg z]
theorem Es {v:Vw} {bs:List Bool} {k:Nat} (ho:v.ok) (hb:bs.length=8):(v.behind bs).getD k false=false↔bs.getD k false=false∧v.isK k=false:=by
 cases v with
 | kp s =>
  show (bs.set s true).getD k false=false↔bs.getD k false=false∧(s == k)=false
  have hs:s < 8:=ho
  rw [a32 (by omega)]
  by_cases z:k=s
  ·subst z;simp
  ·rw [if_neg z]
   have:(s == k)=false:=beq_eq_false_iff_ne.mpr fun h=>z h.symm
   simp [this]
 | _=>simp [Vw.behind,Vw.isK]
theorem J.next {f:Nat→Vw} {p:Nat} {A:As} (j:J f p A) (ho':(f p).ok):J f (p + 1) (wy (f p) p A):=by
 unfold wy
 cases e:List.lookup p A with
 | none =>
  have np:p∉Tl f p:=fun h=>by have:=(j.t p).mpr h;rw [e] at this;cases this
  refine ⟨fun q=>?_,j.l,fun q bs eq k hk=>?_,by have:=j.n;dsimp only;omega⟩
  ·rw [qa,j.t];simp [np]
  ·rw [j.u q bs eq k hk,qb]
   constructor
   ·exact .inl
   ·rintro (h | ⟨⟨h,_⟩,_⟩)
    ·exact h
    ·exact absurd (K4 h) np
 | some bp =>
  have hp:p∈Tl f p:=(j.t p).mp (by rw [e];rfl)
  have h8:=j.l p bp e
  have hsl:((f p).behind bp).length=8:=by rw [Xw];exact h8
  dsimp only
  refine ⟨fun q=>?_,fun q bs eq=>?_,fun q bs eq k hk=>?_,?_⟩
  ·rw [zi,qa]
   by_cases z:q∈(f p).goals p
   ·simp [z,hp]
   ·simp [z,j.t]
  ·rw [zi] at eq
   split at eq
   ·cases eq
    rw [Yx,List.length_zipWith,hsl]
    cases e2:List.lookup q A with
    | none=>rw [Option.getD_none,hsl];rfl
    | some b=>rw [Option.getD_some,j.l q b e2];rfl
   ·exact j.l q bs eq
  ·rw [zi] at eq
   have hb:=Es (k:=k) ho' h8
   have hu:=j.u p bp e k hk
   rw [qb]
   split at eq
   ·rename_i z
    cases eq
    rw [b5,Bool.and_eq_false_iff,hb,hu]
    cases e2:List.lookup q A with
    | none =>
     have nq:q∉Ul f k p:=fun h=>by have:=(j.t q).mpr (K4 h);rw [e2] at this;cases this
     rw [Option.getD_none,hb,hu]
     simp [nq,z]
    | some b =>
     rw [Option.getD_some,j.u q b e2 k hk]
     simp [z]
   ·rename_i z
    rw [j.u q bs eq k hk]
    simp [z]
  ·have:=ku ((f p).behind bp) ((f p).goals p) A
   have:=ut (f p) p
   have:=j.n
   omega
theorem J.lack {f:Nat→Vw} {p:Nat} {A:As} (j:J f p A) (ho':(f p).ok):(match List.lookup p A with
  | some bs=>(f p).lacks bs
  | none=>false)=zx f p (f p):=by
 cases e:List.lookup p A with
 | none =>
  have np:p∉Tl f p:=fun h=>by have:=(j.t p).mpr h;rw [e] at this;cases this
  cases f p with
  | ft s=>simp [zx,np]
  | _=>rfl
 | some bs =>
  have hp:p∈Tl f p:=(j.t p).mp (by rw [e];rfl)
  cases hv:f p with
  | ft s =>
   rw [hv] at ho'
   have:=j.u p bs e s ho'
   show (!(bs.getD s false))=(decide (p∈Tl f p) && decide (p∈Ul f s p))
   rw [decide_eq_true hp,Bool.true_and]
   cases z:bs.getD s false with
   | false=>rw [decide_eq_true (this.mp z)];rfl
   | true=>rw [decide_eq_false fun h=>by rw [this.mpr h] at z;cases z];rfl
  | _=>rfl
end K31
set_option Elab.async false
set_option linter.all false
set_option maxRecDepth 100000
set_option maxHeartbeats 4000000
namespace K31
open PySem PySem.Spec PyProof.Rows L2 M
noncomputable abbrev eTg:MG:=zp (Jv (gN 2) (Jv (gN 3) zq))
theorem a19 {n:MSt} {ρ ρ1 ρ2:En} {μ μ1:Mu} {tg:MG} {d:D} {ds:List D} (ht:tg d ρ=some ρ1) (h:n ρ1 μ=.ok (.nx ρ2) μ1):Jq tg n (d::ds) ρ μ=Jq tg n ds ρ2 μ1:=by
 show (match tg d ρ with | none=>Res.bad | some ρ1=>_)=_
 rw [ht]
 show (n ρ1 μ).bind _=_
 rw [h]
 rfl
theorem gc {n:MSt} {ρ ρ1:En} {μ μ1:Mu} {tg:MG} {d x:D} {ds:List D} (ht:tg d ρ=some ρ1) (h:n ρ1 μ=.ok (.rt x) μ1):Jq tg n (d::ds) ρ μ=.ok (.rt x) μ1:=by
 show (match tg d ρ with | none=>Res.bad | some ρ1=>_)=_
 rw [ht]
 show (n ρ1 μ).bind _=_
 rw [h]
 rfl
section
variable {xs:List D} {f:Nat→Vw} {μ0:Mu} {A:As} {p:Nat} {d:D} {x4:Option D}
theorem ah8 (neg:Bool):zo neg (.int p) (.dic (dKs A) (dVs A))=some (.bl (if neg then !(List.lookup p A).isSome else (List.lookup p A).isSome)):=by
 show some (D.bl (if neg then !(J7 (dKs A) (dVs A) (.inl (p:Int))).isSome else (J7 (dKs A) (dVs A) (.inl (p:Int))).isSome))=_
 rw [Qe]
 cases List.lookup p A <;> rfl
theorem C6 {bs:List Bool} (h:List.lookup p A=some bs):J5 (.dic (dKs A) (dVs A)) (.int p)=some (bI bs):=by
 show J7 (dKs A) (dVs A) (.inl (p:Int))=_
 rw [Qe,h]
 rfl
theorem Yf {tg:MG} {m:MX} {d x:D} {ds acc:List D} {ρ ρ1:En} {μ:Mu} (ht:tg d ρ=some ρ1) (hm:m ρ1 μ=.ok x μ):jy tg mTT m (d::ds) ρ μ acc=jy tg mTT m ds ρ1 μ (acc++[x]):=by
 rw [jy,ht]
 show (noX (m ρ1 μ)).bind _=_
 rw [hm]
 rfl
noncomputable abbrev gEl:MX:=mBin gGe (mVar 0) (mCallB gLen (mCons (mVar 1) mNil))
theorem C9 {μ:Mu}:∀ (gs:List Nat) (a:Option D) (acc:List D),jy (gN 0) mTT gEl (iL gs) [a,some (.lst xs)] μ acc=.ok (acc++gs.map fun g=>.bl (decide (xs.length≤g))) μ
 | [],_,acc=>by simp [jy,iL]
 | g::gs,a,acc=>by
  have e:gEl [some (.int g),some (.lst xs)] μ=.ok (.bl (decide (xs.length≤g))) μ:=by
   refine v_bin rfl (v_callB (d:=.int xs.length) (v_cons rfl v_nil) rfl) ?_
   show some (D.bl (decide ((xs.length:Int)≤(g:Int))))=_
   by_cases z:xs.length≤g
   ·rw [decide_eq_true z,decide_eq_true (by omega)]
   ·rw [decide_eq_false z,decide_eq_false (by omega)]
  have ih:=C9 (μ:=μ) gs (some (.int g)) (acc++[.bl (decide (xs.length≤g))])
  refine (Yf (ds:=iL gs) rfl e).trans ?_
  refine ih.trans ?_
  rw [List.append_assoc,List.singleton_append]
  rfl
theorem a97 {μ:Mu} {gs:List Nat} {x1 x2 x3:Option D} (hl:gs.length≤2):U3 (mCallB gw (mCons (jc 1 [0] (gN 0) (je (mVar 4)) mTT (mBin gGe (mVar 0) (mCallB gLen (mCons (mVar 1) mNil)))) mNil)) [some (.lst xs),x1,x2,x3,some (gI gs)] μ=.ok (gs.any fun g=>decide (xs.length≤g)) μ:=by
 have e1:jc 1 [0] (gN 0) (je (mVar 4)) mTT (mBin gGe (mVar 0) (mCallB gLen (mCons (mVar 1) mNil))) [some (.lst xs),x1,x2,x3,some (gI gs)] μ=.ok (.lst (gs.map fun g=>.bl (decide (xs.length≤g)))) μ:=by
  unfold jc
  rw [show je (mVar 4) [some (.lst xs),x1,x2,x3,some (gI gs)] μ=.ok (iL gs) μ from rfl,bind_ok,if_pos (by rw [iL,List.length_map];omega)]
  show (jy (gN 0) mTT _ _ [none,some (.lst xs)] μ []).bind _=_
  rw [C9]
  rfl
 refine Zg (d:=.bl (gs.any fun g=>decide (xs.length≤g))) (v_callB (v_cons e1 v_nil) ?_) rfl
 show (Yn (gs.map fun g=>D.bl (decide (xs.length≤g)))).map _=_
 rw [show (gs.map fun g=>D.bl (decide (xs.length≤g)))=(gs.map fun g=>decide (xs.length≤g)).map D.bl by rw [List.map_map];rfl,gq]
 show some (D.bl ((gs.map fun g=>decide (xs.length≤g)).any id))=_
 rw [List.any_map]
 rfl
theorem d9 (h:∀ μ,jw [d] μ=.ok (.bl false) μ):jf [some (.lst xs),some (.ref μ0.length),some (.int p),some d,x4] (μ0++[dC A])=.ok (.rt (.int p)) (μ0++[dC A]) :=
 um (Xg (k:=false) (Zg (d:=.bl false) (v_call rfl (h _)) rfl)) rfl
theorem Fq (j:J f p A) (hs:Sh d (f p)) (hp:p < 100):jf [some (.lst xs),some (.ref μ0.length),some (.int p),some d,x4] (μ0++[dC A]) =
  (if fl f xs.length p=true then .ok (.rt (.int p)) (μ0++[dC A]) else .ok (.nx [some (.lst xs),some (.ref μ0.length),some (.int p),some d,some (gI ((f p).goals p))]) (μ0++[dC (wy (f p) p A)])):=by
 have hk:=Ak hs
 refine (v_skip (Xg (k:=true) (Zg (d:=.bl true) (v_call rfl (be hs _)) rfl))).trans ?_
 have hin:∀ x4,mTest (mBin (zo false) (mVar 2) (mVar 1)) [some (.lst xs),some (.ref μ0.length),some (.int p),some d,x4] (μ0++[dC A])=.ok (List.lookup p A).isSome (μ0++[dC A]):=fun x4=>Jz (v_bin rfl rfl (by rw [qr];exact ah8 false))
 have second:(zx f p (f p)=false)→(jx (J2 4 (mCall Ju (mCons (mVar 2) (mCons (mVar 3) mNil)))) (jx (jk (U3 (mCallB gw (mCons (jc 1 [0] (gN 0) (je (mVar 4)) mTT (mBin gGe (mVar 0) (mCallB gLen (mCons (mVar 1) mNil)))) mNil))) (ju (mVar 2)) jv)
   (jk (mTest (mBin (zo false) (mVar 2) (mVar 1))) (Ux (mCall yu (mCons (mVar 1) (mCons (mVar 4) (mCons (mCall uh (mCons (mVar 3) (mCons (mBin J5 (mVar 1) (mVar 2)) mNil))) mNil))))) jv))) [some (.lst xs),some (.ref μ0.length),some (.int p),some d,x4] (μ0++[dC A]) =
   (if fl f xs.length p=true then .ok (.rt (.int p)) (μ0++[dC A]) else .ok (.nx [some (.lst xs),some (.ref μ0.length),some (.int p),some d,some (gI ((f p).goals p))]) (μ0++[dC (wy (f p) p A)])):=fun hno=>by
  refine (v_set 4 (v_call rfl (sh_pg hs p _))).trans ?_
  have hf:=a97 (xs:=xs) (μ:=μ0++[dC A]) (x1:=some (.ref μ0.length)) (x2:=some (.int p)) (x3:=some d) (ut (f p) p)
  unfold fl
  rw [hno,Bool.false_or]
  cases z:((f p).goals p).any fun g=>decide (xs.length≤g) with
  | true=>rw [z] at hf;exact um hf rfl
  | false =>
   rw [z] at hf
   refine (v_skip hf).trans ?_
   rw [if_neg (by decide)]
   have hin':=hin (some (gI ((f p).goals p)))
   unfold wy
   cases e:List.lookup p A with
   | none=>rw [e] at hin';exact v_iteF hin'
   | some bs =>
    rw [e] at hin'
    have h8:=j.l p bs e
    refine (v_iteT hin').trans (qg (v_call (v_cons rfl (v_cons rfl (v_cons (v_call (v_cons rfl (v_cons (v_bin rfl rfl ?_) v_nil)) (ad2 hs h8 _)) v_nil))) (aj ?_ (by rw [Xw];exact h8) j.l)))
    ·rw [qr];exact C6 e
    ·have:=j.n;have:=ut (f p) p;omega
 have hl:=j.lack hk
 have hin':=hin x4
 cases e:List.lookup p A with
 | none =>
  rw [e] at hin' hl
  exact (v_skip (Zv hin')).trans (second hl.symm)
 | some bs =>
  rw [e] at hin' hl
  have h8:=j.l p bs e
  have hl':(f p).lacks bs=zx f p (f p):=hl
  have h2:U3 (mCall Jd (mCons (mVar 3) (mCons (mBin J5 (mVar 1) (mVar 2)) mNil))) [some (.lst xs),some (.ref μ0.length),some (.int p),some d,x4] (μ0++[dC A])=.ok (zx f p (f p)) (μ0++[dC A]):=by
   rw [← hl']
   exact Zg (d:=.bl ((f p).lacks bs)) (v_call (v_cons rfl (v_cons (v_bin rfl rfl (by rw [qr];exact C6 e)) v_nil)) (ad1 hs h8 _)) rfl
  cases z:zx f p (f p) with
  | true =>
   rw [z] at h2
   unfold fl
   rw [z,Bool.true_or,if_pos rfl]
   exact um ((v_andT hin').trans h2) rfl
  | false =>
   rw [z] at h2
   exact (v_skip ((v_andT hin').trans h2)).trans (second z)
structure Hd (xs:List D) (f:Nat→Vw) (b:Option Nat):Prop where
 good:∀ i d,xs[i]? =some d→b≠some i→Sh d (f i)
 bad:∀ i d,xs[i]? =some d→b=some i→∀ μ,jw [d] μ=.ok (.bl false) μ
noncomputable def x9 (n:Nat):Option Nat→Nat
 | some b=>b
 | none=>n
theorem gk {b:Option Nat} (h:Hd xs f b) (hn:xs.length < 100):∀ (m p:Nat) (A:As) (x2 x3 x4:Option D),p + m=xs.length→p≤x9 xs.length b→(∀ i,b=some i→i < xs.length)→J f p A→∃ A' y2 y3 y4,
  Jq eTg jf (uw p (xs.drop p)) [some (.lst xs),some (.ref μ0.length),x2,x3,x4] (μ0++[dC A]) =
   (match (List.range' p (x9 xs.length b - p)).find? (fl f xs.length),b with
    | some q,_=>.ok (.rt (.int q)) (μ0++[dC A'])
    | none,some i=>.ok (.rt (.int i)) (μ0++[dC A'])
    | none,none=>.ok (.nx [some (.lst xs),some (.ref μ0.length),y2,y3,y4]) (μ0++[dC A']))
 | 0,p,A,x2,x3,x4,hm,ht,hb,j=>by
  have hd:xs.drop p=[]:=List.drop_eq_nil_of_le (by omega)
  cases b with
  | none =>
   refine ⟨A,x2,x3,x4,?_⟩
   rw [hd,show x9 xs.length none - p=0 by show xs.length - p=0;omega]
   rfl
  | some i=>have:=hb i rfl;have:p≤i:=ht;omega
 | m + 1,p,A,x2,x3,x4,hm,ht,hb,j=>by
  have hp:p < xs.length:=by omega
  have hd:xs.drop p=xs[p]::xs.drop (p + 1):=List.drop_eq_getElem_cons hp
  rw [hd]
  show ∃ A' y2 y3 y4,Jq eTg jf (.tup [.int p,xs[p]]::uw (p + 1) (xs.drop (p + 1))) _ _=_
  by_cases hpb:b=some p
  ·subst hpb
   refine ⟨A,none,none,none,?_⟩
   rw [show x9 xs.length (some p) - p=0 by show p - p=0;omega]
   exact gc rfl (d9 (h.bad p _ (List.getElem?_eq_getElem hp) rfl))
  ·have hs:=h.good p _ (List.getElem?_eq_getElem hp) hpb
   have ht':p + 1≤x9 xs.length b:=by
    cases b with
    | none=>exact hp
    | some i=>have h1:p≤i:=ht;have h2:p≠i:=fun z=>hpb (by rw [z]);show p + 1≤i;omega
   have e:=Fq (xs:=xs) (μ0:=μ0) (x4:=x4) j hs (by omega)
   rw [show x9 xs.length b - p=(x9 xs.length b - (p + 1)) + 1 by omega,List.range'_succ,List.find?_cons]
   cases z:fl f xs.length p with
   | true =>
    rw [z,if_pos rfl] at e
    exact ⟨A,none,none,none,gc rfl e⟩
   | false =>
    rw [z,if_neg (by decide)] at e
    obtain ⟨A',y2,y3,y4,ih⟩:=gk h hn m (p + 1) (wy (f p) p A) (some (.int p)) (some xs[p]) (some (gI ((f p).goals p))) (by omega) ht' hb (j.next (Ak hs))
    exact ⟨A',y2,y3,y4,(a19 rfl e).trans ih⟩
noncomputable def Ek (f:Nat→Vw) (n:Nat) (b:Option Nat):Option Nat:=(first f n (x9 n b)).or b
noncomputable def Dz:Option Nat→D
 | some q=>.int q
 | none=>.non
theorem a82 {ρ:En} {μ:Mu} (h:ρ[0]? =some (some (.lst xs))) (h1:1≤xs.length) (h2:xs.length≤2000):Ym (mTest (y0 gLe gLe (mC (.int 1)) (mCallB gLen (mCons (mVar 0) mNil)) (mC c_MOST_STEPS))) ρ μ=.ok false μ:=by
 refine Xg (k:=true) (Jz ?_)
 rw [aa0]
 show (Res.bind (mCallB gLen (mCons (mVar 0) mNil) ρ μ) _)=_
 rw [v_callB (d:=.int xs.length) (v_cons (Yu 0 h) v_nil) rfl,bind_ok,deref_int,deref_int,a94,decide_eq_true (by omega)]
 show ofO μ (some (D.bl (decide ((xs.length:Int)≤2000))))=_
 rw [decide_eq_true (by omega)]
 rfl
theorem a95 {b:Option Nat} (h:Hd xs f b) (hn:xs.length < 100) (h1:1≤xs.length) (hb:∀ i,b=some i→i < xs.length) (μ:Mu):∃ ν,J1 [.lst xs] μ=.ok (Dz (Ek f xs.length b)) (μ++ν):=by
 have ht:0≤x9 xs.length b:=Nat.zero_le _
 obtain ⟨A',y2,y3,y4,e⟩:=gk (μ0:=μ) h hn xs.length 0 [(0,noL)] none none none (by omega) ht hb (J0 f)
 refine ⟨[dC A'],Js 4 ((v_skip (a82 rfl h1 (by omega))).trans ((v_set 1 (d:=.ref μ.length) (μ1:=μ++[dC [(0,noL)]]) rfl).trans ?_))⟩
 have e0:Z5 (mVar 0) [some (.lst xs),some (.ref μ.length),none,none,none] (μ++[dC [(0,noL)]])=.ok (uw 0 (xs.drop 0)) (μ++[dC [(0,noL)]]):=rfl
 unfold Ek first
 rw [Nat.sub_zero] at e
 cases z:(List.range' 0 (x9 xs.length b)).find? (fl f xs.length) with
 | some q=>rw [z] at e;exact v_seqR ((v_for e0).trans e)
 | none =>
  rw [z] at e
  cases b with
  | some i=>exact v_seqR ((v_for e0).trans e)
  | none=>exact (v_seqN ((v_for e0).trans e)).trans (v_ret rfl)
end
end K31
set_option Elab.async false
set_option linter.all false
set_option maxRecDepth 100000
set_option maxHeartbeats 4000000
namespace K31
open PySem PySem.Spec PyProof.Rows L2 M
noncomputable def Fwp (xs:List D) (r:Option Nat):Prop:=∀ μ,∃ ν,J1 [.lst xs] μ=.ok (Dz r) (μ++ν)
theorem a81 {xs:List D} {r:Option Nat} (h:Fwp xs r) (μ:Mu):∃ ν,Jk [.lst xs] μ=.ok (.bl r.isNone) (μ++ν):=by
 obtain ⟨ν,e⟩:=h μ
 refine ⟨ν,Js 0 (v_ret ?_)⟩
 unfold ax
 rw [v_call (ms:=mCons (mVar 0) mNil) (ds:=[.lst xs]) rfl e,bind_ok]
 cases r <;> rfl
mutual
theorem X3:∀ d:D,j7 d=true→eqD d d=true
 | .non,_=>rfl
 | .bl b,_=>by simp [eqD]
 | .int i,_=>by simp [eqD]
 | .str x,_=>by simp [eqD]
 | .tup xs,h=>by
  simp only [eqD]
  exact eqDs_self xs (by simpa [j7] using h)
 | .lst xs,h=>by
  simp only [eqD]
  exact eqDs_self xs (by simpa [j7] using h)
 | .dic _ _,h=>by simp [j7] at h
 | .ref _,h=>by simp [j7] at h
theorem eqDs_self:∀ ds:List D,plainDs ds=true→eqDs ds ds=true
 | [],_=>rfl
 | d::ds,h=>by
  simp only [plainDs,Bool.and_eq_true] at h
  simp only [eqDs,X3 d h.1,eqDs_self ds h.2,Bool.and_self]
end
theorem Bb {xs:List D} (h1:plainDs xs=true) (h2:dpts xs≤50):gNe (.lst xs) (.lst xs)=some (.bl false):=by
 have h3:j7 (.lst xs)=true:=by simpa [j7] using h1
 unfold gNe qq
 rw [h3,decide_eq_true (by rw [Nat.min_self,dpt];omega),X3 _ h3]
 rfl
end K31
set_option Elab.async false
set_option linter.all false
set_option maxRecDepth 100000
set_option maxHeartbeats 4000000
namespace K31
open PySem PySem.Spec PyProof.Rows L2 M
noncomputable def St (r:Res Out):Prop:=∃ d v,r=.ok (.rt d) []∧Sh d v
theorem St.of {r r':Res Out} (e:r=r') (h:St r'):St r:=by rw [e];exact h
theorem St.ite {ρ:En} {t:MB} {a r:MSt} {k:Bool} (ht:t ρ []=.ok k []) (h1:k=true→St (a ρ [])) (h2:k=false→St (r ρ [])):St (jx (jk t a jv) r ρ []):=by
 cases k with
 | true =>
  obtain ⟨d,v,e,hs⟩:=h1 rfl
  exact ⟨d,v,v_seqR ((v_iteT ht).trans e),hs⟩
 | false=>exact St.of (v_skip ht) (h2 rfl)
theorem St.ret {ρ:En} {m:MX} {d:D} {v:Vw} (h:m ρ []=.ok d []) (hs:Sh d v):St (ju m ρ []):=⟨d,v,v_ret h,hs⟩
theorem mix_at (ns:List Int) (k:Nat) {i:Int} (h:i=k) (μ:Mu):Up [sc ns,.int i] μ=.ok (.int (mix ns k)) μ:=by rw [h];exact a75 ns k μ
theorem in4:∀ x∈opL,gIn (.str x) (.tup [.str u9,.str u8,.str uz,.str Jn])=some (.bl ([u9,u8,uz,Jn].contains x)):=W9 ⟨rfl,rfl,rfl,rfl,rfl,rfl,rfl,rfl,rfl,rfl⟩
theorem d5 {ρ:En} {μ:Mu} {t:MB} {m:MX} {r:MSt} {d:D} (i:Nat) (ht:t ρ μ=.ok true μ) (hm:m ρ μ=.ok d μ):jx (jk t (J2 i m) jv) r ρ μ=r (ρ.set i (some d)) μ:=v_seqN ((v_iteT ht).trans (by unfold J2;rw [hm];rfl))
noncomputable def EvP (m:MX) (ρ:En) (P:D→Prop):Prop:=∃ d,m ρ []=.ok d []∧P d
section
variable {ρ:En} {m ma mb:MX} {ms:MAs} {t:MB}
theorem Cu {k:Bool} {P:D→Prop} (ht:t ρ []=.ok k []) (h1:EvP ma ρ P) (h2:EvP mb ρ P):EvP (mIf t ma mb) ρ P:=by
 cases k with
 | true=>obtain ⟨d,e,p⟩:=h1;exact ⟨d,(gh ht).trans e,p⟩
 | false=>obtain ⟨d,e,p⟩:=h2;exact ⟨d,(gf ht).trans e,p⟩
theorem ze {L:List D} {P:D→Prop} (n:Nat) {i:Int} (h:ms ρ []=.ok L []) (hl:L.length=n) (h0:0 < n) (hi:m ρ []=.ok (.int i) []) (hp:∀ d∈L,P d):EvP (mBin jz (U7 ms) (mBin Jf m (mC (.int n)))) ρ P:=by
 obtain ⟨d,hd,e2⟩:=a15 h hi hl h0
 exact ⟨d,e2,hp d hd⟩
theorem v_div {x:Nat} {n j:Int} {μ:Mu} (h:ρ[x]? =some (some (.int n))) (h1:0 < j) (h2:j < 18446744073709551616):mBin Ut (mVar x) (mC (.int j)) ρ μ=.ok (.int (n / j)) μ:=v_bin (Yu x h) rfl (fw _ _ h1 h2)
theorem gi {i j:Int} {μ:Mu} (h:m ρ μ=.ok (.int i) μ) (h1:0 < j):mBin Jf m (mC (.int j)) ρ μ=.ok (.int (i % j)) μ:=v_bin h rfl (g_mod _ _ h1)
theorem Ea {i:Int} (h:m ρ []=.ok (.int i) []):U3 m ρ []=.ok (!(i == 0)) []:=Zg h (by show Kw (.int i)=_;simp [Kw];try rfl)
end
theorem zy {i:Int} (h1:0≤i) (h2:i < 4294967296):PlK .num (.int i):=.num h1 h2
theorem bn (ns:List Int) (b l:Nat) (h1:1≤l) (h2:l≤2000):∃ d v,Wa [sc ns,.int b,.int l] []=.ok d []∧Sh d v:=by
 suffices h:St (Cf [some (sc ns),some (.int b),some (.int l),none,none,none,none,none,none,none,none] []) by
  obtain ⟨d,v,e,hs⟩:=h
  exact ⟨d,v,Js 8 e,hs⟩
 refine St.of (v_set 3 (v_call rfl (mix_at ns b rfl []))) (St.of (v_set 4 (v_call (v_cons (v_call rfl (mix_at ns (b + 1) rfl [])) v_nil) (k_eq _ []))) ?_)
 have hn0:=a74 ns b
 generalize hn:mix ns b=n at hn0
 have hk1:=ah0 (mix ns (b + 1))
 have hk2:=ah1 (mix ns (b + 1))
 generalize kv (mix ns (b + 1))=k at hk1 hk2
 have hK:=zy hk1 hk2
 refine St.of (v_set 5 (v_bin rfl rfl (g_mod n 18 (by decide)))) ?_
 have hw0:0≤n % 18:=Int.emod_nonneg _ (by decide)
 have hw1:n % 18 < 18:=Int.emod_lt_of_pos _ (by decide)
 generalize n % 18=y at hw0 hw1
 obtain ⟨small,es,ps⟩:=ze (ρ:=[some (sc ns),some (.int b),some (.int l),some (.int n),some (.int k),some (.int y),none,none,none,none,none]) (m:=mBin Ut (mVar 3) (mC (.int 18))) (L:=[.int 0,.int 1,.int 2,.int 5,.int 13,.int 19]) (P:=PlK .num) (ms:=mCons (mC (.int 0)) (mCons (mC (.int 1)) (mCons (mC (.int 2)) (mCons (mC (.int 5)) (mCons (mC (.int 13)) (mCons (mC (.int 19)) mNil)))))) 6 rfl rfl (by decide) (v_div rfl (by decide) (by decide)) (by
  simp only [List.forall_mem_cons,List.not_mem_nil,false_implies,implies_true,and_true]
  exact ⟨zy (by decide) (by decide),zy (by decide) (by decide),zy (by decide) (by decide),zy (by decide) (by decide),zy (by decide) (by decide),zy (by decide) (by decide)⟩)
 refine St.of (v_set 6 es) ?_
 have hM:∃ M:Nat,1≤M∧M≤2000∧ef [.int 1,.int l]=some (.int M):=by
  refine ⟨max 1 l,by omega,by omega,?_⟩
  rw [ai1]
  congr 1
  congr 1
  split <;> omega
 obtain ⟨M,hM1,hM2,hM3⟩:=hM
 have hone:∀ (i:Nat) (ρ:En),ρ[0]? =some (some (sc ns))→ρ[1]? =some (some (.int b))→ρ[2]? =some (some (.int l))→mBin Jf (mCall Up (mCons (mVar 0) (mCons (mBin Je (mVar 1) (mC (.int i))) mNil))) (mCallB ef (mCons (mC (.int 1)) (mCons (mVar 2) mNil))) ρ []=.ok (.int ((mix ns (b + i) % M).toNat:Int)) []:=fun i ρ r0 r1 r2=>by
  rw [Int.toNat_of_nonneg (Int.emod_nonneg _ (by omega))]
  exact v_bin (v_call (v_cons (Yu 0 r0) (v_cons (v_bin (Yu 1 r1) rfl rfl) v_nil)) (mix_at ns (b + i) (by simp) [])) (v_callB (v_cons rfl (v_cons (Yu 2 r2) v_nil)) hM3) (g_mod _ _ (by omega))
 refine St.of (v_set 7 (hone 2 _ rfl rfl rfl)) ?_
 refine St.of (v_set 8 (hone 3 _ rfl rfl rfl)) ?_
 have ho1:(mix ns (b + 2) % M).toNat≤2000:=by have:=Int.emod_lt_of_pos (mix ns (b + 2)) (b:=(M:Int)) (by omega);have:=Int.emod_nonneg (mix ns (b + 2)) (b:=(M:Int)) (by omega);omega
 have ho2:(mix ns (b + 3) % M).toNat≤2000:=by have:=Int.emod_lt_of_pos (mix ns (b + 3)) (b:=(M:Int)) (by omega);have:=Int.emod_nonneg (mix ns (b + 3)) (b:=(M:Int)) (by omega);omega
 generalize (mix ns (b + 2) % M).toNat=one at ho1
 generalize (mix ns (b + 3) % M).toNat=other at ho2
 have hsl:∀ (ρ:En),ρ[3]? =some (some (.int n))→mBin Jf (mBin Ut (mVar 3) (mC (.int 18))) (mC (.int 3)) ρ []=.ok (.int ((n / 18 % 3).toNat:Int)) []:=fun ρ r=>by
  rw [Int.toNat_of_nonneg (Int.emod_nonneg _ (by decide))]
  exact gi (v_div r (by decide) (by decide)) (by decide)
 have hsl8:(n / 18 % 3).toNat < 8:=by omega
 generalize (n / 18 % 3).toNat=slot at hsl hsl8
 refine St.ite (k:=decide (y < 3)) rfl (fun _=>?_) fun _=>?_
 ·obtain ⟨a,ea,pa⟩:=ze (ρ:=[some (sc ns),some (.int b),some (.int l),some (.int n),some (.int k),some (.int y),some small,some (.int one),some (.int other),none,none]) (m:=mBin Ut (mVar 3) (mC (.int 18))) (L:=[.int 1,.int 2,.int 4]) (P:=PlK .size) (ms:=mCons (mC (.int 1)) (mCons (mC (.int 2)) (mCons (mC (.int 4)) mNil))) 3 rfl rfl (by decide) (v_div rfl (by decide) (by decide)) (by
   simp only [List.forall_mem_cons,List.not_mem_nil,false_implies,implies_true,and_true]
   exact ⟨.size (.inl rfl),.size (.inr (.inl rfl)),.size (.inr (.inr rfl))⟩)
  obtain ⟨x,ex,px⟩:=ze (ρ:=[some (sc ns),some (.int b),some (.int l),some (.int n),some (.int k),some (.int y),some small,some (.int one),some (.int other),none,none]) (m:=mBin Ut (mVar 3) (mC (.int 54))) (L:=[.str W0,.str w_x]) (P:=PlK .base) (ms:=mCons (mC (.str W0)) (mCons (mC (.str w_x)) mNil)) 2 rfl rfl (by decide) (v_div rfl (by decide) (by decide)) (by
   simp only [List.forall_mem_cons,List.not_mem_nil,false_implies,implies_true,and_true]
   exact ⟨.base (by decide),.base (by decide)⟩)
  obtain ⟨c,ec,pc⟩:=Cu (P:=PlK .num) (ρ:=[some (sc ns),some (.int b),some (.int l),some (.int n),some (.int k),some (.int y),some small,some (.int one),some (.int other),none,none]) (Ea (gi (v_div (x:=3) (j:=108) rfl (by decide) (by decide)) (j:=5) (by decide))) (ma:=mVar 6) (mb:=mVar 4) ⟨_,rfl,ps⟩ ⟨_,rfl,hK⟩
  exact St.ret (Yt (v_cons rfl (v_cons ea (v_cons ex (v_cons ec v_nil))))) (.load pa px pc)
 refine St.ite (k:=decide (y < 5)) rfl (fun _=>?_) fun h5=>?_
 ·obtain ⟨d,e,hd⟩:=ze (ρ:=[some (sc ns),some (.int b),some (.int l),some (.int n),some (.int k),some (.int y),some small,some (.int one),some (.int other),none,none]) (m:=mBin Ut (mVar 3) (mC (.int 18))) (ms:=mCons (J6 (mCons (mC (.str U6)) mNil)) (mCons (J6 (mCons (mC (.str Yh)) mNil)) (mCons (J6 (mCons (mC (.str Yi)) mNil)) (mCons (J6 (mCons (mC (.str jb)) mNil)) mNil)))) (L:=[.tup [.str U6],.tup [.str Yh],.tup [.str Yi],.tup [.str jb]]) (P:=fun d=>∃ v,Sh d v) 4 rfl rfl (by decide) (v_div rfl (by decide) (by decide)) (by
   simp only [List.forall_mem_cons,List.not_mem_nil,false_implies,implies_true,and_true]
   exact ⟨⟨_,.len⟩,⟨_,.tax⟩,⟨_,.txa⟩,⟨_,.tella⟩⟩)
  obtain ⟨v,hv⟩:=hd
  exact St.ret e hv
 have h5:=of_decide_eq_false h5
 refine St.ite (k:=decide (y < 7)) rfl (fun h7=>?_) fun h7=>?_
 ·have h7:=of_decide_eq_true h7
  obtain rfl | rfl:y=5∨y=6:=by omega
  ·exact St.ret (d:=.tup [.str Z1,.int k]) rfl (.set hK)
  ·exact St.ret (d:=.tup [.str w_setx,.int k]) rfl (.setx hK)
 have h7:=of_decide_eq_false h7
 refine St.ite (k:=decide (y < 9)) rfl (fun h9=>?_) fun h9=>?_
 ·have h9:=of_decide_eq_true h9
  obtain rfl | rfl:y=7∨y=8:=by omega
  ·exact St.ret (Yt (v_cons (d:=.str Ji) rfl (v_cons (hsl _ rfl) v_nil))) (.keep hsl8)
  ·exact St.ret (Yt (v_cons (d:=.str ub) rfl (v_cons (hsl _ rfl) v_nil))) (.fetch hsl8)
 refine St.ite (k:=decide (y < 11)) rfl (fun _=>?_) fun _=>?_
 ·refine St.of (v_set 9 (v_call (v_cons (v_div rfl (by decide) (by decide)) v_nil) (op_eq _ []))) ?_
  have ho:=Gr (n / 18)
  have ht:=in4 _ ho
  cases hb:[u9,u8,uz,Jn].contains (opw (n / 18)) with
  | true =>
   rw [hb] at ht
   have hm:0≤k % 31∧k % 31 < 31:=⟨Int.emod_nonneg _ (by decide),Int.emod_lt_of_pos _ (by decide)⟩
   exact St.of (d5 4 (Jz (v_bin rfl rfl ht)) (v_bin (x:=.int 1) (y:=.int (k % 31)) (z:=.int (1 + k % 31)) rfl (gi rfl (by decide)) rfl)) (St.ret (Yt (v_cons rfl (v_cons rfl (v_cons rfl v_nil)))) (.do_ ho (by omega) (by omega) fun _=>⟨by omega,by omega⟩))
  | false =>
   rw [hb] at ht
   exact St.of (v_skip (Jz (v_bin rfl rfl ht))) (St.ret (Yt (v_cons rfl (v_cons rfl (v_cons rfl v_nil)))) (.do_ ho hk1 hk2 fun z=>by rw [List.contains_iff_mem.mpr z] at hb;cases hb))
 refine St.ite (k:=y == 11) rfl (fun _=>?_) fun _=>?_
 ·exact St.ret (Yt (v_cons rfl (v_cons (v_call (v_cons (v_div rfl (by decide) (by decide)) v_nil) (op_eq _ [])) v_nil))) (.dox (.op (Gr _)))
 refine St.ite (k:=y == 12) rfl (fun _=>?_) fun _=>?_
 ·exact St.ret (Yt (v_cons rfl (v_cons rfl v_nil))) (.jump ho1)
 obtain ⟨ts,et,pt⟩:=ze (ρ:=[some (sc ns),some (.int b),some (.int l),some (.int n),some (.int k),some (.int y),some small,some (.int one),some (.int other),none,none]) (m:=mBin Ut (mVar 3) (mC (.int 18))) (L:=[.str Um,.str Uk,.str Uo,.str Zl]) (P:=PlK .test) (ms:=mCons (mC (.str Um)) (mCons (mC (.str Uk)) (mCons (mC (.str Uo)) (mCons (mC (.str Zl)) mNil)))) 4 rfl rfl (by decide) (v_div rfl (by decide) (by decide)) (by
  simp only [List.forall_mem_cons,List.not_mem_nil,false_implies,implies_true,and_true]
  exact ⟨.test (by decide),.test (by decide),.test (by decide),.test (by decide)⟩)
 refine St.of (v_set 10 et) ?_
 refine St.ite (k:=decide (y < 15)) rfl (fun _=>?_) fun _=>?_
 ·obtain ⟨c,ec,pc⟩:=Cu (P:=PlK .num) (ρ:=[some (sc ns),some (.int b),some (.int l),some (.int n),some (.int k),some (.int y),some small,some (.int one),some (.int other),none,some ts]) (Ea (gi (v_div (x:=3) (j:=72) rfl (by decide) (by decide)) (j:=2) (by decide))) (ma:=mVar 4) (mb:=mVar 6) ⟨_,rfl,hK⟩ ⟨_,rfl,ps⟩
  exact St.ret (Yt (v_cons rfl (v_cons rfl (v_cons ec (v_cons rfl (v_cons rfl v_nil)))))) (.if_ pt pc ho1 ho2)
 refine St.ite (k:=y == 15) rfl (fun _=>?_) fun _=>?_
 ·exact St.ret (Yt (v_cons rfl (v_cons rfl (v_cons rfl (v_cons rfl v_nil))))) (.ifx pt ho1 ho2)
 obtain ⟨d,e,v,hv⟩:=Cu (k:=y == 16) (P:=fun d=>∃ v,Sh d v) (ρ:=[some (sc ns),some (.int b),some (.int l),some (.int n),some (.int k),some (.int y),some small,some (.int one),some (.int other),none,some ts]) (t:=mTest (mBin gEq (mVar 5) (mC (.int 16)))) (ma:=J6 (mCons (mC (.str Jl)) (mCons (mVar 4) mNil))) (mb:=J6 (mCons (mC (.str Ji)) (mCons (mBin Jf (mBin Ut (mVar 3) (mC (.int 18))) (mC (.int 3))) mNil))) rfl ⟨_,rfl,_,.tell hK⟩ ⟨_,Yt (v_cons rfl (v_cons (hsl _ rfl) v_nil)),_,.keep hsl8⟩
 exact St.ret e hv
end K31
set_option Elab.async false
set_option linter.all false
set_option maxRecDepth 100000
set_option maxHeartbeats 4000000
namespace K31
open PySem PySem.Spec PyProof.Rows L2 M
inductive Shs:List D→List Vw→Prop
 | nil:Shs [] []
 | cons {d:D} {v:Vw} {ds:List D} {vs:List Vw}:Sh d v→Shs ds vs→Shs (d::ds) (v::vs)
theorem Shs.app:∀ {ds es:List D} {vs us:List Vw},Shs ds vs→Shs es us→Shs (ds++es) (vs++us)
 | _,_,_,_,.nil,h=>h
 | _,_,_,_,.cons h h',g=>.cons h (h'.app g)
theorem Shs.code:∀ {ds:List D} {vs:List Vw},Shs ds vs→∀ (i:Nat) (d:D),ds[i]? =some d→Sh d (vs.getD i .tl)
 | _,_,.nil,i,d,h=>by simp at h
 | _,_,.cons (d:=d0) (v:=v0) h hs,0,d,e=>by
  have:d0=d:=by simpa using e
  subst this
  exact h
 | _,_,.cons h hs,i + 1,d,e=>hs.code i d (by simpa using e)
noncomputable abbrev ff:MX:=mCall Wa (mCons (mVar 1) (mCons (mBin Je (mVar 2) (mBin Qm (mC (.int 4)) (mVar 0))) (mCons (mBin gSub (mVar 3) (mVar 0)) mNil)))
theorem Ch (ns:List Int) (many:Nat) (hm:many≤20):∀ (m p:Nat),p + m=many→∀ (a:Option D) (acc:List D),∃ ds vs,jy (gN 0) mTT ff (iL (List.range' p m)) [a,some (sc ns),some (.int 0),some (.int many)] [] acc=.ok (acc++ds) []∧ds.length=m∧Shs ds vs
 | 0,p,_,a,acc=>⟨[],[],by simp [jy,iL],rfl,.nil⟩
 | m + 1,p,hp,a,acc=>by
  obtain ⟨d,v,e,hs⟩:=bn ns (4 * p) (many - p) (by omega) (by omega)
  obtain ⟨ds,vs,ih,hl,hss⟩:=Ch ns many hm m (p + 1) (by omega) (some (.int p)) (acc++[d])
  refine ⟨d::ds,v::vs,?_,by rw [List.length_cons,hl],.cons hs hss⟩
  have e1:ff [some (.int p),some (sc ns),some (.int 0),some (.int many)] []=.ok d []:=by
   refine v_call (v_cons rfl (v_cons (v_bin (x:=.int 0) (y:=.int (4 * (p:Int))) (z:=.int ((4 * p:Nat):Int)) rfl (v_bin rfl rfl (gx _ _ (by decide) (by decide))) ?_) (v_cons (v_bin rfl rfl (z:=.int ((many - p:Nat):Int)) ?_) v_nil))) e
   ·show some (D.int (0 + 4 * (p:Int)))=_
    congr 2
    omega
   ·show some (D.int ((many:Int) - (p:Int)))=_
    congr 2
    omega
  rw [qx]
  refine (Yf (ds:=iL (List.range' (p + 1) m)) rfl e1).trans (ih.trans ?_)
  rw [List.append_assoc,List.singleton_append]
theorem v_catC {ma mb:MX} {ρ:En} {μ μ1 μ2:Mu} {x y:D} {ds:List D} (ha:ma ρ μ=.ok x μ1) (hb:mb ρ μ1=.ok y μ2) (h:aa8 (j4 μ2 x) (j4 μ2 y)=some ds):Gh ma mb ρ μ=.ok (.ref μ2.length) (μ2++[.lst ds]):=by
 unfold Gh
 rw [ha,bind_ok,hb,bind_ok,h]
 rfl
theorem A5 (ns:List Int) (many:Nat) (hm:many≤20):∃ ds vs,v5 [sc ns,.int 0,.int many] []=.ok (.ref 0) [.lst ds]∧ds.length=many + 1∧Shs ds vs:=by
 obtain ⟨ds,vs,e,hl,hs⟩:=Ch ns many hm many 0 (by omega) none []
 obtain ⟨d,ed,v,hv⟩:=ze (ρ:=[some (sc ns),some (.int 0),some (.int many),some (.lst ds)]) (m:=mCall Up (mCons (mVar 0) (mCons (mBin Je (mVar 1) (mBin Qm (mC (.int 4)) (mVar 2))) mNil))) (L:=[.tup [.str jb],.tup [.str Jl,.int 1]]) (P:=fun d=>∃ v,Sh d v) (ms:=mCons (J6 (mCons (mC (.str jb)) mNil)) (mCons (J6 (mCons (mC (.str Jl)) (mCons (mC (.int 1)) mNil))) mNil)) 2 rfl rfl (by decide)
  (v_call (v_cons rfl (v_cons (v_bin (x:=.int 0) (y:=.int (4 * (many:Int))) rfl (v_bin rfl rfl (gx _ _ (by decide) (by decide))) rfl) v_nil)) (mix_at ns (4 * many) (by show 0 + 4 * (many:Int)=_;omega) [])) (by
   simp only [List.forall_mem_cons,List.not_mem_nil,false_implies,implies_true,and_true]
   exact ⟨⟨_,.tella⟩,⟨_,.tell (zy (by decide) (by decide))⟩⟩)
 refine ⟨ds++[d],vs++[v],?_,by simp [hl],hs.app (.cons hv .nil)⟩
 have e0:jc 1 [0,1,2] (gN 0) (uu (mVar 2)) mTT ff [some (sc ns),some (.int 0),some (.int many),none] []=.ok (.lst ds) []:=by
  unfold jc
  rw [Zf (n:=many) rfl (by omega),bind_ok,if_pos (by rw [iL,List.length_map,List.length_range'];omega)]
  show (jy (gN 0) mTT ff _ [none,some (sc ns),some (.int 0),some (.int many)] [] []).bind _=_
  rw [e]
  rfl
 refine Js 1 ((v_set 3 e0).trans (v_ret (v_catC (μ:=[]) (x:=.lst ds) (y:=.lst [d]) rfl (V3 (v_cons ed v_nil)) ?_)))
 show (if ds.length + 1≤16777216 then some (ds++[d]) else none)=_
 rw [if_pos (by omega)]
end K31
set_option Elab.async false
set_option linter.all false
set_option maxRecDepth 100000
set_option maxHeartbeats 1000000
namespace K31
open PySem PySem.Spec PyProof.Rows L2 M
noncomputable def Vw.lead:Vw→Bool
 | .jp _=>true
 | .br _ _=>true
 | _=>false
noncomputable def Vw.tel:Vw→Bool
 | .tl=>true
 | _=>false
noncomputable def Ed (f:Nat→Vw) (n p:Nat):Nat :=
 if h:p < n then
  match f p with
  | .jp k=>Ed f n (p + 1 + k)
  | .br k m=>if Ed f n (p + 1 + k)=Ed f n (p + 1 + m) then Ed f n (p + 1 + k) else p
  | _=>p
 else p
termination_by n - p
decreasing_by all_goals omega
noncomputable def lg (f:Nat→Vw) (n p:Nat):List Nat:=if (f p).lead=true then ((f p).goals p).map (Ed f n) else []
noncomputable def In (f:Nat→Vw) (n:Nat):Prop:=∀ p < n,∀ g∈(f p).goals p,g < n
section
variable {f:Nat→Vw} {n:Nat}
theorem fj {p k:Nat} (h:p < n) (e:f p=.jp k):Ed f n p=Ed f n (p + 1 + k):=by rw [Ed,dif_pos h,e]
theorem kr {p k m:Nat} (h:p < n) (e:f p=.br k m):Ed f n p=if Ed f n (p + 1 + k)=Ed f n (p + 1 + m) then Ed f n (p + 1 + k) else p:=by rw [Ed,dif_pos h,e]
theorem kt {p:Nat} (e:(f p).lead=false):Ed f n p=p:=by
 rw [Ed]
 split
 ·cases q:f p <;> rw [q] at e <;> first | rfl | cases e
 ·rfl
theorem gu {p:Nat} (h:n≤p):Ed f n p=p:=by rw [Ed,dif_neg (by omega)]
theorem v7 {P:Nat→Nat→Prop} (h0:∀ p,(n≤p∨(f p).lead=false)→P p p) (h1:∀ p k,p < n→f p=.jp k→P (p + 1 + k) (Ed f n (p + 1 + k))→P p (Ed f n (p + 1 + k)))
  (h2:∀ p k m,p < n→f p=.br k m→P (p + 1 + k) (Ed f n (p + 1 + k))→P (p + 1 + m) (Ed f n (p + 1 + m))→(Ed f n (p + 1 + k)=Ed f n (p + 1 + m)→P p (Ed f n (p + 1 + k)))∧(Ed f n (p + 1 + k)≠Ed f n (p + 1 + m)→P p p)):∀ p,P p (Ed f n p):=by
 have go:∀ m p,n - p≤m→P p (Ed f n p):=by
  intro m
  induction m with
  | zero=>intro p hp;rw [gu (by omega)];exact h0 p (.inl (by omega))
  | succ m ih =>
   intro p hp
   by_cases hn:p < n
   ·cases e:f p with
    | jp k=>rw [fj hn e];exact h1 p k hn e (ih _ (by omega))
    | br k j =>
     rw [kr hn e]
     obtain ⟨a,b⟩:=h2 p k j hn e (ih _ (by omega)) (ih _ (by omega))
     split
     ·exact a ‹_›
     ·exact b ‹_›
    | _=>rw [kt (by rw [e];rfl)];exact h0 p (.inr (by rw [e];rfl))
   ·rw [gu (by omega)];exact h0 p (.inl (by omega))
 exact fun p=>go (n - p) p (Nat.le_refl _)
theorem X4 (p:Nat):p≤Ed f n p:=v7 (P:=fun p q=>p≤q) (fun _ _=>Nat.le_refl _) (fun p k _ _ h=>by omega) (fun p k m _ _ h _=>⟨fun _=>by omega,fun _=>Nat.le_refl _⟩) p
theorem wn (G:In f n) (p:Nat):p < n→Ed f n p < n:=v7 (P:=fun p q=>p < n→q < n) (fun _ _ h=>h) (fun p k h e i _=>i (G p h _ (by rw [e];simp [Vw.goals]))) (fun p k m h e i _=>⟨fun _ _=>i (G p h _ (by rw [e];simp [Vw.goals])),fun _ h=>h⟩) p
theorem Q9 (p:Nat):Ed f n (Ed f n p)=Ed f n p:=by
 refine v7 (f:=f) (n:=n) (P:=fun p q=>Ed f n q=q) (fun p h=>?_) (fun p k _ _ h=>h) (fun p k m h e i j=>⟨fun _=>i,fun z=>?_⟩) p
 ·rcases h with h | h
  ·exact gu h
  ·exact kt h
 ·rw [kr h e,if_neg z]
theorem Vt {p:Nat} (h:p < n) (e:Ed f n p=p) (hl:(f p).lead=true):∃ k m,f p=.br k m∧Ed f n (p + 1 + k)≠Ed f n (p + 1 + m):=by
 cases q:f p with
 | jp k =>
  rw [fj h q] at e
  have:=X4 (f:=f) (n:=n) (p + 1 + k)
  omega
 | br k m =>
  refine ⟨k,m,rfl,fun z=>?_⟩
  rw [kr h q,if_pos z] at e
  have:=X4 (f:=f) (n:=n) (p + 1 + k)
  omega
 | _=>rw [q] at hl;cases hl
theorem Bc {p:Nat} (e:Ed f n p≠p):(f p).lead=true∧p < Ed f n p:=by
 refine ⟨?_,by have:=X4 (f:=f) (n:=n) p;omega⟩
 cases h:(f p).lead with
 | true=>rfl
 | false=>exact absurd (kt h) e
theorem a80 {p g:Nat} (h:g∈lg f n p):Ed f n g=g∧p < g:=by
 unfold lg at h
 split at h
 ·obtain ⟨q,hq,rfl⟩:=List.mem_map.mp h
  have:=xa hq
  have:=X4 (f:=f) (n:=n) q
  exact ⟨Q9 q,by omega⟩
 ·cases h
theorem ag8 (G:In f n) {p g:Nat} (hp:p < n) (h:g∈lg f n p):g < n:=by
 unfold lg at h
 split at h
 ·obtain ⟨q,hq,rfl⟩:=List.mem_map.mp h
  exact wn G q (G p hp q hq)
 ·cases h
end
structure PS where
 left:List Nat
 led:List Nat
 on:Option Nat
noncomputable def yi (f:Nat→Vw) (n:Nat) (on:Option Nat) (p:Nat):Bool:=match on with
 | some q=>decide (Ed f n q=p)
 | none=>false
noncomputable def bg (f:Nat→Vw) (n q:Nat):List Nat:=if (f (Ed f n q)).tel=true then [] else [Ed f n q]
noncomputable def Fm (f:Nat→Vw) (n:Nat) (S:PS) (p:Nat):PS:=⟨S.left++[p],(lg f n p).foldl ins S.led,if ((f p).lead || (f p).tel)=true then none else some (p + 1)⟩
noncomputable def brid (f:Nat→Vw) (n:Nat) (S:PS) (p:Nat):PS:=match S.on with
 | some q=>if yi f n S.on p=true then S else ⟨S.left++[q],(bg f n q).foldl ins S.led,S.on⟩
 | none=>S
noncomputable def turn (f:Nat→Vw) (n:Nat) (S:PS) (p:Nat):PS:=if yi f n S.on p=true∨p∈S.led then Fm f n (brid f n S p) p else S
noncomputable def stg (f:Nat→Vw) (n:Nat):Nat→PS
 | 0=>⟨[],[],some 0⟩
 | p + 1=>if Ed f n p=p then turn f n (stg f n p) p else stg f n p
noncomputable def Vw.plain (v:Vw):Bool:=!(v.lead || v.tel)
end K31
set_option Elab.async false
set_option linter.all false
set_option maxRecDepth 100000
set_option maxHeartbeats 1000000
namespace K31
open PySem PySem.Spec PyProof.Rows L2 M
theorem U8 {l r:List Nat} {x:Nat} (h:x∈l):(l++r).idxOf x=l.idxOf x:=by rw [List.idxOf_append,if_pos h]
theorem zt {l r:List Nat} {x:Nat} (h:x∉l):(l++x::r).idxOf x=l.length:=by rw [List.idxOf_append,if_neg h,List.idxOf_cons_self,Nat.zero_add]
inductive El (f:Nat→Vw) (n:Nat) (S:PS) (x:Nat):Prop
 | last:Ed f n x=x→(f x).plain=true→S.on=some (x + 1)→El f n S x
 | next (y:Nat):Ed f n x=x→(f x).plain=true→y∈S.left→S.left.idxOf y=S.left.idxOf x + 1→(y=Ed f n (x + 1)∨(y=x + 1∧Ed f n (x + 1)≠x + 1))→El f n S x
 | tl:Ed f n x=x→(f x).tel=true→El f n S x
 | br (k m:Nat):Ed f n x=x→f x=.br k m→Ed f n (x + 1 + k)≠Ed f n (x + 1 + m)→Ed f n (x + 1 + k)∈S.led→Ed f n (x + 1 + m)∈S.led→El f n S x
 | brid (y:Nat):Ed f n x≠x→y∈S.left→S.left.idxOf y=S.left.idxOf x + 1→y < Ed f n x→((f (Ed f n x)).tel=true∨Ed f n x∈S.led)→El f n S x
inductive Rc (f:Nat→Vw) (n:Nat) (left:List Nat) (x:Nat):Prop
 | zero:left.idxOf x=0→Rc f n left x
 | plain (y:Nat):y∈left→y < x→Ed f n y=y→(f y).plain=true→left.idxOf x=left.idxOf y + 1→Rc f n left x
 | led (y:Nat):y∈left→y < x→Ed f n y=y→x∈lg f n y→Rc f n left x
 | brid (y:Nat):y∈left→y < x→Ed f n y≠y→(f (Ed f n y)).tel=false→x=Ed f n y→Rc f n left x
structure Iv (f:Nat→Vw) (n p:Nat) (S:PS):Prop where
 inc:S.left.Pairwise (· < ·)
 bd:∀ x∈S.left,x < p
 led:∀ g∈S.led,Ed f n g=g∧g < n∧(g < p→g∈S.left)∧∃ y∈S.left,y < g∧((Ed f n y=y∧g∈lg f n y)∨(Ed f n y≠y∧(f (Ed f n y)).tel=false∧g=Ed f n y))
 on:∀ q,S.on=some q→q≤p∧p≤Ed f n q∧q < n∧(∀ z∈S.left,z < q)∧((q=0∧S.left=[])∨∃ x∈S.left,q=x + 1∧S.left.idxOf x + 1=S.left.length∧Ed f n x=x∧(f x).plain=true)
 non:S.on=none→S.left≠[]
 hd:∀ x,S.left.head? =some x→x=Ed f n 0
 el:∀ x∈S.left,El f n S x
 rc:∀ x∈S.left,Rc f n S.left x
section
variable {f:Nat→Vw} {n:Nat}
theorem El.mono {S S':PS} {x:Nat} (h:El f n S x) (r:List Nat) (hl:S'.left=S.left++r) (hd:∀ g∈S.led,g∈S'.led) (hx:x∈S.left) (h0:S.on=some (x + 1)→S'.on=some (x + 1)):El f n S' x:=by
 cases h with
 | last a b c=>exact .last a b (h0 c)
 | next y a b c d e=>exact .next y a b (by rw [hl];exact List.mem_append_left _ c) (by rw [hl,U8 c,U8 hx];exact d) e
 | tl a b=>exact .tl a b
 | br k m a b c d e=>exact .br k m a b c (hd _ d) (hd _ e)
 | brid y a b c d e=>exact .brid y a (by rw [hl];exact List.mem_append_left _ b) (by rw [hl,U8 b,U8 hx];exact c) d (e.imp id (hd _))
theorem Rc.mono {l:List Nat} {x:Nat} (h:Rc f n l x) (r:List Nat) (hx:x∈l):Rc f n (l++r) x:=by
 cases h with
 | zero a=>exact .zero (by rw [U8 hx];exact a)
 | plain y a b c d e=>exact .plain y (List.mem_append_left _ a) b c d (by rw [U8 a,U8 hx];exact e)
 | led y a b c d=>exact .led y (List.mem_append_left _ a) b c d
 | brid y a b c d e=>exact .brid y (List.mem_append_left _ a) b c d e
theorem Iv.zero (hn:0 < n):Iv f n 0 (stg f n 0):=by
 refine ⟨.nil,fun x h=>(nomatch h),fun g h=>(nomatch h),fun q e=>?_,fun e=>(nomatch e),fun x e=>(nomatch e),fun x h=>(nomatch h),fun x h=>(nomatch h)⟩
 cases e
 exact ⟨Nat.le_refl _,Nat.zero_le _,hn,fun z h=>(nomatch h),.inl ⟨rfl,rfl⟩⟩
theorem Iv.skip {p:Nat} {S:PS} (I:Iv f n p S) (h1:∀ q,S.on=some q→Ed f n q≠p) (h2:p∉S.led):Iv f n (p + 1) S:=by
 refine ⟨I.inc,fun x h=>by have:=I.bd x h;omega,fun g hg=>?_,fun q e=>?_,I.non,I.hd,I.el,I.rc⟩
 ·obtain ⟨a,b,c,d⟩:=I.led g hg
  refine ⟨a,b,fun h=>?_,d⟩
  have:g≠p:=fun z=>h2 (z ▸ hg)
  exact c (by omega)
 ·obtain ⟨a,b,c,d⟩:=I.on q e
  have:=h1 q e
  exact ⟨by omega,by omega,c,d⟩
theorem Vq {p:Nat} {S:PS} (I:Iv f n p S) (h:Ed f n p≠p):Iv f n (p + 1) S:=I.skip (fun q e z=>h (by rw [← z];exact Q9 q)) fun z=>h (I.led p z).1
theorem Iv.put {p:Nat} {S1:PS} (G:In f n) (hp:p < n) (ho:Ed f n p=p)
  (inc:S1.left.Pairwise (· < ·)) (bd:∀ x∈S1.left,x < p)
  (led:∀ g∈S1.led,Ed f n g=g∧g < n∧(g < p→g∈S1.left)∧∃ y∈S1.left,y < g∧((Ed f n y=y∧g∈lg f n y)∨(Ed f n y≠y∧(f (Ed f n y)).tel=false∧g=Ed f n y)))
  (hd:∀ x,(S1.left++[p]).head? =some x→x=Ed f n 0)
  (el:∀ x∈S1.left,El f n (Fm f n S1 p) x) (rc:∀ x∈S1.left++[p],Rc f n (S1.left++[p]) x):Iv f n (p + 1) (Fm f n S1 p):=by
 have hnp:p∉S1.left:=fun z=>by have:=bd p z;omega
 refine ⟨?_,?_,?_,?_,?_,hd,?_,rc⟩
 ·show (S1.left++[p]).Pairwise (· < ·)
  rw [List.pairwise_append]
  exact ⟨inc,by simp,fun a ha b hb=>by cases List.mem_singleton.mp hb;exact bd a ha⟩
 ·intro x hx
  rcases List.mem_append.mp hx with h | h
  ·have:=bd x h;omega
  ·cases List.mem_singleton.mp h;omega
 ·intro g hg
  rcases Jw.mp hg with h | h
  ·obtain ⟨a,b,c,y,hy,hl,d⟩:=led g h
   refine ⟨a,b,fun z=>?_,y,List.mem_append_left _ hy,hl,d⟩
   by_cases e:g=p
   ·rw [e];exact List.mem_append_right _ (List.mem_singleton.mpr rfl)
   ·exact List.mem_append_left _ (c (by omega))
  ·obtain ⟨a,b⟩:=a80 h
   exact ⟨a,ag8 G hp h,fun z=>by omega,p,List.mem_append_right _ (List.mem_singleton.mpr rfl),b,.inl ⟨ho,h⟩⟩
 ·intro q e
  have e:(if ((f p).lead || (f p).tel)=true then none else some (p + 1))=some q:=e
  split at e
  ·cases e
  ·rename_i hn
   cases e
   have hlt:p + 1 < n:=G p hp _ (by cases h:f p <;> first | (rw [h] at hn;exact absurd rfl hn) | simp [Vw.goals])
   refine ⟨Nat.le_refl _,X4 _,hlt,fun z hz=>?_,.inr ⟨p,List.mem_append_right _ (List.mem_singleton.mpr rfl),rfl,?_,ho,?_⟩⟩
   ·rcases List.mem_append.mp hz with h | h
    ·have:=bd z h;omega
    ·cases List.mem_singleton.mp h;omega
   ·show (S1.left++[p]).idxOf p + 1=(S1.left++[p]).length
    rw [zt hnp];simp
   ·show (!((f p).lead || (f p).tel))=true
    rw [Bool.not_eq_true] at hn
    rw [hn];rfl
 ·intro _ z
  have:(S1.left++[p])=[]:=z
  simp at this
 ·intro x hx
  rcases List.mem_append.mp hx with h | h
  ·exact el x h
  ·cases List.mem_singleton.mp h
   cases hv:(f p).lead with
   | true =>
    obtain ⟨k,m,e,ne⟩:=Vt hp ho hv
    have:lg f n p=[Ed f n (p + 1 + k),Ed f n (p + 1 + m)]:=by unfold lg;rw [if_pos hv,e];rfl
    exact .br k m ho e ne (Jw.mpr (.inr (by rw [this];simp))) (Jw.mpr (.inr (by rw [this];simp)))
   | false =>
    cases ht:(f p).tel with
    | true=>exact .tl ho ht
    | false=>exact .last ho (by unfold Vw.plain;rw [hv,ht];rfl) (by show (if ((f p).lead || (f p).tel)=true then none else some (p + 1))=_;rw [hv,ht];rfl)
theorem du {l:List Nat} {p:Nat} (h:∃ y∈l,y < p∧((Ed f n y=y∧p∈lg f n y)∨(Ed f n y≠y∧(f (Ed f n y)).tel=false∧p=Ed f n y))) (r:List Nat):Rc f n (l++r) p:=by
 obtain ⟨y,hy,hl,h | h⟩:=h
 ·exact .led y (List.mem_append_left _ hy) hl h.1 h.2
 ·exact .brid y (List.mem_append_left _ hy) hl h.1 h.2.1 h.2.2
theorem Iv.turn {p:Nat} {S:PS} (I:Iv f n p S) (G:In f n) (hp:p < n) (ho:Ed f n p=p):Iv f n (p + 1) (turn f n S p):=by
 unfold K31.turn
 by_cases ht:yi f n S.on p=true∨p∈S.led
 ·rw [if_pos ht]
  have hnp:p∉S.left:=fun z=>by have:=I.bd p z;omega
  cases hon:S.on with
  | none =>
   have hl:p∈S.led:=ht.resolve_left (by rw [hon];exact fun z=>nomatch z)
   have e1:brid f n S p=S:=by unfold brid;rw [hon]
   rw [e1]
   have ne:=I.non hon
   refine Iv.put G hp ho I.inc I.bd I.led (fun x e=>I.hd x ?_) (fun x hx=>(I.el x hx).mono [p] rfl (fun g hg=>Jw.mpr (.inl hg)) hx (by rw [hon];exact fun z=>nomatch z)) fun x hx=>?_
   ·cases hq:S.left with
    | nil=>exact absurd hq ne
    | cons a t=>rw [hq] at e;exact e
   ·rcases List.mem_append.mp hx with h | h
    ·exact (I.rc x h).mono _ h
    ·cases List.mem_singleton.mp h
     exact du (I.led p hl).2.2.2 _
  | some q =>
   obtain ⟨o1,o2,o3,o4,o5⟩:=I.on q hon
   by_cases hh:Ed f n q=p
   ·have e1:brid f n S p=S:=by unfold brid yi;rw [hon];dsimp only;rw [if_pos (by simpa using hh)]
    rw [e1]
    refine Iv.put G hp ho I.inc I.bd I.led (fun x e=>?_) (fun x hx=>?_) fun x hx=>?_
    ·rcases o5 with ⟨z1,z2⟩ | ⟨y,hy,_⟩
     ·rw [z2] at e;cases e;rw [← hh,z1]
     ·refine I.hd x ?_
      cases hq:S.left with
      | nil=>rw [hq] at hy;cases hy
      | cons a t=>rw [hq] at e;exact e
    ·by_cases hz:S.on=some (x + 1)
     ·rw [hon] at hz
      cases hz
      rcases o5 with ⟨z1,z2⟩ | ⟨y,hy,a,b,c,d⟩
      ·rw [z2] at hx;cases hx
      ·have:y=x:=by omega
       subst this
       refine .next p c d (List.mem_append_right _ (List.mem_singleton.mpr rfl)) ?_ (.inl hh.symm)
       show (S.left++[p]).idxOf p=(S.left++[p]).idxOf y + 1
       rw [zt hnp,U8 hy,b]
     ·exact (I.el x hx).mono [p] rfl (fun g hg=>Jw.mpr (.inl hg)) hx fun z=>absurd z hz
    ·rcases List.mem_append.mp hx with h | h
     ·exact (I.rc x h).mono _ h
     ·cases List.mem_singleton.mp h
      rcases o5 with ⟨z1,z2⟩ | ⟨y,hy,a,b,c,d⟩
      ·exact .zero (by rw [zt hnp,z2];rfl)
      ·exact .plain y (List.mem_append_left _ hy) (I.bd y hy) c d (by rw [zt hnp,U8 hy,b])
   ·have hl:p∈S.led:=ht.resolve_left (by rw [hon];show ¬ decide (Ed f n q=p)=true;simpa using hh)
    have e1:brid f n S p=⟨S.left++[q],(bg f n q).foldl ins S.led,some q⟩:=by unfold brid yi;rw [hon];dsimp only;rw [if_neg (by simpa using hh)]
    rw [e1]
    have qp:q < p:=by
     by_cases z:q=p
     ·exact absurd (z ▸ ho) hh
     ·omega
    have pe:p < Ed f n q:=by omega
    have qo:Ed f n q≠q:=by omega
    have hnq:q∉S.left:=fun z=>by have:=o4 q z;omega
    obtain ⟨y,hy,a,b,c,d⟩:∃ x∈S.left,q=x + 1∧S.left.idxOf x + 1=S.left.length∧Ed f n x=x∧(f x).plain=true:=by
     rcases o5 with ⟨z1,z2⟩ | h
     ·obtain ⟨_,_,_,w,hw,_⟩:=I.led p hl
      rw [z2] at hw;cases hw
     ·exact h
    have hnp2:p∉S.left++[q]:=fun z=>by
     rcases List.mem_append.mp z with h | h
     ·exact hnp h
     ·have:=List.mem_singleton.mp h;omega
    have mq:q∈S.left++[q]:=List.mem_append_right _ (List.mem_singleton.mpr rfl)
    have ldE:∀ g∈(bg f n q).foldl ins S.led,g∈S.led∨((f (Ed f n q)).tel=false∧g=Ed f n q):=fun g hg=>by
     rcases Jw.mp hg with h | h
     ·exact .inl h
     ·unfold bg at h
      split at h
      ·cases h
      ·rename_i hz;exact .inr ⟨by simpa using hz,List.mem_singleton.mp h⟩
    refine Iv.put G hp ho ?_ (fun x hx=>?_) (fun g hg=>?_) (fun x e=>?_) (fun x hx=>?_) fun x hx=>?_
    ·show (S.left++[q]).Pairwise (· < ·)
     rw [List.pairwise_append]
     exact ⟨I.inc,by simp,fun a ha b hb=>by cases List.mem_singleton.mp hb;exact o4 a ha⟩
    ·rcases List.mem_append.mp hx with h | h
     ·exact I.bd x h
     ·cases List.mem_singleton.mp h;exact qp
    ·rcases ldE g hg with h | ⟨h1,h2⟩
     ·obtain ⟨a1,a2,a3,w,hw,hl',d1⟩:=I.led g h
      exact ⟨a1,a2,fun z=>List.mem_append_left _ (a3 z),w,List.mem_append_left _ hw,hl',d1⟩
     ·subst h2
      exact ⟨Q9 q,wn G q o3,fun z=>by omega,q,mq,by omega,.inr ⟨qo,h1,rfl⟩⟩
    ·refine I.hd x ?_
     cases hq:S.left with
     | nil=>rw [hq] at hy;cases hy
     | cons a t =>
      have e:((S.left++[q])++[p]).head? =some x:=e
      rw [hq] at e;exact e
    ·have hl0:(Fm f n ⟨S.left++[q],(bg f n q).foldl ins S.led,some q⟩ p).left=S.left++[q,p]:=by show S.left++[q]++[p]=_;simp
     rcases List.mem_append.mp hx with h | h
     ·by_cases hz:S.on=some (x + 1)
      ·rw [hon] at hz
       cases hz
       have:y=x:=by omega
       subst this
       refine .next (y + 1) c d (by rw [hl0];simp) ?_ (.inr ⟨rfl,qo⟩)
       rw [hl0,zt hnq,U8 hy,b]
      ·exact (I.el x h).mono [q,p] hl0 (fun g hg=>Jw.mpr (.inl (Jw.mpr (.inl hg)))) h fun z=>absurd z hz
     ·cases List.mem_singleton.mp h
      refine .brid p qo (by rw [hl0];simp) ?_ pe ?_
      ·show (S.left++[q]++[p]).idxOf p=(S.left++[q]++[p]).idxOf q + 1
       rw [zt hnp2,U8 mq,zt hnq];simp
      ·cases ht:(f (Ed f n q)).tel with
       | true=>exact .inl rfl
       | false=>exact .inr (Jw.mpr (.inl (Jw.mpr (.inr (by unfold bg;rw [ht];simp)))))
    ·rcases List.mem_append.mp hx with h | h
     ·rcases List.mem_append.mp h with h' | h'
      ·have:=(I.rc x h').mono ([q]++[p]) h'
       rw [← List.append_assoc] at this
       exact this
      ·cases List.mem_singleton.mp h'
       refine .plain y (List.mem_append_left _ (List.mem_append_left _ hy)) (by omega) c d ?_
       rw [U8 mq,zt hnq,List.append_assoc,U8 hy,b]
     ·cases List.mem_singleton.mp h
      have:=du (I.led p hl).2.2.2 ([q]++[p])
      rw [← List.append_assoc] at this
      exact this
 ·rw [if_neg ht]
  refine I.skip (fun q e z=>ht (.inl ?_)) fun z=>ht (.inr z)
  rw [e]
  show decide (Ed f n q=p)=true
  simpa using z
theorem Iv.stg (G:In f n) (hn:0 < n):∀ p,p≤n→Iv f n p (stg f n p)
 | 0,_=>Iv.zero hn
 | p + 1,h=>by
  have I:=Iv.stg G hn p (by omega)
  unfold K31.stg
  split
  ·exact I.turn G (by omega) ‹_›
  ·exact Vq I ‹_›
end
end K31
set_option Elab.async false
set_option linter.all false
set_option maxRecDepth 100000
set_option maxHeartbeats 1000000
namespace K31
open PySem PySem.Spec PyProof.Rows L2 M
noncomputable def nv (f:Nat→Vw) (n:Nat) (L:List Nat) (x:Nat):Vw :=
 if Ed f n x=x then (match f x with
  | .br k m=>.br (L.idxOf (Ed f n (x + 1 + k)) - (L.idxOf x + 1)) (L.idxOf (Ed f n (x + 1 + m)) - (L.idxOf x + 1))
  | v=>v)
 else if (f (Ed f n x)).tel=true then .tl else .jp (L.idxOf (Ed f n x) - (L.idxOf x + 1))
noncomputable def isJ:Vw→Bool
 | .jp _=>true
 | _=>false
theorem Aq {v:Vw} (h:v.tel=true):v=.tl:=by cases v <;> first | rfl | cases h
inductive Nw (f:Nat→Vw) (n:Nat) (L:List Nat) (x:Nat):Prop
 | pl (y:Nat):Ed f n x=x→(f x).plain=true→nv f n L x=f x→y∈L→L.idxOf y=L.idxOf x + 1→(y=Ed f n (x + 1)∨y=x + 1)→Nw f n L x
 | tl:Ed f n x=x→(f x).tel=true→nv f n L x=.tl→Nw f n L x
 | br (k m:Nat):Ed f n x=x→f x=.br k m→Ed f n (x + 1 + k)∈L→Ed f n (x + 1 + m)∈L→Ed f n (x + 1 + k)≠Ed f n (x + 1 + m)→L.idxOf x < L.idxOf (Ed f n (x + 1 + k))→L.idxOf x < L.idxOf (Ed f n (x + 1 + m)) →
   nv f n L x=.br (L.idxOf (Ed f n (x + 1 + k)) - (L.idxOf x + 1)) (L.idxOf (Ed f n (x + 1 + m)) - (L.idxOf x + 1))→Nw f n L x
 | bt:Ed f n x≠x→(f (Ed f n x)).tel=true→nv f n L x=.tl→Nw f n L x
 | bj:Ed f n x≠x→(f (Ed f n x)).tel=false→Ed f n x∈L→L.idxOf x + 1 < L.idxOf (Ed f n x)→nv f n L x=.jp (L.idxOf (Ed f n x) - (L.idxOf x + 1))→Nw f n L x
theorem Vb {L:List Nat} {i:Nat} (hn:L.Nodup) (h:i < L.length):L.idxOf (L.getD i 0)=i:=by
 rw [List.getD_eq_getElem?_getD,List.getElem?_eq_getElem h]
 exact hn.idxOf_getElem i h
theorem Qp {L:List Nat} {x:Nat} (h:x∈L):L.getD (L.idxOf x) 0=x:=by
 have:=List.idxOf_lt_length_of_mem h
 rw [List.getD_eq_getElem?_getD,List.getElem?_eq_getElem this]
 exact List.getElem_idxOf this
theorem vm {L:List Nat} {i:Nat} (h:i < L.length):L.getD i 0∈L:=by
 rw [List.getD_eq_getElem?_getD,List.getElem?_eq_getElem h]
 exact List.getElem_mem h
theorem Vc {L:List Nat} (hi:L.Pairwise (· < ·)) {x y:Nat} (hx:x∈L) (hy:y∈L) (h:x < y):L.idxOf x < L.idxOf y:=by
 have lx:=List.idxOf_lt_length_of_mem hx
 have ly:=List.idxOf_lt_length_of_mem hy
 have ex:=List.getElem_idxOf lx
 have ey:=List.getElem_idxOf ly
 rcases Nat.lt_trichotomy (L.idxOf x) (L.idxOf y) with h1 | h1 | h1
 ·exact h1
 ·have:x=y:=by rw [← ex,← ey];simp only [h1]
  omega
 ·have:=List.pairwise_iff_getElem.mp hi _ _ ly lx h1
  rw [ex,ey] at this
  omega
theorem a92 {L:List Nat} {x y:Nat} (hx:x∈L) (hy:y∈L) (h:L.idxOf x=L.idxOf y):x=y:=by rw [← Qp hx,← Qp hy,h]
section
variable {f:Nat→Vw} {n:Nat} {S:PS}
theorem Iv.off (G:In f n) (I:Iv f n n S):S.on=none:=by
 cases h:S.on with
 | none=>rfl
 | some q =>
  obtain ⟨_,a,b,_⟩:=I.on q h
  have:=wn G q b
  omega
theorem Iv.nd (I:Iv f n n S):S.left.Nodup:=I.inc.imp fun h=>Nat.ne_of_lt h
theorem Iv.nw (G:In f n) (I:Iv f n n S) {x:Nat} (hx:x∈S.left):Nw f n S.left x:=by
 have off:=I.off G
 cases I.el x hx with
 | last _ _ c=>rw [off] at c;cases c
 | next y a b c d e =>
  refine .pl y a b ?_ c d (e.imp id fun h=>h.1)
  unfold nv
  rw [if_pos a]
  cases h:f x <;> first | rfl | (rw [h] at b;cases b)
 | tl a b =>
  refine .tl a b ?_
  unfold nv
  rw [if_pos a]
  cases h:f x <;> first | rfl | (rw [h] at b;cases b)
 | br k m a b c d e =>
  have l1:=I.led _ d
  have l2:=I.led _ e
  have m1:=l1.2.2.1 l1.2.1
  have m2:=l2.2.2.1 l2.2.1
  have g1:=X4 (f:=f) (n:=n) (x + 1 + k)
  have g2:=X4 (f:=f) (n:=n) (x + 1 + m)
  refine .br k m a b m1 m2 c (Vc I.inc hx m1 (by omega)) (Vc I.inc hx m2 (by omega)) ?_
  unfold nv
  rw [if_pos a,b]
 | brid y a b c d e =>
  cases ht:(f (Ed f n x)).tel with
  | true =>
   refine .bt a ht ?_
   unfold nv
   rw [if_neg a,if_pos ht]
  | false =>
   have hl:=e.resolve_left (by rw [ht];exact fun z=>nomatch z)
   have l1:=I.led _ hl
   have m1:=l1.2.2.1 l1.2.1
   refine .bj a ht m1 (by rw [← c];exact Vc I.inc b m1 d) ?_
   unfold nv
   rw [if_neg a,if_neg (by rw [ht];exact fun z=>nomatch z)]
theorem Nw.ownJ {L:List Nat} {x:Nat} (h:Nw f n L x) (ho:Ed f n x=x):isJ (nv f n L x)=false∧((nv f n L x).tel=true→(f x).tel=true):=by
 cases h with
 | pl y a b c=>rw [c];cases hv:f x <;> first | exact ⟨rfl,fun h=>h⟩ | (rw [hv] at b;cases b)
 | tl a b c=>rw [c];exact ⟨rfl,fun _=>b⟩
 | br k m a b c d e g g' i=>rw [i];exact ⟨rfl,fun h=>nomatch h⟩
 | bt a=>exact absurd ho a
 | bj a=>exact absurd ho a
theorem Nw.go {L:List Nat} {x:Nat} (h:Nw f n L x):∀ i∈(nv f n L x).goals (L.idxOf x),∃ y∈L,i=L.idxOf y∧((Ed f n x=x∧(f x).plain=true∧nv f n L x=f x∧i=L.idxOf x + 1∧(y=Ed f n (x + 1)∨y=x + 1))∨(Ed f n y=y∧((∃ q∈(f x).goals x,y=Ed f n q)∨y=Ed f n x)∧(nv f n L x).lead=true∧(isJ (nv f n L x)=true→(f y).tel=false∧L.idxOf x + 1 < i))):=by
 intro i hi
 cases h with
 | pl y a b c d e g =>
  rw [c] at hi ⊢
  have:i=L.idxOf x + 1:=by cases hv:f x <;> rw [hv] at hi b <;> first | exact List.mem_singleton.mp hi | cases b
  exact ⟨y,d,by rw [this,e],.inl ⟨a,b,rfl,this,g⟩⟩
 | tl a b c=>rw [c] at hi;cases hi
 | bt a b c=>rw [c] at hi;cases hi
 | br k m a b c d e g1 g2 j =>
  rw [j] at hi ⊢
  simp only [Vw.goals,List.mem_cons,List.not_mem_nil,or_false] at hi
  rcases hi with rfl | rfl
  ·exact ⟨_,c,by omega,.inr ⟨Q9 _,.inl ⟨_,by rw [b];simp [Vw.goals],rfl⟩,rfl,fun z=>nomatch z⟩⟩
  ·exact ⟨_,d,by omega,.inr ⟨Q9 _,.inl ⟨_,by rw [b];simp [Vw.goals],rfl⟩,rfl,fun z=>nomatch z⟩⟩
 | bj a b c d j =>
  rw [j] at hi ⊢
  have:i=L.idxOf x + 1 + (L.idxOf (Ed f n x) - (L.idxOf x + 1)):=List.mem_singleton.mp hi
  exact ⟨_,c,by omega,.inr ⟨Q9 _,.inr rfl,rfl,fun _=>⟨b,by omega⟩⟩⟩
structure Tg (g:Nat→Vw) (m:Nat):Prop where
 io:In g m
 jj:∀ i < m,(g i).lead=true→∀ q∈(g i).goals i,isJ (g q)=false
 j0:∀ i < m,∀ k,g i=.jp k→1≤k∧(g (i + 1 + k)).tel=false
 bb:∀ i < m,∀ a b,g i=.br a b→a≠b
 rc:∀ i < m,i=0∨∃ j < i,i∈(g j).goals j
noncomputable def gN' (f:Nat→Vw) (n:Nat) (L:List Nat):Nat→Vw:=fun i=>nv f n L (L.getD i 0)
theorem Iv.tg (G:In f n) (I:Iv f n n S):Tg (gN' f n S.left) S.left.length:=by
 have nw:∀ i < S.left.length,Nw f n S.left (S.left.getD i 0):=fun i h=>I.nw G (vm h)
 have go:∀ i < S.left.length,∀ q∈(gN' f n S.left i).goals i,_:=fun i h q hq=>(nw i h).go q (by rw [Vb I.nd h];exact hq)
 refine ⟨fun i h q hq=>?_,fun i h hl q hq=>?_,fun i h k e=>?_,fun i h a b e=>?_,fun i h=>?_⟩
 ·obtain ⟨y,hy,rfl,_⟩:=go i h q hq
  exact List.idxOf_lt_length_of_mem hy
 ·obtain ⟨y,hy,rfl,c⟩:=go i h q hq
  unfold gN' at hl ⊢
  rw [Qp hy]
  rcases c with ⟨a,b,c,_⟩ | ⟨a,_⟩
  ·rw [c] at hl;unfold Vw.plain at b;rw [hl] at b;cases b
  ·exact ((I.nw G hy).ownJ a).1
 ·have hq:i + 1 + k∈(gN' f n S.left i).goals i:=by rw [e];simp [Vw.goals]
  have e':nv f n S.left (S.left.getD i 0)=.jp k:=e
  obtain ⟨y,hy,e1,c⟩:=go i h _ hq
  rcases c with ⟨a,b,c,_⟩ | ⟨a,_,_,d⟩
  ·rw [e'] at c;rw [← c] at b;cases b
  ·obtain ⟨d1,d2⟩:=d (by rw [e'];rfl)
   rw [Vb I.nd h] at d2
   refine ⟨by omega,?_⟩
   rw [e1]
   unfold gN'
   rw [Qp hy]
   cases ht:(nv f n S.left y).tel with
   | false=>rfl
   | true=>rw [((I.nw G hy).ownJ a).2 ht] at d1;cases d1
 ·have e':nv f n S.left (S.left.getD i 0)=.br a b:=e
  intro z
  cases nw i h with
  | pl y a1 b1 c=>rw [e'] at c;rw [← c] at b1;cases b1
  | tl _ _ c=>rw [e'] at c;cases c
  | bt _ _ c=>rw [e'] at c;cases c
  | bj _ _ _ _ c=>rw [e'] at c;cases c
  | br k m a1 b1 c d ne g1 g2 j =>
   rw [e'] at j
   cases j
   exact ne (a92 c d (by omega))
 ·have hx:=vm h
  have hi:=Vb I.nd h
  cases I.rc _ hx with
  | zero a=>exact .inl (by omega)
  | plain y a b c d e =>
   refine .inr ⟨S.left.idxOf y,by omega,?_⟩
   show i∈(nv f n S.left (S.left.getD (S.left.idxOf y) 0)).goals _
   rw [Qp a]
   cases I.nw G a with
   | pl w a1 b1 c1=>rw [c1];cases hv:f y <;> first | (rw [hv] at d;cases d;done) | (simp [Vw.goals];omega)
   | tl _ b1=>unfold Vw.plain at d;rw [b1,Bool.or_true] at d;cases d
   | br k m _ b1=>rw [b1] at d;cases d
   | bt a1=>exact absurd c a1
   | bj a1=>exact absurd c a1
  | led y a b c d =>
   have lt:=Vc I.inc a hx b
   refine .inr ⟨S.left.idxOf y,by omega,?_⟩
   show i∈(nv f n S.left (S.left.getD (S.left.idxOf y) 0)).goals _
   rw [Qp a]
   cases I.nw G a with
   | pl w a1 b1 c1 =>
    unfold lg at d
    split at d
    ·rename_i hz;unfold Vw.plain at b1;rw [hz] at b1;cases b1
    ·cases d
   | tl _ b1 =>
    unfold lg at d
    split at d
    ·rename_i hz;rw [Aq b1] at hz;cases hz
    ·cases d
   | br k m _ b1 m1 m2 ne g1 g2 j =>
    rw [j]
    have:lg f n y=[Ed f n (y + 1 + k),Ed f n (y + 1 + m)]:=by unfold lg;rw [if_pos (by rw [b1];rfl),b1];rfl
    rw [this] at d
    simp only [List.mem_cons,List.not_mem_nil,or_false] at d
    simp only [Vw.goals,List.mem_cons,List.not_mem_nil,or_false]
    rcases d with d | d
    ·left;rw [← d];omega
    ·right;rw [← d];omega
   | bt a1=>exact absurd c a1
   | bj a1=>exact absurd c a1
  | brid y a b c d e =>
   have lt:=Vc I.inc a hx b
   refine .inr ⟨S.left.idxOf y,by omega,?_⟩
   show i∈(nv f n S.left (S.left.getD (S.left.idxOf y) 0)).goals _
   rw [Qp a]
   unfold nv
   rw [if_neg c,if_neg (by rw [d];exact fun z=>nomatch z),← e]
   simp only [Vw.goals,List.mem_singleton]
   omega
end
end K31
set_option Elab.async false
set_option linter.all false
set_option maxRecDepth 100000
set_option maxHeartbeats 1000000
namespace K31
open PySem PySem.Spec PyProof.Rows L2 M
section
variable {f:Nat→Vw} {n k:Nat}
theorem fb {p q:Nat} (h:q∈Ul f k p):∀ m,q∈Ul f k (p + m)
 | 0=>h
 | m + 1=>by rw [← Nat.add_assoc,qb];exact .inl (fb h m)
theorem vg {x y:Nat} (h:x∈Ul f k x) (hk:(f x).isK k=false) (hy:y∈(f x).goals x):y∈Ul f k y:=by
 have h1:y∈Ul f k (x + 1):=qb.mpr (.inr ⟨⟨h,hk⟩,hy⟩)
 have h2:=xa hy
 have:=fb h1 (y - (x + 1))
 rw [show x + 1 + (y - (x + 1))=y by omega] at this
 exact this
theorem ab3:0∈Ul f k 0:=by simp [Ul]
theorem a12 {q:Nat}:∀ {p:Nat},q∈Ul f k p→q=0∨∃ x < p,x∈Ul f k x∧(f x).isK k=false∧q∈(f x).goals x
 | 0,h=>by simp [Ul] at h;exact .inl h
 | p + 1,h=>by
  rcases qb.mp h with h | ⟨⟨a,b⟩,c⟩
  ·rcases a12 h with z | ⟨x,a,b⟩
   ·exact .inl z
   ·exact .inr ⟨x,by omega,b⟩
  ·exact .inr ⟨p,by omega,a,b,c⟩
theorem Ax (p:Nat):p∈Ul f k p→Ed f n p∈Ul f k (Ed f n p):=by
 refine v7 (f:=f) (n:=n) (P:=fun p q=>p∈Ul f k p→q∈Ul f k q) (fun _ _ h=>h) (fun p j _ e i h=>i (vg h (by rw [e];rfl) (by rw [e];simp [Vw.goals]))) (fun p j m _ e i _=>⟨fun _ h=>i (vg h (by rw [e];rfl) (by rw [e];simp [Vw.goals])),fun _ h=>h⟩) p
variable {S:PS}
theorem aj5 (G:In f n) (I:Iv f n n S):∀ i,i < S.left.length→i∈Ul (gN' f n S.left) k i→S.left.getD i 0∈Ul f k (S.left.getD i 0):=by
 intro i
 induction i using Nat.strongRecOn with
 | ind i ih =>
  intro h hu
  rcases a12 hu with z | ⟨j,hj,uj,kj,hg⟩
  ·subst z
   cases hl:S.left with
   | nil=>rw [hl] at h;cases h
   | cons a t =>
    have:=I.hd a (by rw [hl];rfl)
    show a∈Ul f k a
    rw [this]
    exact Ax 0 ab3
  ·have hjl:j < S.left.length:=by omega
   have ux:=ih j hj hjl uj
   have kj:(nv f n S.left (S.left.getD j 0)).isK k=false:=kj
   obtain ⟨y,hy,rfl,c⟩:=(I.nw G (vm hjl)).go i (by rw [Vb I.nd hjl];exact hg)
   rw [Qp hy]
   rcases c with ⟨a,b,c,d,e⟩ | ⟨a,b,c,d⟩
   ·rw [c] at kj
    have u1:=vg ux kj (y:=S.left.getD j 0 + 1) (by cases hv:f (S.left.getD j 0) <;> first | (rw [hv] at b;cases b;done) | simp [Vw.goals])
    rcases e with e | e
    ·rw [e];exact Ax _ u1
    ·rw [e];exact u1
   ·rcases b with ⟨q,hq,e⟩ | e
    ·rw [e]
     refine Ax _ (vg ux ?_ hq)
     cases hv:f (S.left.getD j 0) with
     | kp s =>
      rw [hv] at hq
      by_cases ho:Ed f n (S.left.getD j 0)=S.left.getD j 0
      ·unfold nv at c;rw [if_pos ho,hv] at c;cases c
      ·have:=(Bc ho).1;rw [hv] at this;cases this
     | _=>rfl
    ·rw [e];exact Ax _ ux
noncomputable def U9 (f:Nat→Vw) (n:Nat):Prop:=∀ p < n,fl f n p=false
theorem U9.io (h:U9 f n):In f n:=fun p hp g hg=>by
 have:=h p hp
 unfold fl at this
 rw [Bool.or_eq_false_iff] at this
 have:=List.any_eq_false.mp this.2 g hg
 simpa using this
theorem U9.new (h:U9 f n) (I:Iv f n n S):U9 (gN' f n S.left) S.left.length:=by
 intro i hi
 have T:=I.tg h.io
 unfold fl
 rw [Bool.or_eq_false_iff]
 refine ⟨?_,List.any_eq_false.mpr fun g hg=>by have:=T.io i hi g hg;simpa using this⟩
 cases hv:gN' f n S.left i with
 | ft s =>
  show (decide _ && decide _)=false
  rw [Bool.and_eq_false_iff]
  right
  refine decide_eq_false fun hu=>?_
  have hx:=vm hi
  have hv:nv f n S.left (S.left.getD i 0)=.ft s:=hv
  have e:f (S.left.getD i 0)=.ft s:=by
   unfold nv at hv
   split at hv
   ·cases q:f (S.left.getD i 0) <;> rw [q] at hv <;> first | exact hv | cases hv
   ·split at hv <;> cases hv
  have u:=aj5 h.io I i hi hu
  have:=h _ (I.bd _ hx)
  unfold fl at this
  rw [e] at this
  simp only [zx,K4 u,u,decide_true,Bool.and_true,Bool.true_or] at this
  cases this
 | _=>rfl
end
section
variable {g:Nat→Vw} {m:Nat}
theorem Tg.own (T:Tg g m):∀ i,i < m→isJ (g i)=false→Ed g m i=i:=by
 have go:∀ j i,m - i≤j→i < m→isJ (g i)=false→Ed g m i=i:=by
  intro j
  induction j with
  | zero=>intro i a b;omega
  | succ j ih =>
   intro i hj h hn
   cases e:g i with
   | br a b =>
    have ga:i + 1 + a∈(g i).goals i:=by rw [e];simp [Vw.goals]
    have gb:i + 1 + b∈(g i).goals i:=by rw [e];simp [Vw.goals]
    have ea:=ih (i + 1 + a) (by omega) (T.io i h _ ga) (T.jj i h (by rw [e];rfl) _ ga)
    have eb:=ih (i + 1 + b) (by omega) (T.io i h _ gb) (T.jj i h (by rw [e];rfl) _ gb)
    rw [kr h e,ea,eb,if_neg (by have:=T.bb i h a b e;omega)]
   | jp a=>rw [e] at hn;cases hn
   | _=>exact kt (by rw [e];rfl)
 exact fun i=>go (m - i) i (Nat.le_refl _)
theorem Tg.jmp (T:Tg g m) {i k:Nat} (h:i < m) (e:g i=.jp k):Ed g m i=i + 1 + k:=by
 have ga:i + 1 + k∈(g i).goals i:=by rw [e];simp [Vw.goals]
 rw [fj h e]
 exact T.own _ (T.io i h _ ga) (T.jj i h (by rw [e];rfl) _ ga)
theorem Tg.lg (T:Tg g m) {i:Nat} (h:i < m) (hl:(g i).lead=true):lg g m i=(g i).goals i:=by
 unfold K31.lg
 rw [if_pos hl]
 have:∀ q∈(g i).goals i,Ed g m q=q:=fun q hq=>T.own q (T.io i h q hq) (T.jj i h hl q hq)
 exact (List.map_congr_left this).trans (List.map_id _)
structure Ag (g:Nat→Vw) (m p:Nat) (S:PS):Prop where
 left:S.left=List.range' 0 (if 0 < p∧isJ (g (p - 1))=true then p - 1 else p)
 on:S.on=if p=0 then some 0 else if isJ (g (p - 1))=true then some (p - 1) else if ((g (p - 1)).lead || (g (p - 1)).tel)=true then none else some p
 led:∀ j < p,(g j).lead=true→(isJ (g j)=true→j + 1 < p)→∀ q∈(g j).goals j,q∈S.led
theorem Tg.from (T:Tg g m) {p:Nat} (hp:p < m) (h0:0 < p):((g (p - 1)).plain=true)∨∃ j < p,(g j).lead=true∧p∈(g j).goals j:=by
 rcases T.rc p hp with z | ⟨j,hj,hg⟩
 ·omega
 ·cases hl:(g j).lead with
  | true=>exact .inr ⟨j,hj,hl,hg⟩
  | false =>
   left
   have:j=p - 1:=by cases e:g j <;> rw [e] at hg hl <;> simp [Vw.goals,Vw.lead] at hg hl <;> omega
   subst this
   unfold Vw.plain
   rw [hl]
   cases e:g (p - 1) <;> rw [e] at hg <;> first | rfl | (simp [Vw.goals] at hg;done) | (rw [e] at hl;cases hl)
theorem Ag.next (T:Tg g m) {p:Nat} {S:PS} (hp:p < m) (A:Ag g m p S):Ag g m (p + 1) (if Ed g m p=p then turn g m S p else S):=by
 have e0:p + 1 - 1=p:=by omega
 cases hj:isJ (g p) with
 | true =>
  obtain ⟨k,e⟩:∃ k,g p=.jp k:=by cases e:g p <;> first | exact ⟨_,rfl⟩ | (rw [e] at hj;cases hj)
  have ed:=T.jmp hp e
  rw [if_neg (by omega)]
  have pl:p=0∨(g (p - 1)).plain=true:=by
   by_cases z:p=0
   ·exact .inl z
   ·rcases T.from hp (by omega) with h | ⟨j,hj',hl,hg⟩
    ·exact .inr h
    ·have:=T.jj j (by omega) hl p hg
     rw [hj] at this;cases this
  have nj:∀ h:0 < p,isJ (g (p - 1))=false∧((g (p - 1)).lead || (g (p - 1)).tel)=false:=fun h=>by
   have:=pl.resolve_left (by omega)
   cases q:g (p - 1) <;> rw [q] at this <;> first | exact ⟨rfl,rfl⟩ | cases this
  refine ⟨?_,?_,fun j a b c=>?_⟩
  ·rw [e0,if_pos ⟨by omega,hj⟩,A.left]
   by_cases h:0 < p
   ·rw [if_neg (by rw [(nj h).1];simp)]
   ·rw [if_neg (by omega)]
  ·rw [A.on,e0,if_neg (by omega:¬ p + 1=0),if_pos hj]
   by_cases h:p=0
   ·rw [if_pos h,h]
   ·rw [if_neg h,if_neg (by rw [(nj (by omega)).1];simp),if_neg (by rw [(nj (by omega)).2];simp)]
  ·by_cases z:j=p
   ·subst z;have:=c hj;omega
   ·exact A.led j (by omega) b fun q=>by
     by_cases w:j + 1=p
     ·have:=nj (by omega)
      rw [show p - 1=j by omega] at this
      rw [q] at this;cases this.1
     ·omega
 | false =>
  have ed:=T.own p hp hj
  rw [if_pos ed]
  have hn:¬ (0 < p + 1∧isJ (g (p + 1 - 1))=true):=by rw [e0,hj];simp
  have fin:∀ S1:PS,S1.left=List.range' 0 p→(∀ j < p,(g j).lead=true→∀ q∈(g j).goals j,q∈S1.led)→Ag g m (p + 1) (Fm g m S1 p):=fun S1 h1 h2=>by
   refine ⟨?_,?_,fun j a b c q hq=>?_⟩
   ·rw [if_neg hn]
    show S1.left++[p]=_
    rw [h1,List.range'_1_concat,Nat.zero_add]
   ·rw [if_neg (by omega:¬ p + 1=0),e0,if_neg (by rw [hj];simp)]
    rfl
   ·show q∈(K31.lg g m p).foldl ins S1.led
    rw [Jw]
    by_cases z:j=p
    ·subst z;right;rw [T.lg hp b];exact hq
    ·left;exact h2 j (by omega) b q hq
  by_cases h0:p=0
  ·subst h0
   have on:=A.on
   rw [if_pos rfl] at on
   have hh:yi g m S.on 0=true:=by rw [on];show decide (Ed g m 0=0)=true;simpa using ed
   unfold turn
   rw [if_pos (.inl hh)]
   have:brid g m S 0=S:=by unfold brid;rw [on];dsimp only;rw [if_pos (by rw [← on];exact hh)]
   rw [this]
   exact fin S (by have:=A.left;rwa [if_neg (by omega)] at this) fun j a=>by omega
  ·have on:=A.on
   rw [if_neg h0] at on
   have left:=A.left
   cases hj1:isJ (g (p - 1)) with
   | true =>
    obtain ⟨k,e⟩:∃ k,g (p - 1)=.jp k:=by cases e:g (p - 1) <;> first | exact ⟨_,rfl⟩ | (rw [e] at hj1;cases hj1)
    have ed1:=T.jmp (by omega) e
    have k1:=T.j0 (p - 1) (by omega) k e
    rw [if_pos hj1] at on
    rw [if_pos ⟨by omega,hj1⟩] at left
    have hh:¬ yi g m S.on p=true:=by rw [on];show ¬ decide (Ed g m (p - 1)=p)=true;simp;omega
    have hl:p∈S.led:=by
     rcases T.from hp (by omega) with h | ⟨j,hj',hl,hg⟩
     ·rw [e] at h;cases h
     ·refine A.led j hj' hl (fun z=>?_) p hg
      by_cases w:j=p - 1
      ·subst w;rw [e] at hg;simp [Vw.goals] at hg;omega
      ·omega
    unfold turn
    rw [if_pos (.inr hl)]
    have:brid g m S p=⟨S.left++[p - 1],(bg g m (p - 1)).foldl ins S.led,some (p - 1)⟩:=by
     unfold brid
     rw [on]
     dsimp only
     rw [if_neg (by rw [← on];exact hh)]
    rw [this]
    refine fin _ ?_ fun j a b q hq=>?_
    ·show S.left++[p - 1]=_
     rw [left,show p=(p - 1) + 1 by omega,List.range'_1_concat,Nat.zero_add]
     simp
    ·show q∈(bg g m (p - 1)).foldl ins S.led
     rw [Jw]
     by_cases z:j=p - 1
     ·right
      subst z
      rw [e] at hq
      have hq:q=p - 1 + 1 + k:=List.mem_singleton.mp hq
      unfold bg
      rw [ed1,if_neg (by rw [k1.2];exact fun z=>nomatch z),hq]
      exact List.mem_singleton.mpr rfl
     ·left;exact A.led j a b (fun _=>by omega) q hq
   | false =>
    rw [if_neg (by rw [hj1];simp)] at on
    rw [if_neg (by rw [hj1];simp)] at left
    have h2:∀ j < p,(g j).lead=true→∀ q∈(g j).goals j,q∈S.led:=fun j a b q hq=>A.led j a b (fun z=>by
     by_cases w:j=p - 1
     ·subst w;rw [z] at hj1;cases hj1
     ·omega) q hq
    cases hlt:((g (p - 1)).lead || (g (p - 1)).tel) with
    | true =>
     rw [if_pos hlt] at on
     have hl:p∈S.led:=by
      rcases T.from hp (by omega) with h | ⟨j,hj',hl,hg⟩
      ·unfold Vw.plain at h;rw [hlt] at h;cases h
      ·exact h2 j hj' hl p hg
     unfold turn
     rw [if_pos (.inr hl)]
     have:brid g m S p=S:=by unfold brid;rw [on]
     rw [this]
     exact fin S left h2
    | false =>
     rw [if_neg (by rw [hlt];simp)] at on
     have hh:yi g m S.on p=true:=by rw [on];show decide (Ed g m p=p)=true;simpa using ed
     unfold turn
     rw [if_pos (.inl hh)]
     have:brid g m S p=S:=by unfold brid;rw [on];dsimp only;rw [if_pos (by rw [← on];exact hh)]
     rw [this]
     exact fin S left h2
theorem Tg.stay (T:Tg g m) (h0:0 < m):(stg g m m).left=List.range' 0 m:=by
 have go:∀ p,p≤m→Ag g m p (stg g m p):=by
  intro p
  induction p with
  | zero=>intro _;exact ⟨rfl,rfl,fun j a=>by omega⟩
  | succ p ih =>
   intro h
   have:=(ih (by omega)).next T (by omega)
   unfold stg
   exact this
 have A:=(go m (Nat.le_refl _)).left
 rw [if_neg] at A
 ·exact A
 ·rintro ⟨_,z⟩
  cases e:g (m - 1) with
  | jp k =>
   have:=T.io (m - 1) (by omega) (m - 1 + 1 + k) (by rw [e];simp [Vw.goals])
   omega
  | _=>rw [e] at z;cases z
end
end K31
set_option Elab.async false
set_option linter.all false
set_option maxRecDepth 100000
set_option maxHeartbeats 1000000
namespace K31
open PySem PySem.Spec PyProof.Rows L2 M
noncomputable def nK (A:List (Nat×Nat)):List DK:=A.map fun p=>.inl (p.1:Int)
noncomputable def nV (A:List (Nat×Nat)):List D:=A.map fun p=>.int (p.2:Int)
noncomputable def dN (A:List (Nat×Nat)):D:=.dic (nK A) (nV A)
theorem Gg (q:Nat):∀ A:List (Nat×Nat),J7 (nK A) (nV A) (.inl (q:Int))=(List.lookup q A).map fun e=>.int (e:Int)
 | []=>rfl
 | (a,b)::A=>by
  show (if (Sum.inl (a:Int):DK)=.inl (q:Int) then some (D.int b) else J7 (nK A) (nV A) (.inl (q:Int)))=_
  by_cases z:a=q
  ·subst z;rw [if_pos rfl,List.lookup_cons_self];rfl
  ·rw [if_neg (Q7 z),Gg q A,List.lookup_cons,show (q == a)=false from by rw [beq_eq_false_iff_ne];exact fun h=>z h.symm]
theorem get_nC {A:List (Nat×Nat)} {q e:Nat} (h:List.lookup q A=some e):J5 (dN A) (.int q)=some (.int e):=by
 show J7 (nK A) (nV A) (.inl (q:Int))=_
 rw [Gg,h];rfl
theorem V6 {d:D} {v:Vw} (h:Sh d v):∃ x,jz d (.int 0)=some (.str x)∧Zr (.str x) c_LEADING=some (.bl (!v.lead))∧gIn (.str x) c_LEADING=some (.bl v.lead)∧gIn (.str x) c_TELLING=some (.bl v.tel)∧∀ y,Je c_LEADING c_TELLING=some y→gIn (.str x) y=some (.bl (v.lead || v.tel)):=by
 cases h <;> exact ⟨_,rfl,rfl,rfl,rfl,fun y e=>by cases e;rfl⟩
section
variable {ds:List D} {f:Nat→Vw} {n:Nat} {A:List (Nat×Nat)} {e:D} {μ:Mu}
theorem Cq (he:j4 μ e=dN A):∀ (gs:List Nat),(∀ q∈gs,List.lookup q A=some (Ed f n q))→∀ (a:Option D) (acc:List D),jy (gN 0) mTT (mBin J5 (mVar 1) (mVar 0)) (iL gs) [a,some e] μ acc=.ok (acc++iL (gs.map (Ed f n))) μ
 | [],_,_,acc=>by simp [jy,iL]
 | g::gs,h,a,acc=>by
  have e1:mBin J5 (mVar 1) (mVar 0) [some (.int g),some e] μ=.ok (.int (Ed f n g)) μ:=v_bin rfl rfl (by rw [he];exact get_nC (h g (List.mem_cons_self ..)))
  refine (Yf (ds:=iL gs) rfl e1).trans ((Cq he gs (fun q hq=>h q (List.mem_cons_of_mem _ hq)) (some (.int g)) (acc++[.int (Ed f n g)])).trans ?_)
  rw [List.append_assoc,List.singleton_append]
  rfl
theorem v_step {p:Nat} {d:D} {ρ:En} {i j:Nat} (hd:ds[p]? =some d) (h1:ρ[i]? =some (some (.lst ds))) (h2:ρ[j]? =some (some (.int p))):mBin jz (mVar i) (mVar j) ρ μ=.ok d μ:=v_bin (Yu i h1) (Yu j h2) (fe hd)
theorem W1 {p:Nat} {d:D} {x:List Nat} {ρ:En} {i j:Nat} {v:Vw} (hs:Sh d v) (hx:jz d (.int 0)=some (.str x)) (hd:ds[p]? =some d) (h1:ρ[i]? =some (some (.lst ds))) (h2:ρ[j]? =some (some (.int p))):mBin jz (mBin jz (mVar i) (mVar j)) (mC (.int 0)) ρ μ=.ok (.str x) μ :=
 v_bin (v_step hd h1 h2) rfl (by rw [ua hs];exact hx)
theorem g0 {p:Nat} {d:D} (hd:ds[p]? =some d) (hs:Sh d (f p)) (he:j4 μ e=dN A) (hA:∀ q∈(f p).goals p,List.lookup q A=some (Ed f n q)):J8 [.lst ds,e,.int p] μ=.ok (gI (lg f n p)) μ:=by
 obtain ⟨x,x1,x2,_⟩:=V6 hs
 have t1:mTest (mBin Zr (mBin jz (mBin jz (mVar 0) (mVar 2)) (mC (.int 0))) (mC c_LEADING)) [some (.lst ds),some e,some (.int p)] μ=.ok (!(f p).lead) μ:=Jz (v_bin (W1 hs x1 hd rfl rfl) rfl x2)
 unfold lg
 cases hl:(f p).lead with
 | false =>
  rw [hl] at t1
  exact Js 0 (um t1 (V3 v_nil))
 | true =>
  rw [hl] at t1
  rw [if_pos rfl]
  refine Js 0 ((v_skip t1).trans (v_ret ?_))
  unfold jc
  have e0:je (mCall Ju (mCons (mVar 2) (mCons (mBin jz (mVar 0) (mVar 2)) mNil))) [some (.lst ds),some e,some (.int p)] μ=.ok (iL ((f p).goals p)) μ:=Zw (v_call (v_cons rfl (v_cons (v_step hd rfl rfl) v_nil)) (sh_pg hs p μ))
  show ((je (mCall Ju (mCons (mVar 2) (mCons (mBin jz (mVar 0) (mVar 2)) mNil))) [some (.lst ds),some e,some (.int p)] μ).bind _)=_
  rw [e0,bind_ok,if_pos (by have:=ut (f p) p;rw [iL,List.length_map];omega)]
  show (jy (gN 0) mTT _ _ [none,some e] μ []).bind _=_
  rw [Cq he _ hA]
  rfl
end
noncomputable def eA (f:Nat→Vw) (n m:Nat):List (Nat×Nat):=(List.range m).map fun i=>(n - 1 - i,Ed f n (n - 1 - i))
theorem fi (f:Nat→Vw) (n m:Nat):eA f n (m + 1)=eA f n m++[(n - 1 - m,Ed f n (n - 1 - m))]:=by unfold eA;rw [List.range_succ,List.map_append];rfl
theorem cq (q:Nat):∀ (A:List (Nat×Nat)) (r:List (Nat×Nat)),List.lookup q (A++r)=(List.lookup q A).or (List.lookup q r)
 | [],r=>rfl
 | (a,b)::A,r=>by
  rw [List.cons_append,List.lookup_cons,List.lookup_cons]
  cases q == a <;> simp [cq q A r]
theorem v8 {f:Nat→Vw} {n:Nat}:∀ {m q:Nat},m≤n→n - m≤q→q < n→List.lookup q (eA f n m)=some (Ed f n q)
 | 0,q,_,h1,h2=>by omega
 | m + 1,q,hm,h1,h2=>by
  rw [fi,cq]
  by_cases z:n - m≤q
  ·rw [v8 (by omega) z h2];rfl
  ·have e:q=n - 1 - m:=by omega
   subst e
   have:List.lookup (n - 1 - m) (eA f n m)=none:=by
    rw [List.lookup_eq_none_iff]
    intro p hp
    unfold eA at hp
    obtain ⟨i,hi,rfl⟩:=List.mem_map.mp hp
    have:=List.mem_range.mp hi
    simp;omega
   rw [this,List.lookup_cons_self];rfl
theorem aa1 {f:Nat→Vw} {n m:Nat} (hm:m < n):((nK (eA f n m)).any fun k=>decide (k=.inl ((n - 1 - m:Nat):Int)))=false:=by
 rw [List.any_eq_false]
 intro k hk
 unfold nK eA at hk
 rw [List.map_map] at hk
 obtain ⟨i,hi,rfl⟩:=List.mem_map.mp hk
 have:=List.mem_range.mp hi
 simp only [Function.comp,decide_eq_true_eq]
 intro z
 have:=Sum.inl.inj z
 omega
section
variable {ds:List D} {f:Nat→Vw} {μ0:Mu}
noncomputable abbrev cN (A:List (Nat×Nat)):Cell:=.dic (nK A) (nV A)
theorem qw (c:Cell):(μ0++[c])[μ0.length]? =some c:=by rw [List.getElem?_append_right (Nat.le_refl _),Nat.sub_self];rfl
theorem Co (A:List (Nat×Nat)):j4 (μ0++[cN A]) (.ref μ0.length)=dN A:=by
 show (match (μ0++[cN A])[List.length μ0]? with
  | some (.lst ds)=>D.lst ds
  | some (.dic ks vs)=>D.dic ks vs
  | _=>D.ref (List.length μ0))=_
 rw [qw];rfl
theorem ag9 {n p:Nat} (hp:p < n):∃ b,
  (∀ (c0 c1 c2:Option D) (c4:Option D) (μ:Mu),u5 (mBin gGt (mCallB gLen (mCons (mVar 3) mNil)) (mC (.int 0))) (mBin gEq (mBin jz (mVar 3) (mC (.int 0))) (mBin jz (mVar 3) (Yl (mC (.int 1))))) [c0,c1,c2,some (gI (lg f n p)),c4] μ=.ok (.bl b) μ) ∧
  (∀ (c0 c1:Option D) (μ:Mu),mIf (U3 (mVar 4)) (mBin jz (mVar 3) (mC (.int 0))) (mVar 2) [c0,c1,some (.int p),some (gI (lg f n p)),some (.bl b)] μ=.ok (.int (Ed f n p)) μ):=by
 cases e:f p with
 | jp k =>
  refine ⟨true,fun c0 c1 c2 c4 μ=>?_,fun c0 c1 μ=>?_⟩
  ·have:lg f n p=[Ed f n (p + 1 + k)]:=by unfold lg;rw [e];rfl
   rw [this]
   refine (yx rfl).trans (v_bin rfl rfl ?_)
   exact (eqN (Ed f n (p + 1 + k)) (Ed f n (p + 1 + k))).trans (by rw [beq_self_eq_true])
  ·have:lg f n p=[Ed f n (p + 1 + k)]:=by unfold lg;rw [e];rfl
   rw [this,fj hp e]
   rfl
 | br k m =>
  have h1:lg f n p=[Ed f n (p + 1 + k),Ed f n (p + 1 + m)]:=by unfold lg;rw [e];rfl
  refine ⟨Ed f n (p + 1 + k) == Ed f n (p + 1 + m),fun c0 c1 c2 c4 μ=>?_,fun c0 c1 μ=>?_⟩
  ·rw [h1]
   exact (yx rfl).trans (v_bin rfl rfl (eqN _ _))
  ·rw [h1,kr hp e]
   by_cases z:Ed f n (p + 1 + k)=Ed f n (p + 1 + m)
   ·rw [if_pos z,beq_iff_eq.mpr z];rfl
   ·rw [if_neg z,beq_eq_false_iff_ne.mpr z];rfl
 | _ =>
  have h1:lg f n p=[]:=by unfold lg;rw [e];rfl
  refine ⟨false,fun c0 c1 c2 c4 μ=>by rw [h1];rfl,fun c0 c1 μ=>by rw [h1,kt (by rw [e];rfl)];rfl⟩
theorem v_putN {mo mi mv:MX} {ρ:En} {ks:List DK} {vs:List D} {g:Nat} {v:D} (hv:mv ρ (μ0++[.dic ks vs])=.ok v (μ0++[.dic ks vs])) (ho:mo ρ (μ0++[.dic ks vs])=.ok (.ref μ0.length) (μ0++[.dic ks vs])) (hi:mi ρ (μ0++[.dic ks vs])=.ok (.int g) (μ0++[.dic ks vs])) (hl:ks.length < 16777216) :
  Vk mo mi mv ρ (μ0++[.dic ks vs])=.ok (.nx ρ) (μ0++[if (ks.any fun k=>decide (k=.inl (g:Int)))=true then .dic ks (putVs ks vs (.inl (g:Int)) v) else .dic (ks++[.inl (g:Int)]) (vs++[v])]):=by
 unfold Vk
 rw [hv,bind_ok,ho,bind_ok,hi,bind_ok]
 unfold B3
 dsimp only
 rw [qw]
 show (if ks.length < 16777216 then (if (ks.any fun k=>decide (k=.inl (g:Int)))=true then Res.ok (Out.nx ρ) ((μ0++[Cell.dic ks vs]).set μ0.length (.dic ks (putVs ks vs (.inl (g:Int)) v))) else .ok (.nx ρ) ((μ0++[Cell.dic ks vs]).set μ0.length (.dic (ks++[.inl (g:Int)]) (vs++[v])))) else .bad)=_
 rw [if_pos hl,yo,yo]
 split <;> rfl
theorem fk (hc:y9 ds f) (G:In f ds.length) (hn:ds.length < 100000):∀ (r m:Nat),m + r=ds.length→∀ (x2 x3 x4:Option D),∃ y2 y3 y4,Jq (gN 2) Z8 ((List.range' m r).map fun k=>.int ((ds.length - 1 - k:Nat):Int)) [some (.lst ds),some (.ref μ0.length),x2,x3,x4] (μ0++[cN (eA f ds.length m)]) =
  .ok (.nx [some (.lst ds),some (.ref μ0.length),y2,y3,y4]) (μ0++[cN (eA f ds.length ds.length)])
 | 0,m,hm,x2,x3,x4=>⟨x2,x3,x4,by rw [show m=ds.length by omega];rfl⟩
 | r + 1,m,hm,x2,x3,x4=>by
  have hp:ds.length - 1 - m < ds.length:=by omega
  obtain ⟨d,hd⟩:∃ d,ds[ds.length - 1 - m]? =some d:=⟨_,List.getElem?_eq_getElem hp⟩
  obtain ⟨b,b1,b2⟩:=ag9 (f:=f) (n:=ds.length) hp
  obtain ⟨y2,y3,y4,ih⟩:=fk hc G hn r (m + 1) (by omega) (some (.int (ds.length - 1 - m:Nat))) (some (gI (lg f ds.length (ds.length - 1 - m)))) (some (.bl b))
  refine ⟨y2,y3,y4,?_⟩
  rw [List.range'_succ,List.map_cons]
  refine (V2 ?_).trans ih
  have e1:=g0 (n:=ds.length) (A:=eA f ds.length m) hd (hc _ _ hd) (Co (μ0:=μ0) (eA f ds.length m)) fun q hq=>v8 (by omega) (by have:=xa hq;omega) (G _ hp q hq)
  refine (v_set 3 (v_call (v_cons rfl (v_cons rfl (v_cons rfl v_nil))) e1)).trans ((v_set 4 (b1 _ _ _ _ _)).trans ((v_putN (b2 _ _ _) rfl rfl (by rw [nK,List.length_map,eA,List.length_map,List.length_range];omega)).trans ?_))
  rw [if_neg (by rw [aa1 (by omega)];simp)]
  rw [fi]
  show Res.ok _ (μ0++[Cell.dic _ _])=.ok _ (μ0++[Cell.dic _ _])
  unfold nK nV
  rw [List.map_append,List.map_append]
  rfl
theorem aa (hc:y9 ds f) (G:In f ds.length) (hn:ds.length < 100000) (h1:1≤ds.length):zn [.lst ds] μ0=.ok (dN (eA f ds.length ds.length)) (μ0++[.dead]):=by
 obtain ⟨y2,y3,y4,e⟩:=fk (μ0:=μ0) hc G hn ds.length 0 (by omega) none none none
 refine Js 4 ((v_set 1 (m:=Vg) (d:=.ref μ0.length) (μ1:=μ0++[cN (eA f ds.length 0)]) rfl).trans ((v_seqN ((v_for (ds:=(List.range' 0 ds.length).map fun k=>.int ((ds.length - 1 - k:Nat):Int)) ?_).trans e)).trans ?_))
 ·unfold Qf
  rw [show mCons (mBin gSub (mCallB gLen (mCons (mVar 0) mNil)) (mC (.int 1))) (mCons (Yl (mC (.int 1))) (mCons (Yl (mC (.int 1))) mNil)) [some (.lst ds),some (.ref μ0.length),none,none,none] (μ0++[cN (eA f ds.length 0)])=.ok [.int ((ds.length:Int) - 1),.int (-1),.int (-1)] (μ0++[cN (eA f ds.length 0)]) from rfl,bind_ok]
  unfold vh
  dsimp only
  rw [if_pos (by refine ⟨rfl,?_,?_,?_,?_⟩ <;> omega)]
  unfold X7
  rw [show ((ds.length:Int) - 1 - -1).toNat=ds.length by omega,List.range_eq_range']
  show Res.ok _ _=.ok _ _
  congr 1
  refine List.map_congr_left fun k hk=>?_
  have:=(List.mem_range'_1.mp hk).2
  congr 1
  omega
 ·show Q1 1 (ju (mVar 1)) [some (.lst ds),some (.ref μ0.length),y2,y3,y4] (μ0++[cN (eA f ds.length ds.length)])=_
  unfold Q1
  show (match ((μ0++[cN (eA f ds.length ds.length)])[μ0.length]?).bind ae with
   | some d=>ju (mVar 1) (([some (.lst ds),some (.ref μ0.length),y2,y3,y4]:En).set 1 (some d)) ((μ0++[cN (eA f ds.length ds.length)]).set μ0.length .dead)
   | none=>.bad)=_
  rw [qw]
  show ju (mVar 1) [some (.lst ds),some (dN (eA f ds.length ds.length)),y2,y3,y4] ((μ0++[cN (eA f ds.length ds.length)]).set μ0.length .dead)=_
  rw [yo]
  rfl
end
end K31
set_option Elab.async false
set_option linter.all false
set_option maxRecDepth 100000
set_option maxHeartbeats 1000000
namespace K31
open PySem PySem.Spec PyProof.Rows L2 M
noncomputable def own (f:Nat→Vw) (n m r:Nat):List Nat:=(List.range' m r).filter fun p=>decide (Ed f n p=p)
section
variable {ds:List D} {f:Nat→Vw} {n:Nat} {A:List (Nat×Nat)} {e:D} {μ:Mu}
theorem Di (he:j4 μ e=dN A):∀ (r m:Nat),(∀ q,m≤q→q < m + r→List.lookup q A=some (Ed f n q))→∀ (a:Option D) (acc:List D),jy (gN 0) (mTest (mBin gEq (mBin J5 (mVar 1) (mVar 0)) (mVar 0))) (mVar 0) (iL (List.range' m r)) [a,some e] μ acc=.ok (acc++iL (own f n m r)) μ
 | 0,m,_,_,acc=>by simp [jy,iL,own]
 | r + 1,m,h,a,acc=>by
  have e1:mTest (mBin gEq (mBin J5 (mVar 1) (mVar 0)) (mVar 0)) [some (.int m),some e] μ=.ok (Ed f n m == m) μ:=Jz (v_bin (x:=.int (Ed f n m)) (v_bin rfl rfl (by rw [show j4 μ e=dN A from he];exact get_nC (h m (Nat.le_refl _) (by omega)))) rfl (eqN _ _))
  have ih:=Di he r (m + 1) (fun q a b=>h q (by omega) (by omega)) (some (.int m))
  rw [qx,jy,show gN 0 (.int m) [a,some e]=some [some (.int m),some e] from rfl]
  show (noX (mTest (mBin gEq (mBin J5 (mVar 1) (mVar 0)) (mVar 0)) [some (.int m),some e] μ)).bind _=_
  rw [e1]
  show (if (Ed f n m == m)=true then _ else _)=_
  unfold own
  rw [List.range'_succ,List.filter_cons]
  by_cases z:Ed f n m=m
  ·rw [if_pos (beq_iff_eq.mpr z),if_pos (by simpa using z)]
   show jy _ _ _ _ _ _ (acc++[.int m])=_
   rw [ih,List.append_assoc,List.singleton_append]
   rfl
  ·rw [if_neg (by simpa using z),if_neg (by simpa using z),ih]
   rfl
theorem a59 (he:j4 μ e=dN A) (hn:n < 100000) (hA:∀ q,q < n→List.lookup q A=some (Ed f n q)):U4 [e,.int n] μ=.ok (gI (own f n 0 n)) μ:=by
 refine Js 0 (v_ret ?_)
 unfold jc
 rw [Zf (n:=n) rfl (by omega),bind_ok,if_pos (by rw [iL,List.length_map,List.length_range'];omega)]
 show (jy (gN 0) _ _ _ [none,some e] μ []).bind _=_
 rw [Di he n 0 fun q _ h=>hA q (by omega)]
 rfl
end
noncomputable def lK (L:List Nat):List DK:=L.map fun (g:Nat)=>.inl (g:Int)
noncomputable def lV (L:List Nat):List D:=L.map fun _=>.bl true
noncomputable abbrev cL (L:List Nat):Cell:=.dic (lK L) (lV L)
theorem Gf (q:Nat):∀ L:List Nat,(J7 (lK L) (lV L) (.inl (q:Int))).isSome=decide (q∈L)
 | []=>rfl
 | g::L=>by
  show (if (Sum.inl (g:Int):DK)=.inl (q:Int) then some (D.bl true) else J7 (lK L) (lV L) (.inl (q:Int))).isSome=_
  by_cases z:g=q
  ·subst z;rw [if_pos rfl];simp
  ·rw [if_neg (Q7 z),Gf q L]
   have:q≠g:=fun h=>z h.symm
   simp [this]
theorem b0 (q:Nat):∀ L:List Nat,((lK L).any fun k=>decide (k=.inl (q:Int)))=decide (q∈L)
 | []=>rfl
 | g::L=>by
  show (decide ((Sum.inl (g:Int):DK)=.inl (q:Int)) || (lK L).any _)=_
  rw [b0 q L]
  by_cases z:g=q
  ·subst z;simp
  ·rw [decide_eq_false (Q7 z)]
   have:q≠g:=fun h=>z h.symm
   simp [this]
theorem D3 (q:DK):∀ L:List Nat,putVs (lK L) (lV L) q (.bl true)=lV L
 | []=>rfl
 | g::L=>by
  show (if (Sum.inl (g:Int):DK)=q then D.bl true else .bl true)::putVs (lK L) (lV L) q (.bl true)=_
  rw [D3 q L]
  split <;> rfl
section
variable {μ0:Mu}
theorem Gd:∀ (gs L:List Nat) (x1 x2:Option D),L.length + gs.length < 16777216→∃ y2,Jq (gN 2) xi (iL gs) [some (.ref μ0.length),x1,x2] (μ0++[cL L])=.ok (.nx [some (.ref μ0.length),x1,y2]) (μ0++[cL (gs.foldl ins L)])
 | [],L,x1,x2,_=>⟨x2,rfl⟩
 | g::gs,L,x1,x2,h=>by
  rw [List.length_cons] at h
  obtain ⟨y2,ih⟩:=Gd gs (ins L g) x1 (some (.int g)) (by have:=Wl (L:=L) (g:=g);omega)
  refine ⟨y2,(V2 (d:=.int g) (ds:=iL gs) ?_).trans ih⟩
  refine (v_putN (v:=.bl true) rfl rfl rfl (by rw [lK,List.length_map];omega)).trans ?_
  rw [b0,D3]
  unfold ins
  by_cases z:g∈L
  ·rw [if_pos (by simpa using z),if_pos z];rfl
  ·rw [if_neg (by simpa using z),if_neg z]
   show Res.ok _ (μ0++[Cell.dic (lK L++[.inl (g:Int)]) (lV L++[.bl true])])=.ok _ (μ0++[Cell.dic (lK (L++[g])) (lV (L++[g]))])
   unfold lK lV
   rw [List.map_append,List.map_append]
   rfl
theorem ar (gs L:List Nat) (h:L.length + gs.length < 16777216):yh [.ref μ0.length,gI gs] (μ0++[cL L])=.ok .non (μ0++[cL (gs.foldl ins L)]):=by
 obtain ⟨y2,e⟩:=Gd (μ0:=μ0) gs L (some (gI gs)) none h
 exact d6 1 ((v_for (Zw rfl)).trans e)
theorem a21 {mo m:MX} {ρ:En} {ν:Mu} {L:List D} {y:D} (ho:mo ρ (μ0++[.lst L]++ν)=.ok (.ref μ0.length) (μ0++[.lst L]++ν)) (hm:m ρ (μ0++[.lst L]++ν)=.ok y (μ0++[.lst L]++ν)) (hl:L.length < 16777216):ui mo m ρ (μ0++[.lst L]++ν)=.ok .non (μ0++[.lst (L++[y])]++ν):=by
 unfold ui
 rw [ho,bind_ok,Cn,if_pos (show f8 (.lst L)=true from rfl),hm,bind_ok]
 unfold Ca
 have:(μ0++[Cell.lst L]++ν)[μ0.length]? =some (.lst L):=by rw [List.append_assoc,List.getElem?_append_right (Nat.le_refl _),Nat.sub_self];rfl
 dsimp only
 rw [this]
 dsimp only
 rw [if_pos hl]
 congr 1
 rw [List.append_assoc,List.set_append_right _ _ (Nat.le_refl _),Nat.sub_self,List.append_assoc]
 rfl
theorem Et {ds:List D} {p:Nat} {d:D} {v:Vw} {μ:Mu} (hd:ds[p]? =some d) (hs:Sh d v):uq [.lst ds,.int p] μ=.ok (gI (if v.tel=true then [] else [p])) μ:=by
 obtain ⟨x,x1,_,_,x4,_⟩:=V6 hs
 have t1:mTest (mBin gIn (mBin jz (mBin jz (mVar 0) (mVar 1)) (mC (.int 0))) (mC c_TELLING)) [some (.lst ds),some (.int p)] μ=.ok v.tel μ:=Jz (v_bin (W1 hs x1 hd rfl rfl) rfl x4)
 refine Js 0 (v_ret ?_)
 cases ht:v.tel with
 | true=>rw [ht] at t1;exact (gh t1).trans (V3 v_nil)
 | false=>rw [ht] at t1;exact (gf t1).trans (V3 (v_cons rfl v_nil))
end
noncomputable def onD:Option Nat→D
 | some q=>.int q
 | none=>.non
end K31
set_option Elab.async false
set_option linter.all false
set_option maxRecDepth 100000
set_option maxHeartbeats 1000000
namespace K31
open PySem PySem.Spec PyProof.Rows L2 M
theorem v_seqC {n r:MSt} {ρ ρ1:En} {μ μ1:Mu} (h:n ρ μ=.ok (.ct ρ1) μ1):jx n r ρ μ=.ok (.ct ρ1) μ1:=by unfold jx;rw [h];rfl
theorem v_ct {ρ:En} {μ μ1:Mu} {i:Nat} {n:MSt} {d:D} {ds:List D} {ρ1:En} (h:n (ρ.set i (some d)) μ=.ok (.ct ρ1) μ1):Jq (gN i) n (d::ds) ρ μ=Jq (gN i) n ds ρ1 μ1:=by rw [wm,h];rfl
theorem ge {i:Nat} {n:MSt} {ρ:En} {μ0 ν:Mu} {c:Cell} {d:D} (h:ρ[i]? =some (some (.ref μ0.length))) (hc:ae c=some d):Q1 i n ρ (μ0++[c]++ν)=n (ρ.set i (some d)) (μ0++[.dead]++ν):=by
 have g1:(μ0++[c]++ν)[μ0.length]? =some c:=by rw [List.append_assoc,List.getElem?_append_right (Nat.le_refl _),Nat.sub_self];rfl
 have g2:(μ0++[c]++ν).set μ0.length .dead=μ0++[.dead]++ν:=by rw [List.append_assoc,List.set_append_right _ _ (Nat.le_refl _),Nat.sub_self,List.append_assoc];rfl
 unfold Q1
 rw [h]
 dsimp only
 rw [g1,Option.bind_some,hc]
 dsimp only
 rw [g2]
theorem a14 {m:MX} {ρ:En} {μ μ1:Mu} {d:D} (i:Nat) (h:m ρ μ=.ok d μ1):J2 i m ρ μ=.ok (.nx (ρ.set i (some d))) μ1:=by unfold J2;rw [h];rfl
theorem ky (gs L:List Nat):(gs.foldl ins L).length≤L.length + gs.length:=xj
theorem cn (f:Nat→Vw) (n p:Nat):(lg f n p).length≤2:=by
 unfold lg
 split
 ·rw [List.length_map];exact ut _ _
 ·exact Nat.zero_le _
theorem Cg (f:Nat→Vw) (n p:Nat):(bg f n p).length≤1:=by unfold bg;split <;> simp
theorem ki (f:Nat→Vw) (n p:Nat) (S:PS):(brid f n S p).left.length≤S.left.length + 1∧(brid f n S p).led.length≤S.led.length + 1:=by
 unfold brid
 split
 ·split
  ·exact ⟨Nat.le_succ _,Nat.le_succ _⟩
  ·rename_i q _ _
   have:=ky (bg f n q) S.led
   have:=Cg f n q
   exact ⟨by simp,by show ((bg f n q).foldl ins S.led).length≤_;omega⟩
 ·exact ⟨Nat.le_succ _,Nat.le_succ _⟩
theorem Ze (f:Nat→Vw) (n:Nat):∀ p,(stg f n p).left.length≤2 * p∧(stg f n p).led.length≤3 * p
 | 0=>⟨Nat.le_refl _,Nat.le_refl _⟩
 | p + 1=>by
  obtain ⟨h1,h2⟩:=Ze f n p
  unfold stg
  split
  ·unfold turn
   split
   ·obtain ⟨h3,h4⟩:=ki f n p (stg f n p)
    have:=ky (lg f n p) (brid f n (stg f n p) p).led
    have:=cn f n p
    unfold Fm
    simp only [List.length_append,List.length_singleton]
    constructor <;> omega
   ·constructor <;> omega
  ·constructor <;> omega
section
variable {ds:List D} {f:Nat→Vw} {A:List (Nat×Nat)} {μ0:Mu} {p:Nat} {x6:Option D}
noncomputable abbrev stM (μ0:Mu) (S:PS):Mu:=μ0++[.lst (iL S.left)]++[cL S.led]
noncomputable abbrev stE (ds:List D) (A:List (Nat×Nat)) (μ0:Mu) (on:Option Nat) (x5 x6:Option D):En:=[some (.lst ds),some (dN A),some (.ref μ0.length),some (.ref (μ0.length + 1)),some (onD on),x5,x6]
theorem a83 (c:Cell):(μ0++[c]).length=μ0.length + 1:=by simp
theorem E3 (S:PS):j4 (stM μ0 S) (.ref (μ0.length + 1))=.dic (lK S.led) (lV S.led):=by
 rw [← a83 (.lst (iL S.left))]
 show (match (μ0++[Cell.lst (iL S.left)]++[cL S.led])[List.length (μ0++[Cell.lst (iL S.left)])]? with
  | some (.lst ds)=>D.lst ds
  | some (.dic ks vs)=>D.dic ks vs
  | _=>D.ref _)=_
 rw [qw]
theorem ak (S:PS) (hA:∀ q,q < ds.length→List.lookup q A=some (Ed f ds.length q)) (ho:∀ q,S.on=some q→q < ds.length) (μ:Mu):u5 (Qr (mVar 4)) (mBin gEq (mBin J5 (mVar 1) (mVar 4)) (mVar 5)) (stE ds A μ0 S.on (some (.int p)) x6) μ=.ok (.bl (yi f ds.length S.on p)) μ:=by
 unfold yi
 cases h:S.on with
 | none=>exact W2 rfl
 | some q =>
  refine (yx rfl).trans (v_bin (x:=.int (Ed f ds.length q)) (v_bin rfl rfl (get_nC (hA q (ho q h)))) rfl ?_)
  exact (eqN _ _).trans (by rw [show (Ed f ds.length q == p)=decide (Ed f ds.length q=p) from rfl])
theorem Vd {S:PS} {gs:List Nat} {m:MX} {ρ:En} (h0:ρ[3]? =some (some (.ref (μ0.length + 1)))) (hm:m ρ (stM μ0 S)=.ok (gI gs) (stM μ0 S)) (hl:S.led.length + gs.length < 16777216) :
  Ux (mCall yh (mCons (mVar 3) (mCons m mNil))) ρ (stM μ0 S)=.ok (.nx ρ) (stM μ0 ⟨S.left,gs.foldl ins S.led,S.on⟩):=by
 refine qg (d:=.non) (v_call (ds:=[.ref (μ0.length + 1),gI gs]) (v_cons (Yu 3 h0) (v_cons hm v_nil)) ?_)
 rw [← a83 (.lst (iL S.left))]
 exact ar gs S.led hl
theorem app_call {S:PS} {x:Nat} {m:MX} {ρ:En} (h0:ρ[2]? =some (some (.ref μ0.length))) (hm:m ρ (stM μ0 S)=.ok (.int x) (stM μ0 S)) (hl:S.left.length < 16777216) :
  Ux (ui (mVar 2) m) ρ (stM μ0 S)=.ok (.nx ρ) (stM μ0 ⟨S.left++[x],S.led,S.on⟩):=by
 refine qg (d:=.non) ((a21 (Yu 2 h0) hm (by rw [iL,List.length_map];exact hl)).trans ?_)
 unfold stM iL
 rw [List.map_append]
 rfl
theorem brid_eq {S:PS} (hc:y9 ds f) (G:In f ds.length) (hA:∀ q,q < ds.length→List.lookup q A=some (Ed f ds.length q)) (ho:∀ q,S.on=some q→q < ds.length) (h1:S.left.length + 10 < 16777216) (h2:S.led.length + 10 < 16777216) :
  jk (Yk (mTest (Qr (mVar 4))) (Ym (U3 (mVar 6)))) (jx (Ux (ui (mVar 2) (mVar 4))) (Ux (mCall yh (mCons (mVar 3) (mCons (mCall uq (mCons (mVar 0) (mCons (mBin J5 (mVar 1) (mVar 4)) mNil))) mNil))))) jv
   (stE ds A μ0 S.on (some (.int p)) (some (.bl (yi f ds.length S.on p)))) (stM μ0 S)=.ok (.nx (stE ds A μ0 S.on (some (.int p)) (some (.bl (yi f ds.length S.on p))))) (stM μ0 (brid f ds.length S p)):=by
 unfold brid
 cases h:S.on with
 | none=>exact v_iteF (Zv rfl)
 | some q =>
  dsimp only
  cases hh:yi f ds.length (some q) p with
  | true=>rw [if_pos rfl];exact v_iteF ((v_andT rfl).trans rfl)
  | false =>
   rw [if_neg (by simp)]
   have hq:=ho q h
   have he:=wn G q hq
   obtain ⟨d,hd⟩:∃ d,ds[Ed f ds.length q]? =some d:=⟨_,List.getElem?_eq_getElem he⟩
   refine (v_iteT ((v_andT rfl).trans rfl)).trans ((v_seqN (app_call (x:=q) rfl rfl (by omega))).trans ?_)
   have hb:=Cg f ds.length q
   refine (Vd (S:=⟨S.left++[q],S.led,S.on⟩) (gs:=bg f ds.length q) rfl ?_ (by show S.led.length + _ < _;omega)).trans ?_
   ·exact v_call (v_cons rfl (v_cons (v_bin rfl rfl (get_nC (hA q hq))) v_nil)) (Et hd (hc _ _ hd))
   ·rw [h]
theorem bv {S:PS} (hc:y9 ds f) (G:In f ds.length) (hA:∀ q,q < ds.length→List.lookup q A=some (Ed f ds.length q)) (ho:∀ q,S.on=some q→q < ds.length) (h1:S.left.length + 10 < 16777216) (h2:S.led.length + 10 < 16777216) (hp:p < ds.length) :
  ∃ y6,u7 (stE ds A μ0 S.on (some (.int p)) x6) (stM μ0 S)=.ok (.nx (stE ds A μ0 (turn f ds.length S p).on (some (.int p)) y6)) (stM μ0 (turn f ds.length S p)) ∨
   u7 (stE ds A μ0 S.on (some (.int p)) x6) (stM μ0 S)=.ok (.ct (stE ds A μ0 (turn f ds.length S p).on (some (.int p)) y6)) (stM μ0 (turn f ds.length S p)):=by
 obtain ⟨d,hd⟩:∃ d,ds[p]? =some d:=⟨_,List.getElem?_eq_getElem hp⟩
 have hs:=hc _ _ hd
 have t0:=ak (μ0:=μ0) (x6:=x6) (p:=p) S hA ho (stM μ0 S)
 have t1:mTest (mBin (zo true) (mVar 5) (mVar 3)) (stE ds A μ0 S.on (some (.int p)) (some (.bl (yi f ds.length S.on p)))) (stM μ0 S)=.ok (!decide (p∈S.led)) (stM μ0 S):=by
  refine Jz (v_bin rfl rfl ?_)
  rw [E3]
  show some (D.bl (!(J7 (lK S.led) (lV S.led) (.inl (p:Int))).isSome))=_
  rw [Gf]
 refine ⟨some (.bl (yi f ds.length S.on p)),?_⟩
 unfold turn
 by_cases hz:yi f ds.length S.on p=true∨p∈S.led
 ·left
  rw [if_pos hz]
  have t2:Yk (Ym (U3 (mVar 6))) (mTest (mBin (zo true) (mVar 5) (mVar 3))) (stE ds A μ0 S.on (some (.int p)) (some (.bl (yi f ds.length S.on p)))) (stM μ0 S)=.ok false (stM μ0 S):=by
   cases hh:yi f ds.length S.on p with
   | true=>exact Zv rfl
   | false =>
    have hl:=hz.resolve_left (by rw [hh];simp)
    rw [hh,decide_eq_true hl] at t1
    exact (v_andT rfl).trans t1
  have hb:=ki f ds.length p S
  have hlg:=cn f ds.length p
  obtain ⟨x,w1,w2,w3,w4,w5⟩:=V6 hs
  refine (v_set 6 t0).trans ((v_skip t2).trans ((v_seqN (brid_eq hc G hA ho h1 h2)).trans ((v_seqN (app_call (x:=p) rfl rfl (by omega))).trans ((v_seqN (Vd (S:=⟨(brid f ds.length S p).left++[p],(brid f ds.length S p).led,(brid f ds.length S p).on⟩) (gs:=lg f ds.length p) rfl ?_ (by show (brid f ds.length S p).led.length + _ < _;omega))).trans ?_))))
  ·exact v_call (v_cons rfl (v_cons rfl (v_cons rfl v_nil))) (g0 hd hs rfl fun q hq=>hA q (G p hp q hq))
  ·refine (a14 (d:=onD (if ((f p).lead || (f p).tel)=true then none else some (p + 1))) 4 ?_).trans rfl
   have e1:∀ ρ:En,∀ μ:Mu,ρ[0]? =some (some (.lst ds))→ρ[5]? =some (some (.int p))→mTest (mBin gIn (mBin jz (mBin jz (mVar 0) (mVar 5)) (mC (.int 0))) (mBin Je (mC c_LEADING) (mC c_TELLING))) ρ μ=.ok ((f p).lead || (f p).tel) μ:=fun ρ μ a b=>Jz (v_bin (W1 hs w1 hd a b) (v_bin rfl rfl rfl) (w5 _ rfl))
   cases hlt:((f p).lead || (f p).tel) with
   | true=>rw [hlt] at e1;exact (gh (e1 _ _ rfl rfl)).trans rfl
   | false =>
    rw [hlt] at e1
    refine (gf (e1 _ _ rfl rfl)).trans ?_
    rfl
 ·right
  rw [if_neg hz]
  have hh:yi f ds.length S.on p=false:=by cases q:yi f ds.length S.on p with
   | false=>rfl
   | true=>exact absurd (.inl q) hz
  have hl:p∉S.led:=fun z=>hz (.inr z)
  rw [hh] at t0 t1 ⊢
  rw [decide_eq_false hl] at t1
  exact (v_set 6 t0).trans (v_seqC ((v_iteT ((v_andT rfl).trans t1)).trans rfl))
theorem Wk (hc:y9 ds f) (G:In f ds.length) (hA:∀ q,q < ds.length→List.lookup q A=some (Ed f ds.length q)) (hn:0 < ds.length) (hn2:ds.length < 100000):∀ (r m:Nat),m + r=ds.length→∀ (x5 x6:Option D),∃ y5 y6,
  Jq (gN 5) u7 (iL (own f ds.length m r)) (stE ds A μ0 (stg f ds.length m).on x5 x6) (stM μ0 (stg f ds.length m))=.ok (.nx (stE ds A μ0 (stg f ds.length ds.length).on y5 y6)) (stM μ0 (stg f ds.length ds.length))
 | 0,m,hm,x5,x6=>⟨x5,x6,by rw [show m=ds.length by omega];rfl⟩
 | r + 1,m,hm,x5,x6=>by
  unfold own
  rw [List.range'_succ,List.filter_cons]
  have I:=Iv.stg G hn m (by omega)
  have hl:=Ze f ds.length m
  by_cases ho:Ed f ds.length m=m
  ·rw [if_pos (by simpa using ho)]
   obtain ⟨y6,h⟩:=bv (p:=m) (x6:=x6) (μ0:=μ0) hc G hA (fun q e=>(I.on q e).2.2.1) (by omega) (by omega) (by omega)
   have es:stg f ds.length (m + 1)=turn f ds.length (stg f ds.length m) m:=by rw [stg,if_pos ho]
   rw [← es] at h
   obtain ⟨z5,z6,ih⟩:=Wk hc G hA hn hn2 r (m + 1) (by omega) (some (.int m)) y6
   refine ⟨z5,z6,Eq.trans ?_ ih⟩
   rcases h with h | h
   ·exact V2 (d:=.int m) h
   ·exact v_ct (d:=.int m) h
  ·rw [if_neg (by simpa using ho)]
   have es:stg f ds.length (m + 1)=stg f ds.length m:=by rw [stg,if_neg ho]
   obtain ⟨z5,z6,ih⟩:=Wk hc G hA hn hn2 r (m + 1) (by omega) x5 x6
   rw [es] at ih
   exact ⟨z5,z6,ih⟩
theorem au (hc:y9 ds f) (G:In f ds.length) (hA:∀ q,q < ds.length→List.lookup q A=some (Ed f ds.length q)) (hn:0 < ds.length) (hn2:ds.length < 100000):∃ c,Us [.lst ds,dN A] μ0=.ok (gI (stg f ds.length ds.length).left) (μ0++[.dead]++[c]):=by
 obtain ⟨y5,y6,e⟩:=Wk (μ0:=μ0) (A:=A) hc G hA hn hn2 ds.length 0 (by omega) none none
 refine ⟨cL (stg f ds.length ds.length).led,?_⟩
 have e1:J2 3 Vg [some (.lst ds),some (dN A),some (.ref μ0.length),none,none,none,none] (μ0++[.lst []])=.ok (.nx [some (.lst ds),some (dN A),some (.ref μ0.length),some (.ref (μ0.length + 1)),none,none,none]) (stM μ0 (stg f ds.length 0)):=by
  rw [← a83 (.lst [])];rfl
 have e2:=a59 (f:=f) (n:=ds.length) (μ:=stM μ0 (stg f ds.length 0)) (e:=dN A) (A:=A) rfl hn2 hA
 have e3:je (mCall U4 (mCons (mVar 1) (mCons (mCallB gLen (mCons (mVar 0) mNil)) mNil))) (stE ds A μ0 (some 0) none none) (stM μ0 (stg f ds.length 0))=.ok (iL (own f ds.length 0 ds.length)) (stM μ0 (stg f ds.length 0)) :=
  Zw (v_call (v_cons rfl (v_cons (v_callB (d:=.int ds.length) (v_cons rfl v_nil) rfl) v_nil)) e2)
 have e0:∀ ρ:En,Vh mNil ρ μ0=.ok (.ref μ0.length) (μ0++[.lst []]):=fun _=>rfl
 refine Js 5 (Eq.trans (v_set 2 (e0 _)) (Eq.trans (v_seqN e1) (Eq.trans (v_set 4 (d:=.int 0) rfl) (Eq.trans (v_seqN (Eq.trans (v_for e3) e)) ?_))))
 exact (ge (c:=.lst (iL (stg f ds.length ds.length).left)) (ν:=[cL (stg f ds.length ds.length).led]) rfl rfl).trans (v_ret (Yu 2 rfl))
end
end K31
set_option Elab.async false
set_option linter.all false
set_option maxRecDepth 100000
set_option maxHeartbeats 1000000
namespace K31
open PySem PySem.Spec PyProof.Rows L2 M
noncomputable def pA:Nat→List Nat→List (Nat×Nat)
 | _,[]=>[]
 | k,x::L=>(x,k)::pA (k + 1) L
noncomputable def pD (k:Nat) (L:List Nat):List D:=(pA k L).map fun p=>.tup [.int p.1,.int p.2]
theorem Gs:∀ (k:Nat) (L:List Nat),nK (pA k L)=L.map fun (x:Nat)=>.inl (x:Int)
 | _,[]=>rfl
 | k,x::L=>by show (Sum.inl (x:Int):DK)::nK (pA (k + 1) L)=_;rw [Gs (k + 1) L];rfl
theorem Qg {x:Nat}:∀ (k:Nat) (L:List Nat),x∈L→List.lookup x (pA k L)=some (k + L.idxOf x)
 | k,y::L,h=>by
  show List.lookup x ((y,k)::pA (k + 1) L)=_
  rw [List.lookup_cons]
  by_cases z:x=y
  ·subst z;simp
  ·rw [show (x == y)=false from by simpa using z,List.idxOf_cons,show (y == x)=false from by simpa using fun h=>z h.symm]
   have:=Qg (k + 1) L ((List.mem_cons.mp h).resolve_left z)
   dsimp only
   rw [this,cond_false]
   congr 1
   omega
theorem Ae (k:Nat):∀ L:List Nat,Y3 (pD k L)=some (nK (pA k L),nV (pA k L))
 | []=>rfl
 | x::L=>by
  show (Y3 (pD (k + 1) L)).map _=_
  rw [Ae (k + 1) L]
  rfl
theorem dict_eq {L:List Nat} (h:L.Nodup):Wb [.lst (pD 0 L)]=some (dN (pA 0 L)):=by
 show (Y3 (pD 0 L)).bind _=_
 rw [Ae,Option.bind_some,if_pos]
 ·rfl
 ·dsimp only
  rw [Gs]
  exact List.Pairwise.map _ (fun a b hab z=>hab (by have:=Sum.inl.inj z;omega)) h
theorem Dm (μ:Mu):∀ (L:List Nat) (k:Nat) (a b:Option D) (acc:List D),jy (zp (Jv (gN 0) (Jv (gN 1) zq))) mTT (J6 (mCons (mVar 1) (mCons (mVar 0) mNil))) (uw k (iL L)) [a,b] μ acc=.ok (acc++pD k L) μ
 | [],k,a,b,acc=>by simp [jy,iL,uw,pD,pA]
 | x::L,k,a,b,acc=>by
  have ih:=Dm μ L (k + 1) (some (.int k)) (some (.int x)) (acc++[.tup [.int x,.int k]])
  refine (Yf (d:=.tup [.int k,.int x]) (ds:=uw (k + 1) (iL L)) (ρ1:=[some (.int k),some (.int x)]) rfl rfl).trans (ih.trans ?_)
  rw [List.append_assoc,List.singleton_append]
  rfl
noncomputable def G6 (d:D) (a b:Nat):D:=match d with
 | .tup xs=>.tup (xs.take (xs.length - 2)++[.int a,.int b])
 | d=>d
noncomputable def nd (ds:List D) (f:Nat→Vw) (n:Nat) (L:List Nat) (x:Nat):D :=
 if Ed f n x=x then (match f x with
  | .br k m=>G6 (ds.getD x .non) (L.idxOf (Ed f n (x + 1 + k)) - (L.idxOf x + 1)) (L.idxOf (Ed f n (x + 1 + m)) - (L.idxOf x + 1))
  | _=>ds.getD x .non)
 else if (f (Ed f n x)).tel=true then ds.getD (Ed f n x) .non else .tup [.str w_jump,.int ((L.idxOf (Ed f n x) - (L.idxOf x + 1):Nat):Int)]
theorem ad3 {d:D} {k m a b:Nat} (h:Sh d (.br k m)) (ha:a≤2000) (hb:b≤2000):Sh (G6 d a b) (.br a b):=by
 cases h with
 | if_ h1 h2 _ _=>exact .if_ h1 h2 ha hb
 | ifx h1 _ _=>exact .ifx h1 ha hb
theorem dm {d:D} {k m:Nat} (h:Sh d (.br k m)):G6 d k m=d:=by cases h <;> rfl
theorem ad0 {d:D} {k m a b:Nat} (h:Sh d (.br k m)):∃ y,gSl d none (some (-2))=some y∧Je y (.tup [.int a,.int b])=some (G6 d a b):=by cases h <;> exact ⟨_,rfl,rfl⟩
theorem neN (i s:Nat):gNe (.int i) (.int s)=some (.bl (!(i == s))):=by
 show some (D.bl (!((i:Int) == (s:Int))))=_
 by_cases z:i=s
 ·subst z;simp
 ·have:((i:Int) == (s:Int))=false:=by rw [beq_eq_false_iff_ne];omega
  rw [this,beq_eq_false_iff_ne.mpr z]
section
variable {ds:List D} {f:Nat→Vw} {L:List Nat} {A:List (Nat×Nat)} {μ:Mu}
theorem Z9 {p:Nat} (h:p < ds.length):ds[p]? =some (ds.getD p .non):=by rw [List.getD_eq_getElem?_getD,List.getElem?_eq_getElem h];rfl
theorem dg {w:Nat}:∀ (gs:List Nat),(∀ g∈gs,g∈L∧w≤L.idxOf g)→∀ (a:Option D) (acc:List D),jy (gN 0) mTT (mBin gSub (mBin J5 (mVar 2) (mVar 0)) (mVar 1)) (iL gs) [a,some (.int w),some (dN (pA 0 L))] μ acc=.ok (acc++gs.map fun (g:Nat)=>D.int ((L.idxOf g - w:Nat):Int)) μ
 | [],_,_,acc=>by simp [jy,iL]
 | g::gs,h,a,acc=>by
  obtain ⟨h1,h2⟩:=h g (List.mem_cons_self ..)
  have e1:mBin gSub (mBin J5 (mVar 2) (mVar 0)) (mVar 1) [some (.int g),some (.int w),some (dN (pA 0 L))] μ=.ok (.int ((L.idxOf g - w:Nat):Int)) μ:=by
   refine v_bin (x:=.int ((0 + L.idxOf g:Nat):Int)) (v_bin rfl rfl (get_nC (Qg 0 L h1))) rfl ?_
   show some (D.int (((0 + L.idxOf g:Nat):Int) - (w:Int)))=_
   congr 2
   omega
  have ih:=dg (w:=w) gs (fun q hq=>h q (List.mem_cons_of_mem _ hq)) (some (.int g)) (acc++[.int ((L.idxOf g - w:Nat):Int)])
  refine (Yf (ds:=iL gs) rfl e1).trans (ih.trans ?_)
  rw [List.append_assoc,List.singleton_append]
  rfl
theorem bi (hc:y9 ds f) (G:In f ds.length) (hA:∀ q,q < ds.length→List.lookup q A=some (Ed f ds.length q)) {x:Nat} (hx:x∈L) (hb:x < ds.length) (N:Nw f ds.length L x) :
  ur [.lst ds,dN A,.int x,dN (pA 0 L)] μ=.ok (nd ds f ds.length L x) μ:=by
 have hd:=Z9 hb
 have hs:=hc _ _ hd
 have he:=wn G x hb
 have hd2:=Z9 he
 have hs2:=hc _ _ hd2
 obtain ⟨u,u1,_,u3,_⟩:=V6 hs
 obtain ⟨v,v1,_,_,v4,_⟩:=V6 hs2
 let ρ:En:=[some (.lst ds),some (dN A),some (.int x),some (dN (pA 0 L)),some (ds.getD x .non),some (.int (Ed f ds.length x)),some (.int ((L.idxOf x + 1:Nat):Int))]
 have t1:mTest (mBin gNe (mVar 5) (mVar 2)) ρ μ=.ok (!(Ed f ds.length x == x)) μ:=Jz (v_bin rfl rfl (neN _ _))
 have t2:mTest (mBin gIn (mBin jz (mBin jz (mVar 0) (mVar 5)) (mC (.int 0))) (mC c_TELLING)) ρ μ=.ok (f (Ed f ds.length x)).tel μ:=Jz (v_bin (W1 hs2 v1 hd2 rfl rfl) rfl v4)
 have t3:mTest (mBin gIn (mBin jz (mVar 4) (mC (.int 0))) (mC c_LEADING)) ρ μ=.ok (f x).lead μ:=Jz (v_bin (x:=.str u) (v_bin (x:=ds.getD x .non) rfl rfl (by rw [ua hs];exact u1)) rfl u3)
 have pre:∀ {r:Res Out},(jx (jk (Yk (mTest (mBin gNe (mVar 5) (mVar 2))) (mTest (mBin gIn (mBin jz (mBin jz (mVar 0) (mVar 5)) (mC (.int 0))) (mC c_TELLING)))) (ju (mBin jz (mVar 0) (mVar 5))) jv)
  (jx (jk (mTest (mBin gNe (mVar 5) (mVar 2))) (ju (J6 (mCons (mC (.str w_jump)) (mCons (mBin gSub (mBin J5 (mVar 3) (mVar 5)) (mVar 6)) mNil)))) jv)
  (jx (jk (mTest (mBin gIn (mBin jz (mVar 4) (mC (.int 0))) (mC c_LEADING)))
  (ju (mBin Je (mSl (mVar 4) Vi (Qs (Yl (mC (.int 2))))) (mCallB Cz (mCons (jc 1 [6,3] (gN 0) (je (mCall J8 (mCons (mVar 0) (mCons (mVar 1) (mCons (mVar 2) mNil))))) mTT (mBin gSub (mBin J5 (mVar 2) (mVar 0)) (mVar 1))) mNil))))
  jv)
  (ju (mVar 4))))) ρ μ=r→qm ([D.lst ds,dN A,.int x,dN (pA 0 L)].map some++List.replicate 3 none) μ=r:=fun h =>
  (v_set 4 (v_step hd rfl rfl)).trans ((v_set 5 (v_bin rfl rfl (get_nC (hA x hb)))).trans ((v_set 6 (v_bin (x:=.int ((0 + L.idxOf x:Nat):Int)) (v_bin rfl rfl (get_nC (Qg 0 L hx))) rfl (by
   show some (D.int (((0 + L.idxOf x:Nat):Int) + 1))=some (.int ((L.idxOf x + 1:Nat):Int))
   congr 2
   omega))).trans h))
 refine Js 3 (pre ?_)
 unfold nd
 by_cases ho:Ed f ds.length x=x
 ·rw [if_pos ho]
  have t1':mTest (mBin gNe (mVar 5) (mVar 2)) ρ μ=.ok false μ:=by rw [t1,beq_iff_eq.mpr ho];rfl
  refine (v_skip (Zv t1')).trans ((v_skip t1').trans ?_)
  cases hl:(f x).lead with
  | false =>
   rw [hl] at t3
   refine (v_skip t3).trans (v_ret ?_)
   cases hv:f x <;> first | rfl | (rw [hv] at hl;cases hl)
  | true =>
   rw [hl] at t3
   obtain ⟨k,m,ev,_⟩:=Vt hb ho hl
   cases N with
   | pl y a b=>rw [ev] at b;cases b
   | tl a b=>rw [ev] at b;cases b
   | bt a=>exact absurd ho a
   | bj a=>exact absurd ho a
   | br k' m' a b c d e g1 g2 j =>
    rw [ev] at b
    cases b
    rw [ev]
    have hsb:Sh (ds.getD x .non) (.br k m):=by rw [← ev];exact hs
    obtain ⟨y,y1,y2⟩:=ad0 (a:=L.idxOf (Ed f ds.length (x + 1 + k)) - (L.idxOf x + 1)) (b:=L.idxOf (Ed f ds.length (x + 1 + m)) - (L.idxOf x + 1)) hsb
    have hlg:lg f ds.length x=[Ed f ds.length (x + 1 + k),Ed f ds.length (x + 1 + m)]:=by unfold lg;rw [if_pos hl,ev];rfl
    have e0:je (mCall J8 (mCons (mVar 0) (mCons (mVar 1) (mCons (mVar 2) mNil)))) ρ μ=.ok (iL (lg f ds.length x)) μ:=Zw (v_call (v_cons rfl (v_cons rfl (v_cons rfl v_nil))) (g0 hd hs rfl fun q hq=>hA q (G x hb q hq)))
    have e1:jc 1 [6,3] (gN 0) (je (mCall J8 (mCons (mVar 0) (mCons (mVar 1) (mCons (mVar 2) mNil))))) mTT (mBin gSub (mBin J5 (mVar 2) (mVar 0)) (mVar 1)) ρ μ=.ok (.lst [.int ((L.idxOf (Ed f ds.length (x + 1 + k)) - (L.idxOf x + 1):Nat):Int),.int ((L.idxOf (Ed f ds.length (x + 1 + m)) - (L.idxOf x + 1):Nat):Int)]) μ:=by
     unfold jc
     rw [e0,bind_ok,if_pos (by rw [iL,List.length_map,hlg];exact (show 2≤16777216 by decide))]
     show (jy (gN 0) mTT _ _ [none,some (.int ((L.idxOf x + 1:Nat):Int)),some (dN (pA 0 L))] μ []).bind _=_
     rw [hlg,dg _ fun g hg=>by
      simp only [List.mem_cons,List.not_mem_nil,or_false] at hg
      rcases hg with rfl | rfl
      ·exact ⟨c,g1⟩
      ·exact ⟨d,g2⟩]
     rfl
    refine um t3 (v_bin (x:=y) (y:=.tup [.int ((L.idxOf (Ed f ds.length (x + 1 + k)) - (L.idxOf x + 1):Nat):Int),.int ((L.idxOf (Ed f ds.length (x + 1 + m)) - (L.idxOf x + 1):Nat):Int)]) ?_ (v_callB (v_cons e1 v_nil) rfl) ?_)
    ·show ofO μ (gSl (j4 μ (ds.getD x .non)) none (some (-2)))=_
     rw [ua hs,y1]
     rfl
    ·have:j4 μ y=y:=by
      cases y with
      | ref z=>cases y2
      | _=>rfl
     rw [this]
     exact y2
 ·rw [if_neg ho]
  have t1':mTest (mBin gNe (mVar 5) (mVar 2)) ρ μ=.ok true μ:=by rw [t1,show (Ed f ds.length x == x)=false from by simpa using ho];rfl
  cases ht:(f (Ed f ds.length x)).tel with
  | true =>
   rw [ht] at t2
   exact um ((v_andT t1').trans t2) (v_step hd2 rfl rfl)
  | false =>
   rw [ht] at t2
   rw [if_neg (by simp)]
   cases N with
   | pl y a=>exact absurd a ho
   | tl a=>exact absurd a ho
   | br _ _ a=>exact absurd a ho
   | bt a b=>rw [ht] at b;cases b
   | bj a b c d e =>
    refine (v_skip ((v_andT t1').trans t2)).trans (um t1' (Yt (v_cons rfl (v_cons ?_ v_nil))))
    refine v_bin (x:=.int ((0 + L.idxOf (Ed f ds.length x):Nat):Int)) (v_bin rfl rfl (get_nC (Qg 0 L c))) rfl ?_
    show some (D.int (((0 + L.idxOf (Ed f ds.length x):Nat):Int) - ((L.idxOf x + 1:Nat):Int)))=_
    congr 2
    omega
end
end K31
set_option Elab.async false
set_option linter.all false
set_option maxRecDepth 100000
set_option maxHeartbeats 1000000
namespace K31
open PySem PySem.Spec PyProof.Rows L2 M
section
variable {ds:List D} {f:Nat→Vw}
theorem X1 (h:U9 f ds.length):first f ds.length ds.length=none:=by
 unfold first
 rw [List.find?_eq_none]
 intro p hp
 rw [h p (by have:=List.mem_range'_1.mp hp;omega)]
 simp
theorem gy (h:first f ds.length ds.length=none):U9 f ds.length:=fun p hp=>by
 unfold first at h
 rw [List.find?_eq_none] at h
 have:=h p (List.mem_range'_1.mpr (by omega))
 simpa using this
theorem fwp_code (hc:y9 ds f) (hn:ds.length < 100) (h1:1≤ds.length):Fwp ds (first f ds.length ds.length):=fun μ=>by
 obtain ⟨ν,e⟩:=a95 (b:=none) ⟨fun i d hd _=>hc i d hd,fun _ _ _ z=>(nomatch z)⟩ hn h1 (fun _ z=>(nomatch z)) μ
 refine ⟨ν,e.trans ?_⟩
 unfold Ek x9
 simp
theorem aw (hc:y9 ds f) (hg:U9 f ds.length) (hn:ds.length < 100) (h1:1≤ds.length) (μ:Mu):∃ ν,X2 [.lst ds] μ=.ok .non (μ++ν):=by
 obtain ⟨ν,e⟩:=fwp_code hc hn h1 μ
 rw [X1 hg] at e
 exact ⟨ν,d6 1 ((v_set 1 (v_call (v_cons rfl v_nil) e)).trans ((v_iteF rfl).trans rfl))⟩
noncomputable abbrev Lf (f:Nat→Vw) (n:Nat):List Nat:=(stg f n n).left
theorem Df {μ:Mu} {A:List (Nat×Nat)} (hc:y9 ds f) (G:In f ds.length) (hA:∀ q,q < ds.length→List.lookup q A=some (Ed f ds.length q)) (I:Iv f ds.length ds.length (stg f ds.length ds.length)):∀ (xs:List Nat),(∀ x∈xs,x∈Lf f ds.length)→∀ (a:Option D) (acc:List D),
  jy (gN 0) mTT (mCall ur (mCons (mVar 1) (mCons (mVar 2) (mCons (mVar 0) (mCons (mVar 3) mNil))))) (iL xs) [a,some (.lst ds),some (dN A),some (dN (pA 0 (Lf f ds.length)))] μ acc=.ok (acc++xs.map (nd ds f ds.length (Lf f ds.length))) μ
 | [],_,_,acc=>by simp [jy,iL]
 | x::xs,h,a,acc=>by
  have hx:=h x (List.mem_cons_self ..)
  have e1:mCall ur (mCons (mVar 1) (mCons (mVar 2) (mCons (mVar 0) (mCons (mVar 3) mNil)))) [some (.int x),some (.lst ds),some (dN A),some (dN (pA 0 (Lf f ds.length)))] μ=.ok (nd ds f ds.length (Lf f ds.length) x) μ :=
   v_call (v_cons rfl (v_cons rfl (v_cons rfl (v_cons rfl v_nil)))) (bi hc G hA hx (I.bd x hx) (I.nw G hx))
  refine (Yf (ds:=iL xs) rfl e1).trans ((Df hc G hA I xs (fun y hy=>h y (List.mem_cons_of_mem _ hy)) (some (.int x)) (acc++[nd ds f ds.length (Lf f ds.length) x])).trans ?_)
  rw [List.append_assoc,List.singleton_append]
  rfl
theorem Xc (hc:y9 ds f) (hg:U9 f ds.length) (hn:ds.length < 100) (h1:1≤ds.length) (μ:Mu):∃ ν,Yz [.lst ds] μ=.ok (.ref (μ++ν).length) (μ++ν++[.lst ((Lf f ds.length).map (nd ds f ds.length (Lf f ds.length)))]):=by
 have G:=hg.io
 have I:=Iv.stg G h1 ds.length (Nat.le_refl _)
 have hA:∀ q,q < ds.length→List.lookup q (eA f ds.length ds.length)=some (Ed f ds.length q):=fun q hq=>v8 (Nat.le_refl _) (by omega) hq
 obtain ⟨ν1,e1⟩:=aw hc hg hn h1 μ
 have e2:=aa (μ0:=μ++ν1) hc G (by omega) h1
 obtain ⟨c,e3⟩:=au (μ0:=μ++ν1++[Cell.dead]) (A:=eA f ds.length ds.length) hc G hA h1 (by omega)
 have hl:(Lf f ds.length).length≤2 * ds.length:=(Ze f ds.length ds.length).1
 refine ⟨ν1++[Cell.dead]++[Cell.dead]++[c],?_⟩
 have e4:jc 2 [] (zp (Jv (gN 0) (Jv (gN 1) zq))) (Z5 (mVar 2)) mTT (J6 (mCons (mVar 1) (mCons (mVar 0) mNil))) [some (.lst ds),some (dN (eA f ds.length ds.length)),some (gI (Lf f ds.length)),none] (μ++ν1++[Cell.dead]++[Cell.dead]++[c])=.ok (.lst (pD 0 (Lf f ds.length))) (μ++ν1++[Cell.dead]++[Cell.dead]++[c]):=by
  unfold jc
  rw [show Z5 (mVar 2) [some (.lst ds),some (dN (eA f ds.length ds.length)),some (gI (Lf f ds.length)),none] (μ++ν1++[Cell.dead]++[Cell.dead]++[c])=.ok (uw 0 (iL (Lf f ds.length))) (μ++ν1++[Cell.dead]++[Cell.dead]++[c]) from rfl,bind_ok,if_pos]
  ·show (jy _ mTT _ _ [none,none] _ []).bind _=_
   rw [Dm]
   rfl
  ·have:∀ (k:Nat) (xs:List D),(uw k xs).length=xs.length:=fun k xs=>by
    induction xs generalizing k with
    | nil=>rfl
    | cons x xs ih=>simp [uw,ih]
   rw [this,iL,List.length_map]
   omega
 have e5:xk 1 [0,1,3] (gN 0) (je (mVar 2)) mTT (mCall ur (mCons (mVar 1) (mCons (mVar 2) (mCons (mVar 0) (mCons (mVar 3) mNil))))) [some (.lst ds),some (dN (eA f ds.length ds.length)),some (gI (Lf f ds.length)),some (dN (pA 0 (Lf f ds.length)))] (μ++ν1++[Cell.dead]++[Cell.dead]++[c]) =
   .ok (.ref (μ++ν1++[Cell.dead]++[Cell.dead]++[c]).length) (μ++ν1++[Cell.dead]++[Cell.dead]++[c]++[.lst ((Lf f ds.length).map (nd ds f ds.length (Lf f ds.length)))]):=by
  unfold xk
  rw [show je (mVar 2) [some (.lst ds),some (dN (eA f ds.length ds.length)),some (gI (Lf f ds.length)),some (dN (pA 0 (Lf f ds.length)))] (μ++ν1++[Cell.dead]++[Cell.dead]++[c])=.ok (iL (Lf f ds.length)) (μ++ν1++[Cell.dead]++[Cell.dead]++[c]) from rfl,bind_ok,if_pos (by rw [iL,List.length_map];omega)]
  show (jy (gN 0) mTT _ _ [none,some (.lst ds),some (dN (eA f ds.length ds.length)),some (dN (pA 0 (Lf f ds.length)))] _ []).bind _=_
  rw [Df hc G hA I _ (fun x hx=>hx)]
  rfl
 have e6:μ++(ν1++[Cell.dead]++[Cell.dead]++[c])=μ++ν1++[Cell.dead]++[Cell.dead]++[c]:=by simp
 rw [e6]
 exact Js 3 (Eq.trans (v_seqN (qg (v_call (v_cons rfl v_nil) e1))) (Eq.trans (v_set 1 (v_call (v_cons rfl v_nil) e2)) (Eq.trans (v_set 2 (v_call (v_cons rfl (v_cons rfl v_nil)) e3)) (Eq.trans (v_set 3 (v_callB (v_cons e4 v_nil) (dict_eq I.nd))) (v_ret e5)))))
theorem a31 (hc:y9 ds f) (G:In f ds.length) {L:List Nat} {x:Nat} (hb:x < ds.length) (N:Nw f ds.length L x) (hx:x∈L) (hl:L.length≤2000):Sh (nd ds f ds.length L x) (nv f ds.length L x):=by
 have hs:=hc _ _ (Z9 hb)
 have he:=wn G x hb
 have hs2:=hc _ _ (Z9 he)
 unfold nd nv
 split
 ·rename_i ho
  cases hv:f x with
  | br k m =>
   rw [hv] at hs
   cases N with
   | pl y a b=>rw [hv] at b;cases b
   | tl a b=>rw [hv] at b;cases b
   | bt a=>exact absurd ho a
   | bj a=>exact absurd ho a
   | br k' m' a b c d e g1 g2 j =>
    rw [hv] at b
    cases b
    have:=List.idxOf_lt_length_of_mem c
    have:=List.idxOf_lt_length_of_mem d
    exact ad3 hs (by omega) (by omega)
  | _=>rw [hv] at hs;exact hs
 ·rename_i ho
  split
  ·rename_i ht
   rw [Aq ht] at hs2
   exact hs2
  ·rename_i ht
   cases N with
   | pl y a=>exact absurd a ho
   | tl a=>exact absurd a ho
   | br _ _ a=>exact absurd a ho
   | bt a b=>exact absurd b ht
   | bj a b c d e =>
    have:=List.idxOf_lt_length_of_mem c
    exact .jump (by omega)
structure Fd (es:List D) (g:Nat→Vw):Prop where
 code:y9 es g
 good:U9 g es.length
 tg:Tg g es.length
 pos:1≤es.length
theorem a70 (hc:y9 ds f) (hg:U9 f ds.length) (hn:ds.length < 50) (h1:1≤ds.length):Fd ((Lf f ds.length).map (nd ds f ds.length (Lf f ds.length))) (gN' f ds.length (Lf f ds.length)):=by
 have G:=hg.io
 have I:=Iv.stg G h1 ds.length (Nat.le_refl _)
 have hl:=(Ze f ds.length ds.length).1
 have e:((Lf f ds.length).map (nd ds f ds.length (Lf f ds.length))).length=(Lf f ds.length).length:=List.length_map ..
 refine ⟨fun i d hd=>?_,by rw [e];exact hg.new I,by rw [e];exact I.tg G,?_⟩
 ·rw [List.getElem?_map] at hd
  cases hq:(Lf f ds.length)[i]? with
  | none=>rw [hq] at hd;cases hd
  | some x =>
   rw [hq] at hd
   cases hd
   have hx:x∈Lf f ds.length:=List.mem_of_getElem? hq
   have:(Lf f ds.length).getD i 0=x:=by rw [List.getD_eq_getElem?_getD,hq];rfl
   unfold gN'
   rw [this]
   exact a31 hc G (I.bd x hx) (I.nw G hx) hx (by show (stg f ds.length ds.length).left.length≤_;omega)
 ·rw [e]
  have:=I.non (I.off G)
  cases h:(Lf f ds.length) with
  | nil=>exact absurd h this
  | cons a t=>simp
theorem zu {m x:Nat} (h:x < m):(List.range' 0 m).idxOf x=x:=by
 have e:(List.range' 0 m).getD x 0=x:=by rw [List.getD_eq_getElem?_getD,List.getElem?_range' h];simp
 have:=Vb (L:=List.range' 0 m) (i:=x) (List.nodup_range' ..) (by rw [List.length_range'];exact h)
 rw [e] at this
 exact this
theorem again {es:List D} {g:Nat→Vw} (F:Fd es g):(Lf g es.length).map (nd es g es.length (Lf g es.length))=es:=by
 have hL:Lf g es.length=List.range' 0 es.length:=F.tg.stay F.pos
 rw [hL]
 apply List.ext_getElem?
 intro i
 rw [List.getElem?_map]
 by_cases hi:i < es.length
 ·rw [List.getElem?_range' hi,Z9 hi,Option.map_some]
  congr 1
  rw [show 0 + 1 * i=i by omega]
  have hs:=F.code _ _ (Z9 hi)
  unfold nd
  cases hj:isJ (g i) with
  | false =>
   rw [if_pos (F.tg.own i hi hj)]
   cases hv:g i with
   | br a b =>
    rw [hv] at hs
    have ga:i + 1 + a∈(g i).goals i:=by rw [hv];simp [Vw.goals]
    have gb:i + 1 + b∈(g i).goals i:=by rw [hv];simp [Vw.goals]
    have la:=F.tg.io i hi _ ga
    have lb:=F.tg.io i hi _ gb
    have ea:=F.tg.own _ la (F.tg.jj i hi (by rw [hv];rfl) _ ga)
    have eb:=F.tg.own _ lb (F.tg.jj i hi (by rw [hv];rfl) _ gb)
    dsimp only
    rw [ea,eb,zu la,zu lb,zu hi,show i + 1 + a - (i + 1)=a by omega,show i + 1 + b - (i + 1)=b by omega]
    exact dm hs
   | _=>rfl
  | true =>
   obtain ⟨k,e⟩:∃ k,g i=.jp k:=by cases e:g i <;> first | exact ⟨_,rfl⟩ | (rw [e] at hj;cases hj)
   have ed:=F.tg.jmp hi e
   have ga:i + 1 + k∈(g i).goals i:=by rw [e];simp [Vw.goals]
   have la:=F.tg.io i hi _ ga
   rw [ed,if_neg (by omega),if_neg (by rw [(F.tg.j0 i hi k e).2];simp),zu la,zu hi,show i + 1 + k - (i + 1)=k by omega]
   rw [e] at hs
   generalize es.getD i .non=d at hs
   cases hs
   rfl
 ·rw [List.getElem?_eq_none (by rw [List.length_range'];omega),List.getElem?_eq_none (by omega)]
  rfl
end
end K31
set_option Elab.async false
set_option linter.all false
set_option maxRecDepth 100000
set_option maxHeartbeats 1000000
namespace K31
open PySem PySem.Spec PyProof.Rows L2 M
theorem Aj {d:D} {v:Vw} (h:Sh d v) (p:Nat) (μ:Mu):zh [d,.int p] μ=.ok (gI (v.goals p)) μ:=by
 cases h <;> rfl
theorem Ap {μ0:Mu} {c:D} {x2:Option D}:∀ (gs L:List Nat) (x3:Option D),L.length + gs.length < 16777216→∃ y3,Jq (gN 3) Q5 (iL gs) [some c,some (.ref μ0.length),x2,x3] (μ0++[.lst (iL L)])=.ok (.nx [some c,some (.ref μ0.length),x2,y3]) (μ0++[.lst (iL (gs.foldl ins L))])
 | [],L,x3,_=>⟨x3,rfl⟩
 | g::gs,L,x3,hl=>by
  rw [List.length_cons] at hl
  have hl':(ins L g).length + gs.length < 16777216:=by have:=@Wl L g;omega
  obtain ⟨y3,ih⟩:=Ap (μ0:=μ0) (c:=c) (x2:=x2) gs (ins L g) (some (.int g)) hl'
  refine ⟨y3,Eq.trans (V2 ?_) ih⟩
  have ht:mTest (mBin Zr (mVar 3) (mVar 1)) [some c,some (.ref μ0.length),x2,some (.int g)] (μ0++[.lst (iL L)])=.ok (!decide (g∈L)) (μ0++[.lst (iL L)]):=Jz (v_bin rfl rfl (by rw [Yy];exact a69 g L))
  show Q5 [some c,some (.ref μ0.length),x2,some (.int g)] (μ0++[.lst (iL L)])=_
  unfold ins
  split
  ·rename_i h
   rw [decide_eq_true h] at ht
   exact v_iteF ht
  ·rename_i h
   rw [decide_eq_false h] at ht
   refine (v_iteT ht).trans ((qg (Ar (y:=.int g) rfl rfl (by rw [iL,List.length_map];omega))).trans ?_)
   rw [show iL L++[D.int g]=iL (L++[g]) by simp [iL]]
section
variable {c:D} {ds:List D} {f:Nat→Vw} {μ0:Mu}
theorem dw (hc:y9 ds f) (hd:j4 μ0 c=.lst ds) (hn:ds.length < 1000):∀ (m p:Nat) (x2 x3:Option D),p + m=ds.length→∃ y2 y3,
  Jq (gN 2) Q4 (iL (List.range' p m)) [some c,some (.ref μ0.length),x2,x3] (μ0++[.lst (iL (Tl f p))])=.ok (.nx [some c,some (.ref μ0.length),y2,y3]) (μ0++[.lst (iL (Tl f (p + m)))])
 | 0,p,x2,x3,_=>⟨x2,x3,rfl⟩
 | m + 1,p,x2,x3,hm=>by
  have hp:p < ds.length:=by omega
  have hs:=hc p _ (List.getElem?_eq_getElem hp)
  have ht:mTest (mBin gIn (mVar 2) (mVar 1)) [some c,some (.ref μ0.length),some (.int p),x3] (μ0++[.lst (iL (Tl f p))])=.ok (decide (p∈Tl f p)) (μ0++[.lst (iL (Tl f p))]):=Jz (v_bin rfl rfl (by rw [Yy];exact ah7 p _))
  have key:∃ z3,Q4 [some c,some (.ref μ0.length),some (.int p),x3] (μ0++[.lst (iL (Tl f p))])=.ok (.nx [some c,some (.ref μ0.length),some (.int p),z3]) (μ0++[.lst (iL (Tl f (p + 1)))]):=by
   rw [Tl]
   split
   ·rename_i h
    rw [decide_eq_true h] at ht
    obtain ⟨z3,e⟩:=Ap (μ0:=μ0) (c:=c) (x2:=some (.int p)) ((f p).goals p) (Tl f p) x3 (by have:=b7 f p;have:=ut (f p) p;omega)
    refine ⟨z3,(v_iteT ht).trans ((v_for (Zw (v_call (v_cons (v_bin rfl rfl ?_) (v_cons rfl v_nil)) (Aj hs p _)))).trans e)⟩
    rw [E4 hd]
    exact fe (List.getElem?_eq_getElem hp)
   ·rename_i h
    rw [decide_eq_false h] at ht
    exact ⟨x3,v_iteF ht⟩
  obtain ⟨z3,e⟩:=key
  obtain ⟨y2,y3,ih⟩:=dw hc hd hn m (p + 1) (some (.int p)) z3 (by omega)
  refine ⟨y2,y3,?_⟩
  rw [qx,show p + (m + 1)=p + 1 + m by omega]
  exact (V2 e).trans ih
theorem dy (hc:y9 ds f) (hn:ds.length < 1000):f_there [.lst ds] μ0=.ok (.lst (iL (Tl f ds.length))) (μ0++[.dead]):=by
 obtain ⟨y2,y3,e⟩:=dw (c:=.lst ds) (μ0:=μ0) hc rfl hn ds.length 0 none none (by omega)
 rw [Nat.zero_add] at e
 have e0:∀ ρ:En,Vh (mCons (mC (.int 0)) mNil) ρ μ0=.ok (.ref μ0.length) (μ0++[.lst (iL (Tl f 0))]):=fun _=>rfl
 have e1:uu (mCallB gLen (mCons (mVar 0) mNil)) [some (.lst ds),some (.ref μ0.length),none,none] (μ0++[.lst (iL (Tl f 0))])=.ok (iL (List.range' 0 ds.length)) (μ0++[.lst (iL (Tl f 0))]):=Zf (v_callB (v_cons rfl v_nil) rfl) (by omega)
 refine Js 3 (Eq.trans (v_set 1 (e0 _)) (Eq.trans (v_seqN (Eq.trans (v_for e1) e)) ?_))
 have:=ge (i:=1) (n:=ju (mVar 1)) (ρ:=[some (.lst ds),some (.ref μ0.length),y2,y3]) (μ0:=μ0) (ν:=[]) (c:=.lst (iL (Tl f ds.length))) rfl rfl
 rw [List.append_nil,List.append_nil] at this
 exact this.trans (v_ret (Yu 1 rfl))
end
theorem a71 {L:List Nat} {g:Nat} (h:L.Nodup):(ins L g).Nodup:=by
 unfold ins
 split
 ·exact h
 ·rename_i hg
  rw [List.nodup_append]
  exact ⟨h,by simp,fun a ha b hb=>by cases List.mem_singleton.mp hb;exact fun z=>hg (z ▸ ha)⟩
theorem Go:∀ (gs:List Nat) {L:List Nat},L.Nodup→(gs.foldl ins L).Nodup
 | [],_,h=>h
 | g::gs,L,h=>Go gs (a71 h)
theorem Dg (f:Nat→Vw):∀ p,(Tl f p).Nodup
 | 0=>by simp [Tl]
 | p + 1=>by
  rw [Tl]
  split
  ·exact Go _ (Dg f p)
  ·exact Dg f p
section
variable {es:List D} {g:Nat→Vw}
theorem vf {f:Nat→Vw} {p q:Nat} (h:q∈Tl f p):∀ m,q∈Tl f (p + m)
 | 0=>h
 | m + 1=>by rw [← Nat.add_assoc,qa];exact .inl (vf h m)
theorem Tg.all {m:Nat} (T:Tg g m) (h0:0 < m):∀ i,i < m→i∈Tl g i:=by
 intro i
 induction i using Nat.strongRecOn with
 | ind i ih =>
  intro h
  rcases T.rc i h with z | ⟨j,hj,hg⟩
  ·subst z;simp [Tl]
  ·have h1:i∈Tl g (j + 1):=qa.mpr (.inr ⟨ih j hj (by omega),hg⟩)
   have:=vf h1 (i - (j + 1))
   rw [show j + 1 + (i - (j + 1))=i by omega] at this
   exact this
theorem Tg.inT {m:Nat} (T:Tg g m) (h0:0 < m):∀ p,p≤m→∀ i∈Tl g p,i < m
 | 0,_,i,hi=>by simp [Tl] at hi;omega
 | p + 1,h,i,hi=>by
  rcases qa.mp hi with h1 | ⟨_,h1⟩
  ·exact T.inT h0 p (by omega) i h1
  ·exact T.io p (by omega) i h1
theorem Xe {m:Nat} (T:Tg g m) (h0:0 < m):Z2 ((Tl g m).map fun (i:Nat)=>(i:Int))=(List.range' 0 m).map fun (i:Nat)=>(i:Int):=by
 refine Xd (List.Perm.map _ ?_) ?_
 ·rw [List.perm_ext_iff_of_nodup (List.nodup_range' ..) (Dg g m)]
  intro i
  rw [List.mem_range'_1]
  constructor
  ·intro h
   have:=vf (T.all h0 i (by omega)) (m - i)
   rw [show i + (m - i)=m by omega] at this
   exact this
  ·intro h
   have:=T.inT h0 m (Nat.le_refl _) i h
   omega
 ·rw [List.pairwise_map]
  exact (List.pairwise_lt_range' ..).imp fun h=>by omega
theorem fy:∀ L:List Nat,Zs (iL L)=some (L.map fun (i:Nat)=>(i:Int))
 | []=>rfl
 | x::L=>by show (Zs (iL L)).map _=_;rw [fy L];rfl
theorem fh:∀ L:List Nat,dpts (iL L)=0
 | []=>rfl
 | x::L=>by show max (dpt (D.int x)) (dpts (iL L))=0;rw [fh L];rfl
theorem a26 {m:Nat} (T:Tg g m) (h0:0 < m) (hm:m < 60):(Tl g m).length < 64:=by
 have:=congrArg List.length (Xe T h0)
 unfold Z2 at this
 rw [List.length_mergeSort,List.length_map,List.length_map,List.length_range'] at this
 omega
end
end K31
set_option Elab.async false
set_option linter.all false
set_option maxRecDepth 100000
set_option maxHeartbeats 1000000
namespace K31
open PySem PySem.Spec PyProof.Rows L2 M
noncomputable def isB:Vw→Bool
 | .br _ _=>true
 | _=>false
theorem dq {d:D} {v:Vw} (h:Sh d v):∃ x,jz d (.int 0)=some (.str x)∧gIn (.str x) (.tup [.str w_jump,.str yz,.str uo])=some (.bl v.lead)∧gEq (.str x) (.str w_jump)=some (.bl (isJ v))∧gIn (.str x) (.tup [.str Jl,.str jb])=some (.bl v.tel)∧gIn (.str x) (.tup [.str yz,.str uo])=some (.bl (isB v)) ∧
  (∀ k,v=.jp k→jz d (.int 1)=some (.int k))∧∀ a b,v=.br a b→jz d (.int (-1))=some (.int b)∧jz d (.int (-2))=some (.int a):=by
 cases h with
 | jump h=>exact ⟨_,rfl,rfl,rfl,rfl,rfl,fun k e=>by cases e;rfl,fun a b e=>(nomatch e)⟩
 | if_ _ _ _ _=>exact ⟨_,rfl,rfl,rfl,rfl,rfl,fun k e=>(nomatch e),fun a b e=>by cases e;exact ⟨rfl,rfl⟩⟩
 | ifx _ _ _=>exact ⟨_,rfl,rfl,rfl,rfl,rfl,fun k e=>(nomatch e),fun a b e=>by cases e;exact ⟨rfl,rfl⟩⟩
 | _=>exact ⟨_,rfl,rfl,rfl,rfl,rfl,fun k e=>(nomatch e),fun a b e=>(nomatch e)⟩
section
variable {es:List D} {g:Nat→Vw} {μ:Mu}
theorem b6:∀ (gs:List Nat),(∀ q∈gs,q < es.length)→∀ (a:Option D) (acc:List D),jy (gN 0) mTT (mBin jz (mVar 1) (mVar 0)) (iL gs) [a,some (.lst es)] μ acc=.ok (acc++gs.map fun q=>es.getD q .non) μ
 | [],_,_,acc=>by simp [jy,iL]
 | q::gs,h,a,acc=>by
  have e1:mBin jz (mVar 1) (mVar 0) [some (.int q),some (.lst es)] μ=.ok (es.getD q .non) μ:=v_step (Z9 (h q (List.mem_cons_self ..))) rfl rfl
  refine (Yf (ds:=iL gs) rfl e1).trans ((b6 gs (fun p hp=>h p (List.mem_cons_of_mem _ hp)) (some (.int q)) (acc++[es.getD q .non])).trans ?_)
  rw [List.append_assoc,List.singleton_append]
  rfl
theorem C0:∀ (xs:List D),(∀ d∈xs,∃ v,Sh d v∧isJ v=false)→∀ (a:Option D) (acc:List D),jy (gN 0) mTT (mBin gEq (mBin jz (mVar 0) (mC (.int 0))) (mC (.str w_jump))) xs [a] μ acc=.ok (acc++(xs.map fun _=>false).map D.bl) μ
 | [],_,_,acc=>by simp [jy]
 | d::xs,h,a,acc=>by
  obtain ⟨v,hs,hj⟩:=h d (List.mem_cons_self ..)
  obtain ⟨x,x1,_,x3,_⟩:=dq hs
  rw [hj] at x3
  have e1:mBin gEq (mBin jz (mVar 0) (mC (.int 0))) (mC (.str w_jump)) [some d] μ=.ok (.bl false) μ:=v_bin (x:=.str x) (v_bin (x:=d) rfl rfl (by rw [ua hs];exact x1)) rfl x3
  refine (Yf (ds:=xs) rfl e1).trans ((C0 xs (fun p hp=>h p (List.mem_cons_of_mem _ hp)) (some d) (acc++[.bl false])).trans ?_)
  rw [List.append_assoc,List.singleton_append]
  rfl
variable {s0 s1 s2 x5 x6 x7 x8:Option D} {i:Nat}
theorem eh (F:Fd es g) (hi:i < es.length):∃ y5 y6,Wj [s0,s1,s2,some (.lst es),some (.int i),x5,x6,x7,x8] μ=.ok (.nx [s0,s1,s2,some (.lst es),some (.int i),y5,y6,x7,x8]) μ:=by
 have hd:=Z9 hi
 have hs:=F.code _ _ hd
 obtain ⟨x,w1,w2,w3,_,w5,w6,w7⟩:=dq hs
 have io:=F.tg.io i hi
 refine ⟨some (es.getD i .non),some (.lst (((g i).goals i).map fun q=>es.getD q .non)),?_⟩
 have e1:jc 1 [3] (gN 0) (je (mCall zh (mCons (mVar 5) (mCons (mVar 4) mNil)))) mTT (mBin jz (mVar 1) (mVar 0)) [s0,s1,s2,some (.lst es),some (.int i),some (es.getD i .non),x6,x7,x8] μ=.ok (.lst (((g i).goals i).map fun q=>es.getD q .non)) μ:=by
  unfold jc
  rw [show je (mCall zh (mCons (mVar 5) (mCons (mVar 4) mNil))) [s0,s1,s2,some (.lst es),some (.int i),some (es.getD i .non),x6,x7,x8] μ=.ok (iL ((g i).goals i)) μ from Zw (v_call (v_cons rfl (v_cons rfl v_nil)) (Aj hs i μ)),bind_ok,if_pos (by have:=ut (g i) i;rw [iL,List.length_map];omega)]
  show (jy (gN 0) mTT _ _ [none,some (.lst es)] μ []).bind _=_
  rw [b6 _ io]
  rfl
 let ρ:En:=[s0,s1,s2,some (.lst es),some (.int i),some (es.getD i .non),some (.lst (((g i).goals i).map fun q=>es.getD q .non)),x7,x8]
 have word:mBin jz (mVar 5) (mC (.int 0)) ρ μ=.ok (.str x) μ:=v_bin (x:=es.getD i .non) rfl rfl (by rw [ua hs];exact w1)
 have t1:mTest (mBin gIn (mBin jz (mVar 5) (mC (.int 0))) (J6 (mCons (mC (.str w_jump)) (mCons (mC (.str yz)) (mCons (mC (.str uo)) mNil))))) ρ μ=.ok (g i).lead μ:=Jz (v_bin word rfl w2)
 have t2:mTest (mBin gEq (mBin jz (mVar 5) (mC (.int 0))) (mC (.str w_jump))) ρ μ=.ok (isJ (g i)) μ:=Jz (v_bin word rfl w3)
 have t3:mTest (mBin gIn (mBin jz (mVar 5) (mC (.int 0))) (J6 (mCons (mC (.str yz)) (mCons (mC (.str uo)) mNil)))) ρ μ=.ok (isB (g i)) μ:=Jz (v_bin word rfl w5)
 have c1:Yk (mTest (mBin gIn (mBin jz (mVar 5) (mC (.int 0))) (J6 (mCons (mC (.str w_jump)) (mCons (mC (.str yz)) (mCons (mC (.str uo)) mNil)))))) (U3 (mCallB gw (mCons (jc 1 [] (gN 0) (je (mVar 6)) mTT (mBin gEq (mBin jz (mVar 0) (mC (.int 0))) (mC (.str w_jump)))) mNil))) ρ μ=.ok false μ:=by
  cases hl:(g i).lead with
  | false=>rw [hl] at t1;exact Zv t1
  | true =>
   rw [hl] at t1
   refine (v_andT t1).trans (Zg (d:=.bl false) (v_callB (v_cons (d:=.lst ((((g i).goals i).map fun q=>es.getD q .non).map fun _=>.bl false)) ?_ v_nil) ?_) rfl)
   ·unfold jc
    rw [show je (mVar 6) ρ μ=.ok (((g i).goals i).map fun q=>es.getD q .non) μ from rfl,bind_ok,if_pos (by have:=ut (g i) i;rw [List.length_map];omega)]
    show (jy (gN 0) mTT _ _ [none] μ []).bind _=_
    rw [C0 _ fun d hd=>by
     obtain ⟨q,hq,rfl⟩:=List.mem_map.mp hd
     exact ⟨g q,F.code _ _ (Z9 (io q hq)),F.tg.jj i hi hl q hq⟩]
    simp
   ·show (Yn ((((g i).goals i).map fun q=>es.getD q .non).map fun _=>D.bl false)).map _=_
    have:=gq ((((g i).goals i).map fun q=>es.getD q .non).map fun _=>false)
    rw [List.map_map] at this
    rw [show ((((g i).goals i).map fun q=>es.getD q .non).map fun _=>D.bl false)=List.map (D.bl ∘ fun _=>false) (((g i).goals i).map fun q=>es.getD q .non) from rfl,this]
    show some (D.bl _)=_
    congr 2
    simp
 have c2:Yk (mTest (mBin gEq (mBin jz (mVar 5) (mC (.int 0))) (mC (.str w_jump)))) (mOr (mTest (mBin gIn (mBin jz (mBin jz (mVar 6) (mC (.int 0))) (mC (.int 0))) (J6 (mCons (mC (.str Jl)) (mCons (mC (.str jb)) mNil))))) (mTest (mBin gEq (mBin jz (mVar 5) (mC (.int 1))) (mC (.int 0))))) ρ μ=.ok false μ:=by
  cases hj:isJ (g i) with
  | false=>rw [hj] at t2;exact Zv t2
  | true =>
   rw [hj] at t2
   obtain ⟨k,e⟩:∃ k,g i=.jp k:=by cases e:g i <;> first | exact ⟨_,rfl⟩ | (rw [e] at hj;cases hj)
   obtain ⟨k1,k2⟩:=F.tg.j0 i hi k e
   have hq:=io (i + 1 + k) (by rw [e];simp [Vw.goals])
   have hsq:=F.code _ _ (Z9 hq)
   obtain ⟨y,y1,_,_,y4,_⟩:=dq hsq
   rw [k2] at y4
   have e0:mBin jz (mVar 6) (mC (.int 0)) ρ μ=.ok (es.getD (i + 1 + k) .non) μ:=by
    refine v_bin (x:=.lst (((g i).goals i).map fun q=>es.getD q .non)) rfl rfl ?_
    rw [e]
    rfl
   refine (v_andT t2).trans ((v_orF (Jz (v_bin (x:=.str y) (v_bin e0 rfl (by rw [ua hsq];exact y1)) rfl y4))).trans (Jz (v_bin (x:=.int k) (v_bin (x:=es.getD i .non) rfl rfl (by rw [ua hs];exact w6 k e)) rfl ?_)))
   refine (eqN k 0).trans ?_
   rw [show (k == 0)=false from by simp;omega]
 have c3:Yk (mTest (mBin gIn (mBin jz (mVar 5) (mC (.int 0))) (J6 (mCons (mC (.str yz)) (mCons (mC (.str uo)) mNil))))) (mTest (mBin gEq (mBin jz (mVar 5) (Yl (mC (.int 1)))) (mBin jz (mVar 5) (Yl (mC (.int 2)))))) ρ μ=.ok false μ:=by
  cases hb:isB (g i) with
  | false=>rw [hb] at t3;exact Zv t3
  | true =>
   rw [hb] at t3
   obtain ⟨a,b,e⟩:∃ a b,g i=.br a b:=by cases e:g i <;> first | exact ⟨_,_,rfl⟩ | (rw [e] at hb;cases hb)
   obtain ⟨u1,u2⟩:=w7 a b e
   refine (v_andT t3).trans (Jz (v_bin (x:=.int b) (y:=.int a) (v_bin (x:=es.getD i .non) (y:=.int (-1)) rfl rfl (by rw [ua hs];exact u1)) (v_bin (x:=es.getD i .non) (y:=.int (-2)) rfl rfl (by rw [ua hs];exact u2)) ?_))
   refine (eqN b a).trans ?_
   rw [show (b == a)=false from by simpa using fun z=>F.tg.bb i hi a b e z.symm]
 exact Eq.trans (v_set 5 (v_step hd rfl rfl)) (Eq.trans (v_set 6 e1) (Eq.trans (v_skip c1) (Eq.trans (v_skip c2) (v_iteF c3))))
theorem kx (F:Fd es g):∀ (r m:Nat),m + r=es.length→∀ (x4 x5 x6:Option D),∃ y4 y5 y6,Jq (gN 4) Wj (iL (List.range' m r)) [s0,s1,s2,some (.lst es),x4,x5,x6,x7,x8] μ=.ok (.nx [s0,s1,s2,some (.lst es),y4,y5,y6,x7,x8]) μ
 | 0,m,_,x4,x5,x6=>⟨x4,x5,x6,rfl⟩
 | r + 1,m,h,x4,x5,x6=>by
  obtain ⟨y5,y6,e⟩:=eh (μ:=μ) (s0:=s0) (s1:=s1) (s2:=s2) (x5:=x5) (x6:=x6) (x7:=x7) (x8:=x8) F (show m < es.length by omega)
  obtain ⟨z4,z5,z6,ih⟩:=kx F r (m + 1) (by omega) (some (.int m)) y5 y6
  refine ⟨z4,z5,z6,?_⟩
  rw [qx]
  exact (V2 e).trans ih
end
end K31
set_option Elab.async false
set_option linter.all false
set_option maxRecDepth 100000
set_option maxHeartbeats 1000000
namespace K31
open PySem PySem.Spec PyProof.Rows L2 M
theorem bw {mo mi mv:MX} {ρ:En} {xs:List D} {j:Nat} {v:D} (hv:mv ρ [.lst xs]=.ok v [.lst xs]) (ho:mo ρ [.lst xs]=.ok (.ref 0) [.lst xs]) (hi:mi ρ [.lst xs]=.ok (.int j) [.lst xs]) (hj:j < xs.length):Wq mo mi mv ρ [.lst xs]=.ok (.nx ρ) [.lst (xs.set j v)]:=by
 unfold Wq
 rw [hv,bind_ok,ho,bind_ok,hi,bind_ok]
 unfold Kq
 show (match ixN xs.length (j:Int) with
  | some n=>Res.ok (Out.nx ρ) [Cell.lst (xs.set n v)]
  | none=>.bad)=_
 have:ixN xs.length (j:Int)=some j:=by
  unfold ixN
  first
   | (rw [if_pos (by omega)];simp;done)
   | (simp;omega)
   | (split <;> simp <;> omega)
 rw [this]
noncomputable def upF (f:Nat→Vw) (j:Nat) (v:Vw):Nat→Vw:=fun i=>if i=j then v else f i
theorem Cm {ds:List D} {f:Nat→Vw} {j:Nat} {d:D} {v:Vw} (hc:y9 ds f) (hs:Sh d v):y9 (ds.set j d) (upF f j v):=by
 intro i x hx
 unfold upF
 by_cases z:i=j
 ·subst z
  rw [if_pos rfl]
  by_cases h:i < ds.length
  ·rw [List.getElem?_set_self h] at hx;cases hx;exact hs
  ·rw [List.getElem?_eq_none (by rw [List.length_set];omega)] at hx;cases hx
 ·rw [if_neg z]
  rw [List.getElem?_set_ne (Ne.symm z)] at hx
  exact hc i x hx
theorem a01 (ns:List Int) {n:Nat} (h1:n < 100):∀ (r m:Nat) (ds:List D) (f:Nat→Vw) (x2 x3 x4 x5 x6 x7 x8:Option D),ds.length=n→m + r + 1=n→y9 ds f→∃ ds' f' y2,ds'.length=n∧y9 ds' f' ∧
  Jq (gN 2) Wi (iL (List.range' m r)) [some (sc ns),some (.ref 0),x2,x3,x4,x5,x6,x7,x8] [.lst ds]=.ok (.nx [some (sc ns),some (.ref 0),y2,x3,x4,x5,x6,x7,x8]) [.lst ds']
 | 0,m,ds,f,x2,x3,x4,x5,x6,x7,x8,hl,_,hc=>⟨ds,f,x2,hl,hc,rfl⟩
 | r + 1,m,ds,f,x2,x3,x4,x5,x6,x7,x8,hl,hm,hc=>by
  let ρ:En:=[some (sc ns),some (.ref 0),some (.int m),x3,x4,x5,x6,x7,x8]
  have t1:mTest (mBin gEq (mBin Jf (mCall Up (mCons (mVar 0) (mCons (mBin Je (mC (.int 40)) (mVar 2)) mNil))) (mC (.int 4))) (mC (.int 0))) ρ [.lst ds]=.ok (mix ns (40 + m) % 4 == 0) [.lst ds] :=
   Jz (v_bin (x:=.int (mix ns (40 + m) % 4)) (v_bin (v_call (v_cons rfl (v_cons (v_bin rfl rfl rfl) v_nil)) (mix_at ns (40 + m) (by show (40:Int) + (m:Int)=_;omega) _)) rfl (g_mod _ _ (by decide))) rfl (ai2 ..))
  have key:∃ ds' f',ds'.length=n∧y9 ds' f'∧Wi ρ [.lst ds]=.ok (.nx ρ) [.lst ds']:=by
   cases hz:(mix ns (40 + m) % 4 == 0) with
   | false=>rw [hz] at t1;exact ⟨ds,f,hl,hc,v_iteF t1⟩
   | true =>
    rw [hz] at t1
    have hpos:0 < (if (n:Int) - m - 1 < 3 then (n:Int) - m - 1 else 3):=by split <;> omega
    have hle:(if (n:Int) - m - 1 < 3 then (n:Int) - m - 1 else 3)≤3:=by split <;> omega
    generalize hq:(if (n:Int) - m - 1 < 3 then (n:Int) - m - 1 else 3)=q at hpos hle
    have e1:J6 (mCons (mC (.str w_jump)) (mCons (mBin Jf (mCall Up (mCons (mVar 0) (mCons (mBin Je (mC (.int 30)) (mVar 2)) mNil))) (mCallB ah (mCons (mC (.int 3)) (mCons (mBin gSub (mBin gSub (mCallB gLen (mCons (mVar 1) mNil)) (mVar 2)) (mC (.int 1))) mNil)))) mNil)) ρ [.lst ds]=.ok (.tup [.str w_jump,.int ((mix ns (30 + m) % q).toNat:Int)]) [.lst ds]:=by
     refine Yt (v_cons rfl (v_cons ?_ v_nil))
     have e2:mCallB ah (mCons (mC (.int 3)) (mCons (mBin gSub (mBin gSub (mCallB gLen (mCons (mVar 1) mNil)) (mVar 2)) (mC (.int 1))) mNil)) ρ [.lst ds]=.ok (.int q) [.lst ds]:=by
      refine v_callB (ds:=[.int 3,.int ((n:Int) - m - 1)]) (v_cons rfl (v_cons (v_bin (x:=.int ((n:Int) - m)) (v_bin (x:=.int n) (v_callB (ds:=[.ref 0]) (v_cons rfl v_nil) (by show some (D.int (ds.length:Int))=_;rw [hl])) rfl rfl) rfl rfl) v_nil)) ?_
      rw [← hq]
      rfl
     refine v_bin (x:=.int (mix ns (30 + m))) (y:=.int q) (v_call (v_cons rfl (v_cons (v_bin rfl rfl rfl) v_nil)) (mix_at ns (30 + m) (by show (30:Int) + (m:Int)=_;omega) _)) e2 ?_
     refine (g_mod _ _ hpos).trans ?_
     rw [Int.toNat_of_nonneg (Int.emod_nonneg _ (by omega))]
    have hlt:=Int.emod_lt_of_pos (mix ns (30 + m)) hpos
    refine ⟨ds.set m (.tup [.str w_jump,.int ((mix ns (30 + m) % q).toNat:Int)]),upF f m (.jp (mix ns (30 + m) % q).toNat),by rw [List.length_set];exact hl,Cm hc (.jump (by omega)),(v_iteT t1).trans (bw e1 rfl rfl (by omega))⟩
  obtain ⟨ds',f',hl',hc',e⟩:=key
  obtain ⟨ds2,f2,y2,hl2,hc2,ih⟩:=a01 ns h1 r (m + 1) ds' f' (some (.int m)) x3 x4 x5 x6 x7 x8 hl' (by omega) hc'
  refine ⟨ds2,f2,y2,hl2,hc2,?_⟩
  rw [qx]
  exact (V2 e).trans ih
theorem Vf {es:List D} {g:Nat→Vw} (hc:y9 es g) (hn:es.length < 100) (h1:1≤es.length) (μ:Mu):∃ ν,Jk [.lst es] μ=.ok (.bl (first g es.length es.length).isNone) (μ++ν):=a81 (fwp_code hc hn h1) μ
theorem Km {es:List D} {g:Nat→Vw} (hc:y9 es g):plainDs es=true∧dpts es≤1:=by
 have go:∀ xs:List D,(∀ d∈xs,∃ v,Sh d v)→plainDs xs=true∧dpts xs≤1:=by
  intro xs
  induction xs with
  | nil=>intro _;exact ⟨rfl,Nat.zero_le _⟩
  | cons d xs ih =>
   intro h
   obtain ⟨v,hs⟩:=h d (List.mem_cons_self ..)
   obtain ⟨p1,p2⟩:=dn hs
   obtain ⟨q1,q2⟩:=ih fun x hx=>h x (List.mem_cons_of_mem _ hx)
   refine ⟨?_,?_⟩
   ·show (j7 d && plainDs xs)=true
    rw [p1,q1];rfl
   ·show max (dpt d) (dpts xs)≤1
    omega
 exact go es fun d hd=>by
  obtain ⟨i,hi⟩:=List.getElem?_of_mem hd
  exact ⟨_,hc i d hi⟩
theorem fm {xs:List D} (h1:plainDs xs=true) (h2:dpts xs≤50):gEq (.lst xs) (.lst xs)=some (.bl true):=by
 have h3:j7 (.lst xs)=true:=by simpa [j7] using h1
 unfold gEq qq
 rw [h3,decide_eq_true (by rw [Nat.min_self,dpt];omega),X3 _ h3]
 rfl
theorem law_true (ns:List Int) (hl:ns.length≤63):∃ μ,f_law [.lst (ns.map .int)] []=.ok (.bl true) μ:=by
 have hmany:(mix ns 60 % 13).toNat≤20:=by have:=Int.emod_lt_of_pos (mix ns 60) (show (0:Int) < 13 by decide);omega
 obtain ⟨ds0,vs,ec,el,hs⟩:=A5 ns (mix ns 60 % 13).toNat hmany
 have hn:(mix ns 60 % 13).toNat < 13:=by have:=Int.emod_lt_of_pos (mix ns 60) (show (0:Int) < 13 by decide);omega
 obtain ⟨ds,f,y2,hl2,hc,ej⟩:=a01 ns (n:=(mix ns 60 % 13).toNat + 1) (by omega) (mix ns 60 % 13).toNat 0 ds0 (fun i=>vs.getD i .tl) none none none none none none none el (by omega) hs.code
 have a1:mCall v5 (mCons (mVar 0) (mCons (mC (.int 0)) (mCons (mBin Jf (mCall Up (mCons (mVar 0) (mCons (mC (.int 60)) mNil))) (mC (.int 13))) mNil))) [some (sc ns),none,none,none,none,none,none,none,none] []=.ok (.ref 0) [.lst ds0]:=by
  refine v_call (ds:=[sc ns,.int 0,.int ((mix ns 60 % 13).toNat:Int)]) (v_cons rfl (v_cons rfl (v_cons (v_bin (x:=.int (mix ns 60)) (v_call (v_cons rfl (v_cons rfl v_nil)) (mix_at ns 60 rfl _)) rfl ?_) v_nil))) ec
  refine (g_mod _ _ (by decide)).trans ?_
  rw [Int.toNat_of_nonneg (Int.emod_nonneg _ (by decide))]
 have a2:uu (mBin gSub (mCallB gLen (mCons (mVar 1) mNil)) (mC (.int 1))) [some (sc ns),some (.ref 0),none,none,none,none,none,none,none] [.lst ds0]=.ok (iL (List.range' 0 (mix ns 60 % 13).toNat)) [.lst ds0]:=by
  refine Zf (v_bin (x:=.int (ds0.length:Int)) (v_callB (ds:=[.ref 0]) (v_cons rfl v_nil) rfl) rfl ?_) (by omega)
  show some (D.int ((ds0.length:Int) - 1))=_
  rw [el]
  exact congrArg (fun i=>some (D.int i)) (by omega)
 have h1:1≤ds.length:=by omega
 have h50:ds.length < 50:=by omega
 let ρ1:En:=[some (sc ns),some (.lst ds),y2,none,none,none,none,none,none]
 have frz1:∀ n:MSt,Q1 1 n [some (sc ns),some (.ref 0),y2,none,none,none,none,none,none] [.lst ds]=n ρ1 [.dead]:=fun n=>ge (μ0:=[]) (ν:=[]) (c:=.lst ds) rfl rfl
 obtain ⟨ν1,b1⟩:=Vf hc (by omega) h1 [Cell.dead]
 have b2:Ym (U3 (mCall Jk (mCons (mVar 1) mNil))) ρ1 [.dead]=.ok (!(first f ds.length ds.length).isNone) ([.dead]++ν1):=Xg (Zg (v_call (v_cons rfl v_nil) b1) rfl)
 cases hfi:first f ds.length ds.length with
 | some q =>
  rw [hfi] at b2
  refine ⟨_,Js 8 (Eq.trans (v_set 1 a1) (Eq.trans (v_seqN (Eq.trans (v_for a2) ej)) (v_seqR (Eq.trans (frz1 _) (Eq.trans (v_iteT b2) (v_ret rfl))))))⟩
 | none =>
  rw [hfi] at b2
  have hg:=gy hfi
  obtain ⟨ν2,s1⟩:=Xc hc hg (by omega) h1 ([Cell.dead]++ν1)
  have F:=a70 hc hg h50 h1
  have hle:((Lf f ds.length).map (nd ds f ds.length (Lf f ds.length))).length≤2 * ds.length:=by rw [List.length_map];exact (Ze f ds.length ds.length).1
  generalize (Lf f ds.length).map (nd ds f ds.length (Lf f ds.length))=es at s1 F hle
  generalize gN' f ds.length (Lf f ds.length)=g at F
  generalize [Cell.dead]++ν1++ν2=μ1 at s1
  have he:es.length < 60:=by omega
  let ρ3:En:=[some (sc ns),some (.lst ds),y2,some (.lst es),none,none,none,none,none]
  have frz3:∀ n:MSt,Q1 3 n [some (sc ns),some (.lst ds),y2,some (.ref μ1.length),none,none,none,none,none] (μ1++[.lst es])=n ρ3 (μ1++[.dead]):=fun n=>by
   have:=ge (i:=3) (n:=n) (ρ:=[some (sc ns),some (.lst ds),y2,some (.ref μ1.length),none,none,none,none,none]) (μ0:=μ1) (ν:=[]) (c:=.lst es) rfl rfl
   rw [List.append_nil,List.append_nil] at this
   exact this
  obtain ⟨ν3,c1⟩:=Vf F.code (by omega) F.pos (μ1++[.dead])
  rw [X1 F.good] at c1
  have c2:Ym (U3 (mCall Jk (mCons (mVar 3) mNil))) ρ3 (μ1++[.dead])=.ok false (μ1++[.dead]++ν3):=Xg (k:=true) (Zg (v_call (v_cons rfl v_nil) c1) rfl)
  generalize μ1++[Cell.dead]++ν3=μ2 at c2
  have c3:mTest (mBin gNe (mCallB gSorted (mCons (mCall f_there (mCons (mVar 3) mNil)) mNil)) (mListRng (mCallB gLen (mCons (mVar 3) mNil)))) ρ3 μ2=.ok false (μ2++[.dead]):=by
   refine Jz (v_bin (x:=.lst (iL (List.range' 0 es.length))) (y:=.lst (iL (List.range' 0 es.length))) (v_callB (v_cons (v_call (v_cons rfl v_nil) (dy F.code (by omega))) v_nil) ?_) ?_ ?_)
   ·show (Zs (iL (Tl g es.length))).bind _=_
    rw [fy,Option.bind_some,if_pos (by rw [List.length_map];exact a26 F.tg F.pos he),Xe F.tg F.pos,List.map_map]
    rfl
   ·unfold mListRng
    rw [show mCallB gLen (mCons (mVar 3) mNil) ρ3 (μ2++[Cell.dead])=.ok (.int es.length) (μ2++[Cell.dead]) from rfl,bind_ok]
    show ofO _ (if -1000000≤(es.length:Int)∧(es.length:Int) < 1000000 then some (D.lst ((List.range (es.length:Int).toNat).map fun k=>.int (k:Nat))) else none)=_
    rw [if_pos (by omega),Int.toNat_natCast,List.range_eq_range']
    rfl
   ·exact Bb (Za _) (by rw [fh];decide)
  obtain ⟨y4,y5,y6,d1⟩:=kx (μ:=μ2++[.dead]) (s0:=some (sc ns)) (s1:=some (.lst ds)) (s2:=y2) (x7:=none) (x8:=none) F es.length 0 (by omega) none none none
  have d0:uu (mCallB gLen (mCons (mVar 3) mNil)) ρ3 (μ2++[.dead])=.ok (iL (List.range' 0 es.length)) (μ2++[.dead]):=Zf (v_callB (v_cons rfl v_nil) rfl) (by omega)
  generalize μ2++[Cell.dead]=μ3 at c3 d1 d0
  obtain ⟨ν4,s2⟩:=Xc F.code F.good (by omega) F.pos μ3
  rw [again F] at s2
  generalize μ3++ν4=μ4 at s2
  obtain ⟨p1,p2⟩:=Km F.code
  have q1:Ux (ui (mVar 8) (J6 (mCons (mC (.str U6)) mNil))) [some (sc ns),some (.lst ds),y2,some (.lst es),y4,y5,y6,some (.lst es),some (.ref μ4.length)] (μ4++[.lst es])=.ok (.nx [some (sc ns),some (.lst ds),y2,some (.lst es),y4,y5,y6,some (.lst es),some (.ref μ4.length)]) (μ4++[.lst (es++[.tup [.str U6]])]):=qg (Ar rfl rfl (by omega))
  refine ⟨μ4++[.lst (es++[.tup [.str U6]])],Js 8 (Eq.trans (v_set 1 a1) (Eq.trans (v_seqN (Eq.trans (v_for a2) ej)) (Eq.trans (v_seqN (Eq.trans (frz1 _) (v_iteF b2))) (Eq.trans (v_set 3 (v_call (v_cons rfl v_nil) s1)) (Eq.trans (v_seqN (Eq.trans (frz3 _) (v_iteF (Eq.trans (v_orF c2) c3)))) (Eq.trans (v_seqN (Eq.trans (v_for d0) d1)) (Eq.trans (v_set 7 (v_callB (d:=.lst es) (v_cons rfl v_nil) rfl)) (Eq.trans (v_set 8 (v_call (v_cons rfl v_nil) s2)) (Eq.trans (v_seqN q1) (v_ret ?_))))))))))⟩
  refine G0 (k:=true) (k2:=true) (v_bin (x:=.lst es) (y:=.lst es) ?_ rfl (fm p1 (by omega))) (v_bin rfl rfl (fm p1 (by omega)))
  show ofO _ (gSl (j4 (μ4++[.lst (es++[.tup [.str U6]])]) (.ref μ4.length)) none (some (-1)))=_
  rw [Yy]
  show Res.ok (D.lst (M.cutD (es++[.tup [.str U6]]) none (some (-1)))) _=_
  have:M.cutD (es++[D.tup [.str U6]]) none (some (-1))=es:=by
   unfold M.cutD HT.sIx
   dsimp only
   rw [if_pos (by decide),List.drop_zero,Nat.sub_zero,List.length_append,List.length_singleton,show (-1 + ((es.length + 1:Nat):Int)).toNat=es.length by omega,List.take_left']
   rfl
  rw [this]
end K31
noncomputable def PySem.W.Fast.tw7216057248100089927 : Unit := ()
noncomputable def PySem.W.Fast.tw18328941169601165854 : Unit := ()
noncomputable def PySem.W.Fast.tw13548560425622532706 : Unit := ()
noncomputable def PySem.W.Fast.tw14093422362025467498 : PySem.Program := PySem.Challenge.pw_netsieve_k31_nothing_idle
theorem PySem.W.Fast.te14093422362025467498 : PySem.Challenge.pw_netsieve_k31_nothing_idle=PySem.W.Fast.tw14093422362025467498 := rfl
noncomputable def PySem.W.Fast.tw16307473821949673214 : Unit := ()
noncomputable def PySem.W.Fast.tw16172055308746134275 : Unit := ()
noncomputable def PySem.W.Fast.tw10664637693784138899 : Unit := ()
noncomputable def PySem.W.Fast.tw15617207547672273453 : Unit := ()
noncomputable def PySem.W.Fast.tw10700606496777279012 : Unit := ()
noncomputable def PySem.W.Fast.tw8067420889285258892 : Unit := ()
noncomputable def PySem.W.Fast.tw5416695331305119992 : Unit := ()
noncomputable def PySem.W.Fast.tw13862540138191936810 : Unit := ()
noncomputable def PySem.W.Fast.tw10520949416794394888 : Unit := ()
noncomputable def PySem.W.Fast.tw18346795801432787955 : Unit := ()
noncomputable def PySem.W.Fast.tw1772007113840993373 : Unit := ()
noncomputable def PySem.W.Fast.tw14221470192745333767 : Unit := ()
noncomputable def PySem.W.Fast.tw9175763455907682176 : Unit := ()
noncomputable def PySem.W.Fast.tw5633731387512717134 : Unit := ()
noncomputable def PySem.W.Fast.tw12808782504467802789 : Unit := ()
noncomputable def PySem.W.Fast.tw17668320735750198071 : Unit := ()
noncomputable def PySem.W.Fast.tw6191374286018344397 : Unit := ()
noncomputable def PySem.W.Fast.tw2609627709098998529 : Unit := ()
noncomputable def PySem.W.Fast.tw8090208824320419643 : Unit := ()
noncomputable def PySem.W.Fast.tw7957905337378778546 : Unit := ()
noncomputable def PySem.W.Fast.tw2496643077253733456 : Unit := ()
noncomputable def PySem.W.Fast.tw15701040344718813077 : Unit := ()
noncomputable def PySem.W.Fast.tw2119814627852828074 : Unit := ()
noncomputable def PySem.W.Fast.tw16693399575538516883 : Unit := ()
noncomputable def PySem.W.Fast.tw4892430297893903492 : Unit := ()
noncomputable def PySem.W.Fast.tw15486566645696342508 : Unit := ()
open PySem PySem.W PyProof.Rows
set_option maxRecDepth 100000 in
set_option maxHeartbeats 0 in
theorem PySem.Challenge.cw_netsieve_k31_nothing_idle_holds : PySem.Challenge.rw_netsieve_k31_nothing_idle.Holds := by
 w_on;o_law;k_head;(case hw=>w_witness2)
 k_fill
 refine M.walk_lawM (l := PySem.Challenge.rw_netsieve_k31_nothing_idle) (k := 8) (x := "_law_script") (φ := K31.f_law) rfl rfl ⟨rfl, by decide, by decide⟩ (fun w h Y=>PySem.W.kIn_of Y) ?F (fun ns hl=>K31.law_true ns hl)
 case F =>
  intro w mg fa h KX G hmg
  refine K31.finish hmg ?T
  refine' K31.mkT KX G ?n_range ?n_len ?n_max ?n_min ?n_enumerate ?n_isinstance ?n_tuple ?n_str ?n_zip ?n_int ?n_bool ?n_all ?n_any ?n_dict ?n_sorted ?n_list ?a_MOST_STEPS ?a_SLOTS ?a_PARTS ?l_PARTS ?h_PARTS ?l0_PARTS ?l1_PARTS ?l2_PARTS ?l3_PARTS ?l4_PARTS ?l5_PARTS ?l6_PARTS ?l7_PARTS ?l8_PARTS ?l9_PARTS ?l10_PARTS ?l11_PARTS ?l12_PARTS ?l13_PARTS ?l14_PARTS ?a_ROUND ?a_SIZES ?l_SIZES ?a_FARTHEST ?a_BASES ?l_BASES ?a_OPS ?l_OPS ?a_TESTS ?l_TESTS ?a_DIVIDING ?l_DIVIDING ?a_SHIFTING ?l_SHIFTING ?a_WIDTH ?a_LEADING ?l_LEADING ?a_TELLING ?l_TELLING ?d_cell ?d_mix ?d_k ?d_op ?d_step ?d_code ?d_p_no_slots ?d_p_is_whole ?d_p_is_number ?d_p_is_part ?d_p_can_be_done_by ?d_p_is_step ?d_p_lacks_its_slot ?d_p_goals_from ?d_p_hand_on ?d_p_kept_behind ?d_p_first_wrong_place ?d_p_is_let_in ?d_p_look ?d_p_led_goals ?d_p_ends_of ?d_p_own_places ?d_p_lead ?d_p_bridge_goals ?d_p_places_left ?d_p_new_step ?d_p_shrunk ?d_goals ?d_there ?d_law
  (case n_range=>k_is);(case n_len=>k_is);(case n_max=>k_is);(case n_min=>k_is)
  (case n_enumerate=>k_is);(case n_isinstance=>k_is);(case n_tuple=>k_is);(case n_str=>k_is)
  (case n_zip=>k_is);(case n_int=>k_is);(case n_bool=>k_is);(case n_all=>k_is)
  (case n_any=>k_is);(case n_dict=>k_is);(case n_sorted=>k_is);(case n_list=>k_is)
  (case a_MOST_STEPS=>k_is);(case a_SLOTS=>k_is);(case a_PARTS=>k_is);(case l_PARTS=>k_is)
  (case h_PARTS=>rfl);(case l0_PARTS=>k_is);(case l1_PARTS=>k_is);(case l2_PARTS=>k_is)
  (case l3_PARTS=>k_is);(case l4_PARTS=>k_is);(case l5_PARTS=>k_is);(case l6_PARTS=>k_is)
  (case l7_PARTS=>k_is);(case l8_PARTS=>k_is);(case l9_PARTS=>k_is);(case l10_PARTS=>k_is)
  (case l11_PARTS=>k_is);(case l12_PARTS=>k_is);(case l13_PARTS=>k_is);(case l14_PARTS=>k_is)
  (case a_ROUND=>k_is);(case a_SIZES=>k_is);(case l_SIZES=>k_is);(case a_FARTHEST=>k_is)
  (case a_BASES=>k_is);(case l_BASES=>k_is);(case a_OPS=>k_is);(case l_OPS=>k_is)
  (case a_TESTS=>k_is);(case l_TESTS=>k_is);(case a_DIVIDING=>k_is);(case l_DIVIDING=>k_is)
  (case a_SHIFTING=>k_is);(case l_SHIFTING=>k_is);(case a_WIDTH=>k_is);(case a_LEADING=>k_is)
  (case l_LEADING=>k_is);(case a_TELLING=>k_is);(case l_TELLING=>k_is);(case d_cell=>walk_at "dm")
  (case d_mix=>walk_at "dm");(case d_k=>walk_at "dm");(case d_op=>walk_at "dm");(case d_step=>walk_at "dm")
  (case d_code=>walk_at "dm");(case d_p_no_slots=>walk_at "dm");(case d_p_is_whole=>walk_at "dm");(case d_p_is_number=>walk_at "dm")
  (case d_p_is_part=>walk_at "dm");(case d_p_can_be_done_by=>walk_at "dm");(case d_p_is_step=>walk_at "dm");(case d_p_lacks_its_slot=>walk_at "dm")
  (case d_p_goals_from=>walk_at "dm");(case d_p_hand_on=>walk_at "dm");(case d_p_kept_behind=>walk_at "dm");(case d_p_first_wrong_place=>walk_at "dm")
  (case d_p_is_let_in=>walk_at "dm");(case d_p_look=>walk_at "dm");(case d_p_led_goals=>walk_at "dm");(case d_p_ends_of=>walk_at "dm")
  (case d_p_own_places=>walk_at "dm");(case d_p_lead=>walk_at "dm");(case d_p_bridge_goals=>walk_at "dm");(case d_p_places_left=>walk_at "dm")
  (case d_p_new_step=>walk_at "dm");(case d_p_shrunk=>walk_at "dm");(case d_goals=>walk_at "dm");(case d_there=>walk_at "dm")
  (case d_law=>walk_at "dm")
