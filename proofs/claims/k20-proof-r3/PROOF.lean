import PyProof.Rows.All
import Wide.All
import OpenK.AllK
import Wide.FinOn
import Lean
import PyProof.EqAt
import PyProof.EqKinds
import PyProof.TupleCall
import PySem.Challenge.RW_netsieve_k20_whole_compiled
set_option Elab.async false
set_option linter.all false
set_option maxRecDepth 100000
namespace L2
open PySem PySem.Spec PyProof.Rows
noncomputable abbrev Key:=Sum Int Str
noncomputable def Gz:Key→Value→Bool
 | .inl k,v=>Value.isInt k v
 | .inr x,v=>Value.isStrOf x v
noncomputable def keyH (w:World):Key→Int
 | .inl k=>hashInt k
 | .inr x=>hashStr w x
theorem ul:∀ {k:Key} {v:Value},Gz k v=true→(∃ i t,k=Sum.inl i∧v=Value.int i t)∨(∃ x t,k=Sum.inr x∧v=Value.str x t)
 | .inl i,v,h=>by
  obtain ⟨t,e⟩:=Value.isInt_shape (k:=i) (v:=v) h
  exact .inl ⟨i,t,rfl,e⟩
 | .inr x,v,h=>by
  obtain ⟨t,e⟩:=Value.isStrOf_shape (x:=x) (v:=v) h
  exact .inr ⟨x,t,rfl,e⟩
theorem a07 (i:Int) (t:Tok):Gz (.inl i) (.int i t)=true:=by simp [Gz,Value.isInt]
theorem a06 (x:Str) (t:Tok):Gz (.inr x) (.str x t)=true:=by simp [Gz,Value.isStrOf]
theorem aD9 (a b:Int):decide ((Sum.inl a:Key)=Sum.inl b)=(a == b):=by
 by_cases e:a=b
 ·subst e;simp
 ·have h:¬ (Sum.inl a:Key)=Sum.inl b:=fun q=>e (Sum.inl.inj q)
  rw [decide_eq_false h]
  exact (beq_eq_false_iff_ne.mpr e).symm
theorem aD6 (a b:Str):decide ((Sum.inr a:Key)=Sum.inr b)=decide (a=b):=by
 by_cases e:a=b
 ·subst e;simp
 ·have h:¬ (Sum.inr a:Key)=Sum.inr b:=fun q=>e (Sum.inr.inj q)
  rw [decide_eq_false h,decide_eq_false e]
theorem aD8 (a:Int) (b:Str):decide ((Sum.inl a:Key)=Sum.inr b)=false:=decide_eq_false (fun q=>nomatch q)
theorem aD7 (a:Str) (b:Int):decide ((Sum.inr a:Key)=Sum.inl b)=false:=decide_eq_false (fun q=>nomatch q)
noncomputable def Jn (prog:Program) (w:World):PySem.KeyKind prog w Key where
 is:=Gz
 hash:=keyH w
 inj:=fun v a b ha hb=>by
  rcases ul ha with ⟨i,t,rfl,rfl⟩ | ⟨x,t,rfl,rfl⟩
  ·rcases ul hb with ⟨j,u,rfl,e⟩ | ⟨y,u,rfl,e⟩
   ·injection e with e1 _;rw [e1]
   ·exact nomatch e
  ·rcases ul hb with ⟨j,u,rfl,e⟩ | ⟨y,u,rfl,e⟩
   ·exact nomatch e
   ·injection e with e1 _;rw [e1]
 byValue:=fun k v h=>by
  rcases ul h with ⟨i,t,rfl,rfl⟩ | ⟨x,t,rfl,rfl⟩ <;> rfl
 pyHash:=fun hv h=>by
  rcases ul hv with ⟨i,t,rfl,rfl⟩ | ⟨x,t,rfl,rfl⟩
  ·exact wpAny_pyHash_int h
  ·exact wpAny_pyHash_str h
 eqBool:=fun hu hv h=>by
  rcases ul hu with ⟨i,t,rfl,rfl⟩ | ⟨x,t,rfl,rfl⟩
  ·rcases ul hv with ⟨j,u,rfl,rfl⟩ | ⟨y,u,rfl,rfl⟩
   ·rw [aD9] at h;exact wpAny_eqBool_int h
   ·rw [aD8] at h;exact SeqAt.EqAt.int_str i t y u _ _ _ _ h
  ·rcases ul hv with ⟨j,u,rfl,rfl⟩ | ⟨y,u,rfl,rfl⟩
   ·rw [aD7] at h;exact SeqAt.EqAt.str_int x t j u _ _ _ _ h
   ·rw [aD6] at h;exact wpAny_eqBool_str h
 «strs»:=fun k x t v h=>by
  rcases ul h with ⟨i,u,rfl,e⟩ | ⟨y,u,rfl,e⟩
  ·exact nomatch e
  ·injection e with e1 _
   subst e1
   cases v <;> rfl
theorem dq (prog:Program) (w:World) (i:Int) (t:Tok):(Jn prog w).is (.inl i) (.int i t)=true:=a07 i t
theorem du (prog:Program) (w:World) (x:Str) (t:Tok):(Jn prog w).is (.inr x) (.str x t)=true:=a06 x t
end L2
namespace L2
open PySem PySem.Spec PyProof.Rows
inductive V where
 | non | bl (b:Bool) | int (i:Int) | str (x:Str) | byt (b:Array UInt8) | flt (b:UInt64) | ref (a:Addr) | ty (n:String)
 deriving DecidableEq
noncomputable def Jv:V→Value→Prop
 | .non,u=>u=Value.none
 | .bl b,u=>u=Value.bool b
 | .int i,u=>∃ t,u=Value.int i t
 | .str x,u=>∃ t,u=Value.str x t
 | .byt b,u=>∃ t,u=Value.bytes b t
 | .flt b,u=>∃ t,u=Value.float b t
 | .ref a,u=>u=Value.ref a
 | .ty n,u=>u=Value.type n
noncomputable abbrev J7:List V→List Value→Prop:=Paired Jv
theorem J7.length {xs:List V} {us:List Value} (r:J7 xs us):xs.length=us.length:=Paired.length r
theorem J7.get:∀ {xs:List V} {us:List Value} {i:Nat} {x:V},J7 xs us→xs[i]? =some x→∃ u,us[i]? =some u∧Jv x u
 | _,_,_,_,.nil,e=>by simp at e
 | _,_,0,_,.cons r _,e=>by simp at e;subst e;exact ⟨_,rfl,r⟩
 | _,_,i + 1,x,.cons _ t,e=>by
  obtain ⟨u,h1,h2⟩:=J7.get (i:=i) (x:=x) t (by simpa using e)
  exact ⟨u,by simpa using h1,h2⟩
theorem J7.append:∀ {xs ys:List V} {us ws:List Value},J7 xs us→J7 ys ws→J7 (xs++ys) (us++ws)
 | _,_,_,_,.nil,s=>s
 | _,_,_,_,.cons r t,s=>.cons r (J7.append t s)
theorem J7.take:∀ {xs:List V} {us:List Value} (n:Nat),J7 xs us→J7 (xs.take n) (us.take n)
 | _,_,0,_=>.nil
 | _,_,_ + 1,.nil=>.nil
 | _,_,n + 1,.cons r t=>.cons r (J7.take n t)
theorem J7.drop:∀ {xs:List V} {us:List Value} (n:Nat),J7 xs us→J7 (xs.drop n) (us.drop n)
 | _,_,0,r=>r
 | _,_,_ + 1,.nil=>.nil
 | _,_,n + 1,.cons _ t=>J7.drop n t
noncomputable def Qp:Option V→Option Value→Prop
 | some v,some u=>Jv v u
 | none,none=>True
 | _,_=>False
noncomputable def KV {κ:Type}:List (κ×V)→List (κ×Value)→Prop:=Paired fun (p:κ×V) (q:κ×Value)=>p.1=q.1∧Jv p.2 q.2
noncomputable def kV:Key→V
 | .inl i=>.int i
 | .inr x=>.str x
inductive HO where
 | lst (xs:List V)
 | tup (xs:List V)
 | dK (kvs:List (Key×V)) | dT (kvs:List (List Key×V))
 | set (S:Int→Bool) (n:Nat)
 | ins (C dx:Addr) (fs:List (Str×V))
 | own (x:Addr)
 | xd (fs:List (Str×V))
 | met (f x:Addr)
 | rng (lo hi:Int)
 | frz (o:Obj) (u:HO)
 | tbl (ps:Array Value)
 | ext (φ:Heap→Prop)
noncomputable abbrev Hp:=Addr→Option HO
noncomputable def upd (H:Hp) (a:Addr) (o:HO):Hp:=fun b=>if b=a then some o else H b
theorem J4 {H:Hp} {a:Addr} {o:HO}:upd H a o a=some o:=by unfold upd;rw [if_pos rfl]
theorem jo {H:Hp} {a b:Addr} {o:HO} (h:b≠a):upd H a o b=H b:=by unfold upd;rw [if_neg h]
theorem Gg {H:Hp} {a:Addr} {o u:HO}:upd (upd H a o) a u=upd H a u:=by
 funext b;unfold upd;split <;> rfl
theorem aN2 {H:Hp} {a b:Addr} {o u:HO} (h:H a=some o) (h':H b=some u) (d:o≠u):a≠b:=by
 intro e;subst e;rw [h] at h';exact d (Option.some.inj h')
theorem jf {H:Hp} {a b:Addr} {o:HO} (h:H a=some o) (h':H b=none):a≠b:=by
 intro e;subst e;rw [h] at h';cases h'
section
variable (P:Program) (w:World)
noncomputable def U0 (H:Hp) (h:Heap) (a:Addr):HO→Prop
 | .lst xs=>xs.length≤sizeLine∧∃ (its:List Value) (n:Nat),J7 xs its∧h.get? a=some { cls:=.type "list",data:=.seq its.toArray n}
 | .tup xs=>xs.length≤sizeLine∧∃ its:List Value,J7 xs its∧IsTup h a its.toArray
 | .dK kvs=>kvs.length≤sizeLine∧(a == sysModules)=false∧∃ vs,KV kvs vs∧h.DictOf (Jn P w) a vs
 | .dT kvs=>kvs.length≤sizeLine∧(a == sysModules)=false∧∃ xs:List (List Key×Addr×Value),
   Paired (fun (p:List Key×V) (q:List Key×Addr×Value)=>p.1=q.1∧H q.2.1=some (.tup (p.1.map kV))∧Jv p.2 q.2.2) kvs xs ∧
   ∃ o es ep,h.get? a=some o∧o.ExactDict∧o.data=.dict es ep∧es.toList=xs.map (entryOfKey (tupleKind (Jn P w)))∧(xs.map (·.1)).Nodup
 | .set S n=>h.SetOf (intKind P w) a S n
 | .ins C dx fs=>H dx=some (.own a)∧fs.length≤1000∧dx≠a∧h.get? a=some (PySem.W.instObj C dx) ∧
   ∃ mA,h.Ns1 dx mA∧(∀ f,Qp (fs.lookup f) (mA f))∧PySem.Within mA (fs.map (·.1))
 | .own _=>∃ o,h.get? a=some o
 | .xd fs=>∃ mA,h.Ns1 a mA∧∀ f,Qp (fs.lookup f) (mA f)
 | .rng lo hi=>∃ t u v,h.get? a=some { cls:=.type "range",data:=.fields #[.int lo t,.int hi u,.int 1 v]}
 | .frz o u=>h.get? a=some o∧U0 H h a u
 | .tbl ps=>h.get? a=some { cls:=.none,data:=.fields ps}
 | .met f x=>h.get? a=some (PySem.W.methodObj (.ref f) (.ref x))
 | .ext φ=>φ h∧(∃ o,h.get? a=some o)∧∀ h1 h2:Heap,φ h1→(∀ o,h1.get? a=some o→h2.get? a=some o)→φ h2
noncomputable def HOk (H:Hp) (h:Heap):Prop:=∀ a o,H a=some o→U0 P w H h a o
end
section
variable {P:Program} {w:World} {H H':Hp} {h h':Heap} {a:Addr} {o:HO}
theorem U0.lt (x:U0 P w H h a o):a < h.objs.size:=by
 cases o with
 | lst xs=>obtain ⟨_,_,_,_,e⟩:=x;exact Heap.lt_size e
 | tup xs=>obtain ⟨_,_,_,p⟩:=x;exact p.lt
 | dK kvs=>obtain ⟨_,_,_,_,o,_,_,e,_⟩:=x;exact Heap.lt_size e
 | dT kvs=>obtain ⟨_,_,_,_,o,_,_,e,_⟩:=x;exact Heap.lt_size e
 | set S n=>obtain ⟨o,_,_,_,e,_⟩:=x;exact Heap.lt_size e
 | ins C dx fs=>obtain ⟨_,_,_,e,_⟩:=x;exact Heap.lt_size e
 | own y=>obtain ⟨_,e⟩:=x;exact Heap.lt_size e
 | xd fs=>obtain ⟨_,⟨_,_,_,e,_⟩,_⟩:=x;exact Heap.lt_size e
 | rng lo hi=>obtain ⟨_,_,_,e⟩:=x;exact Heap.lt_size e
 | frz ob u=>obtain ⟨e,_⟩:=x;exact Heap.lt_size e
 | tbl ps=>exact Heap.lt_size (show h.get? a=some _ from x)
 | met f y=>exact Heap.lt_size (show h.get? a=some _ from x)
 | ext φ=>obtain ⟨_,⟨_,e⟩,_⟩:=x;exact Heap.lt_size e
theorem Paired.mapP {α β:Type} {F G:α→β→Prop}:∀ {l₁:List α} {l₂:List β},Paired F l₁ l₂→(∀ a b,F a b→G a b)→Paired G l₁ l₂
 | _,_,.nil,_=>.nil
 | _,_,.cons r t,f=>.cons (f _ _ r) (Paired.mapP t f)
theorem U0.stay (x:U0 P w H h a o) (k:∀ b u,(b=a∨H b=some (.own a))→h.get? b=some u→h'.get? b=some u)
  (ho:∀ b,H b=some (.own a)→H' b=some (.own a)) (ht:∀ b xs,H b=some (.tup xs)→H' b=some (.tup xs)):U0 P w H' h' a o:=by
 induction o with
 | lst xs=>obtain ⟨z,its,n,r,e⟩:=x;exact ⟨z,its,n,r,k _ _ (.inl rfl) e⟩
 | tup xs=>obtain ⟨z,its,r,ob,e,c⟩:=x;exact ⟨z,its,r,ob,k _ _ (.inl rfl) e,c⟩
 | dK kvs=>obtain ⟨z,y,vs,r,ob,es,ep,e,c⟩:=x;exact ⟨z,y,vs,r,ob,es,ep,k _ _ (.inl rfl) e,c⟩
 | dT kvs =>
  obtain ⟨z,y,xs,r,ob,es,ep,e,c⟩:=x
  exact ⟨z,y,xs,Paired.mapP r fun p q z=>⟨z.1,ht _ _ z.2.1,z.2.2⟩,ob,es,ep,k _ _ (.inl rfl) e,c⟩
 | set S n=>obtain ⟨ob,es,ep,t,e,c⟩:=x;exact ⟨ob,es,ep,t,k _ _ (.inl rfl) e,c⟩
 | ins C dx fs =>
  obtain ⟨d,z,ne,e,mA,⟨od,es,ep,e2,c⟩,r⟩:=x
  exact ⟨ho _ d,z,ne,k _ _ (.inl rfl) e,mA,⟨od,es,ep,k _ _ (.inr d) e2,c⟩,r⟩
 | own y=>obtain ⟨ob,e⟩:=x;exact ⟨ob,k _ _ (.inl rfl) e⟩
 | xd fs=>obtain ⟨mA,⟨od,es,ep,e,c⟩,r⟩:=x;exact ⟨mA,⟨od,es,ep,k _ _ (.inl rfl) e,c⟩,r⟩
 | rng lo hi=>obtain ⟨t,u,v,e⟩:=x;exact ⟨t,u,v,k _ _ (.inl rfl) e⟩
 | frz ob u ih=>obtain ⟨e,q⟩:=x;exact ⟨k _ _ (.inl rfl) e,ih q⟩
 | tbl ps =>
  have e:h.get? a=some { cls:=.none,data:=.fields ps}:=x
  show h'.get? a=some { cls:=.none,data:=.fields ps}
  exact k a _ (.inl rfl) e
 | met f y =>
  have e:h.get? a=some (PySem.W.methodObj (.ref f) (.ref y)):=x
  show h'.get? a=some (PySem.W.methodObj (.ref f) (.ref y))
  exact k a _ (.inl rfl) e
 | ext φ=>obtain ⟨p,⟨o,e⟩,st⟩:=x;exact ⟨st _ _ p fun o q=>k _ _ (.inl rfl) q,⟨o,k _ _ (.inl rfl) e⟩,st⟩
theorem HOk.lt (x:HOk P w H h) (e:H a=some o):a < h.objs.size:=(x a o e).lt
theorem HOk.fresh (x:HOk P w H h) (e:h.objs.size≤a):H a=none:=by
 cases q:H a with
 | none=>rfl
 | some u=>exact absurd (Nat.lt_of_lt_of_le (x.lt q) e) (Nat.lt_irrefl _)
theorem HOk.kept (x:HOk P w H h) (k:∀ b u,h.get? b=some u→h'.get? b=some u):HOk P w H h':=fun a o e =>
 (x a o e).stay (fun b u _ q=>k b u q) (fun _ q=>q) fun _ _ q=>q
theorem HOk.laid (x:HOk P w H h) (k:∀ b u,h.get? b=some u→h'.get? b=some u) (hp:h.objs.size≤a) (new:U0 P w (upd H a o) h' a o):HOk P w (upd H a o) h':=fun b u e=>by
 have hn:=x.fresh hp
 by_cases hb:b=a
 ·subst hb;rw [J4] at e;cases e;exact new
 ·rw [jo hb] at e
  exact (x b u e).stay (fun c v _ q=>k c v q) (fun c q=>by rw [jo (jf q hn)];exact q) fun c xs q=>by rw [jo (jf q hn)];exact q
end
noncomputable def Rd (H:Hp) (a:Addr) (u:HO):Prop:=H a=some u∨∃ o,H a=some (.frz o u)
theorem Rd.ok {P:Program} {w:World} {H:Hp} {h:Heap} {a:Addr} {u:HO} (r:Rd H a u) (x:HOk P w H h):U0 P w H h a u:=by
 rcases r with r | ⟨o,r⟩
 ·exact x a u r
 ·obtain ⟨_,q⟩:=x a _ r
  exact q
noncomputable def Mut:Option HO→Prop
 | some (.lst _)=>True
 | some (.dK _)=>True
 | some (.dT _)=>True
 | some (.set _ _)=>True
 | some (.ins _ _ _)=>True
 | some (.ext _)=>True
 | _=>False
section
variable {P:Program} {w:World} {H:Hp} {h h':Heap} {x e:Addr} {o':HO}
theorem HOk.write (ok:HOk P w H h) (mu:Mut (H x)) (he:e=x∨H e=some (.own x)) (k:∀ b u,b≠e→h.get? b=some u→h'.get? b=some u) (heo:∃ u,h'.get? e=some u)
  (new:U0 P w (upd H x o') h' x o'):HOk P w (upd H x o') h':=fun b u q=>by
 have nown:∀ c y,H c=some (.own y)→c≠x:=fun c y r z=>by subst z;rw [r] at mu;exact mu
 have ntup:∀ c xs,H c=some (.tup xs)→c≠x:=fun c xs r z=>by subst z;rw [r] at mu;exact mu
 by_cases hb:b=x
 ·subst hb;rw [J4] at q;cases q;exact new
 ·rw [jo hb] at q
  by_cases hbe:b=e
  ·have q':H b=some (.own x):=by
    rcases he with z | z
    ·exact absurd (hbe.trans z) hb
    ·rw [hbe];exact z
   rw [q] at q';cases q'
   obtain ⟨v,hv⟩:=heo
   exact ⟨v,by rw [hbe];exact hv⟩
  ·refine (ok b u q).stay (fun c v hc r=>k c v ?_ r) (fun c r=>by rw [jo (nown c b r)];exact r) fun c xs r=>by rw [jo (ntup c xs r)];exact r
   rcases hc with rfl | hc
   ·exact hbe
   ·rintro rfl
    rcases he with z | z
    ·exact nown c b hc z
    ·rw [hc] at z;cases z;exact hb rfl
end
structure Un (fs ex:List Addr) (H H':Hp) (h h':Heap):Prop where
 keep:∀ b o,h.get? b=some o→H b=none→b∉fs→b∉ex→h'.get? b=some o
 slot:∀ b o,h.get? b=some o→H b=none→b∈fs→b∉ex→∃ sl,h'.get? b=some { o with slots:=sl}
 free:∀ b o,h.get? b=some o→H b=none→b∉ex→H' b=none
 there:∀ b o,h.get? b=some o→b∉ex→∃ o',h'.get? b=some o'
 tups:∀ b xs,H b=some (.tup xs)→H' b=some (.tup xs)
 frzs:∀ b o u,H b=some (.frz o u)→H' b=some (.frz o u)
 tbls:∀ b ps,H b=some (.tbl ps)→∃ more,H' b=some (.tbl (ps++more))
section
variable {fs fs' ex ex':List Addr} {H H1 H2:Hp} {h h1 h2 h':Heap} {a x e:Addr} {o:HO}
theorem Un.any (u:Un fs ex H H1 h h1) {b:Addr} {ob:Obj} (q:h.get? b=some ob) (n:H b=none) (hx:b∉ex):∃ sl,h1.get? b=some { ob with slots:=sl}:=by
 by_cases hb:b∈fs
 ·exact u.slot b ob q n hb hx
 ·exact ⟨ob.slots,u.keep b ob q n hb hx⟩
theorem Un.trans (a:Un fs ex H H1 h h1) (b:Un fs ex H1 H2 h1 h2):Un fs ex H H2 h h2 where
 keep:=fun c ob q n hc hx=>b.keep c ob (a.keep c ob q n hc hx) (a.free c ob q n hx) hc hx
 slot:=fun c ob q n hc hx=>by
  obtain ⟨sl,e1⟩:=a.slot c ob q n hc hx
  obtain ⟨sl',e2⟩:=b.slot c _ e1 (a.free c ob q n hx) hc hx
  exact ⟨sl',e2⟩
 free:=fun c ob q n hx=>by
  obtain ⟨o',e1⟩:=a.there c ob q hx
  exact b.free c o' e1 (a.free c ob q n hx) hx
 there:=fun c ob q hx=>by
  obtain ⟨o',e1⟩:=a.there c ob q hx
  exact b.there c o' e1 hx
 tups:=fun c xs q=>b.tups c xs (a.tups c xs q)
 frzs:=fun c ob xs q=>b.frzs c ob xs (a.frzs c ob xs q)
 tbls:=fun c ps q=>by
  obtain ⟨m1,e1⟩:=a.tbls c ps q
  obtain ⟨m2,e2⟩:=b.tbls c _ e1
  exact ⟨m1++m2,by rw [e2,Array.append_assoc]⟩
theorem Un.kept (k:∀ b u,h.get? b=some u→h'.get? b=some u):Un fs ex H H h h' :=
 ⟨fun b ob q _ _ _=>k b ob q,fun b ob q _ _ _=>⟨ob.slots,k b ob q⟩,fun _ _ _ n _=>n,fun b ob q _=>⟨ob,k b ob q⟩,fun _ _ q=>q,fun _ _ _ q=>q,fun _ ps q=>⟨#[],by rw [q];simp⟩⟩
theorem Un.refl:Un fs ex H H h h:=Un.kept fun _ _ q=>q
theorem Un.laid (k:∀ b u,h.get? b=some u→h'.get? b=some u) (hp:h.objs.size≤a) (hn:H a=none):Un fs ex H (upd H a o) h h' where
 keep:=fun b u q _ _ _=>k b u q
 slot:=fun b u q _ _ _=>⟨u.slots,k b u q⟩
 free:=fun b u q n _=>by rw [jo (Nat.ne_of_lt (Nat.lt_of_lt_of_le (Heap.lt_size q) hp))];exact n
 there:=fun b u q _=>⟨u,k b u q⟩
 tups:=fun b xs q=>by rw [jo (jf q hn)];exact q
 frzs:=fun b u xs q=>by rw [jo (jf q hn)];exact q
 tbls:=fun b ps q=>⟨#[],by rw [jo (jf q hn),q];simp⟩
theorem Un.write (mu:Mut (H x)) (he:e=x∨H e=some (.own x)) (k:∀ b u,b≠e→h.get? b=some u→h'.get? b=some u) (heo:∃ u,h'.get? e=some u):Un fs ex H (upd H x o) h h':=by
 have hx:∀ b,H b=none→b≠x:=fun b n z=>by subst z;rw [n] at mu;exact mu
 have hb:∀ b,H b=none→b≠e:=fun b n z=>by
  subst z
  rcases he with r | r
  ·exact hx b n r
  ·rw [n] at r;cases r
 have hm:∀ b u,H b=some u→¬ Mut (some u)→b≠x:=fun b u q nm z=>by subst z;rw [q] at mu;exact nm mu
 refine ⟨fun b u q n _ _=>k b u (hb b n) q,fun b u q n _ _=>⟨u.slots,k b u (hb b n) q⟩,fun b u q n _=>by rw [jo (hx b n)];exact n,fun b u q _=>?_,
  fun b xs q=>by rw [jo (hm b _ q fun z=>z)];exact q,fun b u xs q=>by rw [jo (hm b _ q fun z=>z)];exact q,fun b ps q=>⟨#[],by rw [jo (hm b _ q fun z=>z),q];simp⟩⟩
 by_cases hbe:b=e
 ·subst hbe;exact heo
 ·exact ⟨u,k b u hbe q⟩
end
noncomputable def trk (h:Heap) (H:Hp):List Addr:=(List.range h.objs.size).filter fun a=>(H a).isSome
noncomputable def Fz (h:Heap) (H:Hp):Heap:=PySem.W.hideAll h (trk h H)
theorem a11 (h:Heap) (H:Hp):(Fz h H).objs.size=h.objs.size:=PySem.W.hideAll_size _ _
theorem ac6 {h:Heap} {H:Hp} {b:Addr} {o:Obj} (e:h.get? b=some o) (n:H b=none):(Fz h H).get? b=some o :=
 PySem.W.hideAll_get _ e fun hm=>by
  have q:(H b).isSome=true:=(List.mem_filter.mp hm).2
  rw [n] at q;simp at q
theorem am0 {h:Heap} {H:Hp} {b:Addr} {o:Obj} (e:(Fz h H).get? b=some o):h.get? b=some o∧H b=none:=by
 have e':h.get? b=some o:=PySem.W.of_hideAll (trk h H) e
 refine ⟨e',?_⟩
 cases q:H b with
 | none=>rfl
 | some x =>
  have hm:b∈trk h H:=List.mem_filter.mpr ⟨List.mem_range.mpr (Heap.lt_size e'),by simp [q]⟩
  have z:(Fz h H).get? b=none:=PySem.W.hideAll_none (trk h H) hm
  rw [z] at e;cases e
noncomputable def aq4 (g h:Heap) (L:Addr):List (Addr×Obj):=(List.range h.objs.size).filterMap fun a=>if a=L∨(g.get? a).isSome=true then none else (h.get? a).map fun o=>(a,o)
noncomputable def rest (g h:Heap) (L d:Addr):List (Addr×Obj):=(aq4 g h L).filter fun p=>decide (p.1≠d)
end L2
namespace L2
open PySem PySem.Spec PyProof.Rows
structure Mod (K:PySem.W.Frag) (mg:Str→Option Value) (base:Heap):Prop where
 kin:K.In base
 glob:base.Ns mainGlobals mg
 blt:∃ mb,base.Ns builtinsNs mb∧∀ x:Str,x≠"__name__"→mb x=bootBuiltins x
 nolimit:base.NoLimit
structure Cx where
 prog:Program
 w:World
 K:PySem.W.Frag
 mg:Str→Option Value
 base:Heap
 A:Around
 N:List Str
 s₀:Shared
 H₀:Hp
 env:Env
 outer:List Env
 stack:List Env
 ex:List Addr
 fn:Str→Bool
 calm:Bool
 pn:List (Addr×Obj)
 xe:Value→Shared→Prop
noncomputable def frs (l:List Env):List Addr:=l.filterMap (·.frame)
noncomputable abbrev Cx.fs (X:Cx):List Addr:=frs X.outer
noncomputable def Vis (sc:Scope) (x:Str):Prop:=sc.names.lookup x=some .local∨sc.names.lookup x=some .cell∨sc.names.lookup x=some .free
noncomputable def Loc (sc:Scope) (x:Str):Prop:=sc.names.lookup x=some .local∨sc.names.lookup x=some .cell
noncomputable def Look (env:Env) (h:Heap) (m:Str→Option Value) (x:Str) (u:Value):Prop :=
 (env.kindOf x=some .local∧m x=some u)∨((env.kindOf x=some .cell∨env.kindOf x=some .free)∧∃ c,env.cells.lookup x=some c∧h.IsCell c (some u))
structure Cx.Ok (X:Cx):Prop where
 mod:Mod X.K X.mg X.base
 kind:X.env.scope.kind=.function
 glob:X.env.globals=mainGlobals
 blt:X.env.builtins=builtinsNs
 above:X.s₀.heap.objs.size≤X.env.locals
 inj:∀ x y c,X.env.cells.lookup x=some c→X.env.cells.lookup y=some c→x=y
 has:∀ x,(X.env.kindOf x=some .cell∨X.env.kindOf x=some .free)→∃ c,X.env.cells.lookup x=some c
 cab:∀ x c,X.fn x=true→X.env.cells.lookup x=some c→X.s₀.heap.objs.size≤c
 hd:X.calm=true→X.A.handled=none
 frames:X.A.frames=some X.stack
 stk:X.stack=X.outer∨(X.stack=X.env::X.outer∧X.env.frame=some X.env.locals)
 exf:∀ b∈X.ex,b≠X.env.locals∧∀ x c,X.env.cells.lookup x=some c→c≠b
 bs:∀ b o,X.base.get? b=some o→X.s₀.heap.get? b=some o∧X.H₀ b=none
 bsz:X.base.objs.size≤X.s₀.heap.objs.size
 noex:∀ b o,X.base.get? b=some o→b∉X.ex
 exfs:∀ b∈X.ex,b∉X.fs
 funs:X.s₀.heap.FunFrames X.base X.outer
 frf:∀ b∈X.fs,X.H₀ b=none
structure Inv (X:Cx) (pins:List (Addr×Obj)) (σ:List (Option V)) (H:Hp) (s:Shared):Prop where
 ok:X.Ok
 os:s.os=X.s₀.os
 bare:AllBare s.gens
 base:Un X.fs X.ex X.H₀ H X.s₀.heap s.heap
 loc:∃ m,s.heap.Ns X.env.locals m∧∀ (i:Nat) (x:Str) (v:V),X.N[i]? =some x→σ[i]? =some (some v)→Vis X.env.scope x→∃ u,Jv v u∧Look X.env s.heap m x u
 cell:∀ x c,X.env.cells.lookup x=some c→∃ v,s.heap.IsCell c v
 free:H X.env.locals=none
 freeC:∀ x c,X.env.cells.lookup x=some c→H c=none
 pin:∀ p∈X.pn++pins,s.heap.get? p.1=some p.2∧H p.1=none∧p.1≠X.env.locals∧p.1∉X.fs∧∀ v,p.2.data≠.cell v
 hok:HOk X.prog X.w H s.heap
 len:σ.length=X.N.length
section
variable {X:Cx} {pins:List (Addr×Obj)} {σ:List (Option V)} {H H':Hp} {s:Shared} {h':Heap}
theorem Cx.Ok.nofr (ok:X.Ok) {b:Addr} {o:Obj} (e:X.base.get? b=some o):b∉X.fs:=fun hb=>by
 have:=(ok.funs.mem hb).1
 rw [e] at this;cases this
theorem Inv.bs (I:Inv X pins σ H s):∀ b o,X.base.get? b=some o→s.heap.get? b=some o∧H b=none:=fun b o e =>
 ⟨I.base.keep b o (I.ok.bs b o e).1 (I.ok.bs b o e).2 (I.ok.nofr e) (I.ok.noex b o e),I.base.free b o (I.ok.bs b o e).1 (I.ok.bs b o e).2 (I.ok.noex b o e)⟩
theorem Inv.bk (I:Inv X pins σ H s):∀ b o,X.base.get? b=some o→s.heap.get? b=some o:=fun b o e=>(I.bs b o e).1
theorem Inv.mod (I:Inv X pins σ H s):Mod X.K X.mg X.base:=I.ok.mod
theorem Inv.kIn (I:Inv X pins σ H s):X.K.In s.heap:=I.ok.mod.kin.keeps I.bk
theorem Inv.fr (I:Inv X pins σ H s):∃ m,Fr X.base X.env.locals s.heap m :=
 let ⟨m,hn,_⟩:=I.loc
 ⟨m,hn,I.bk,Nat.le_trans I.ok.bsz I.ok.above⟩
theorem Inv.lt (I:Inv X pins σ H s):X.env.locals < s.heap.objs.size:=let ⟨_,hn,_⟩:=I.loc;hn.lt
theorem Inv.sz (I:Inv X pins σ H s):X.s₀.heap.objs.size≤s.heap.objs.size:=Nat.le_trans I.ok.above (Nat.le_of_lt I.lt)
theorem Inv.nofs (I:Inv X pins σ H s) {a:Addr} (h:s.heap.objs.size≤a):a∉X.fs:=fun hb=>by
 obtain ⟨_,o,ho,_⟩:=I.ok.funs.mem hb
 exact absurd (Nat.lt_of_lt_of_le (Heap.lt_size ho) (Nat.le_trans I.sz h)) (Nat.lt_irrefl _)
theorem Inv.cne (I:Inv X pins σ H s):∀ x c,X.env.cells.lookup x=some c→c≠X.env.locals:=fun x c e z=>by
 obtain ⟨v,o,ho,hd⟩:=I.cell x c e
 obtain ⟨m,⟨o',es,ep,ho',hd',_⟩,_⟩:=I.loc
 rw [z,ho'] at ho;cases ho;rw [hd'] at hd;cases hd
theorem Inv.funs (I:Inv X pins σ H s):s.heap.FunFrames X.base X.outer:=by
 have all:∀ (l:List Env),(∀ b∈frs l,b∈X.fs)→X.s₀.heap.FunFrames X.base l→s.heap.FunFrames X.base l:=by
  intro l
  induction l with
  | nil=>intro _ _;trivial
  | cons env r ih =>
   intro hs hl
   obtain ⟨hk,⟨L,o,hf,hn,ho,hd⟩,hr⟩:=hl
   have hL:L∈X.fs:=hs L (by unfold frs;rw [List.filterMap_cons,hf];exact List.mem_cons_self)
   obtain ⟨sl,e⟩:=I.base.slot L o ho (I.ok.frf L hL) hL fun z=>I.ok.exfs L z hL
   exact ⟨hk,⟨L,_,hf,hn,e,hd⟩,ih (fun b hb=>hs b (by unfold frs;rw [List.filterMap_cons,hf];exact List.mem_cons_of_mem _ hb)) hr⟩
 exact all X.outer (fun _ hb=>hb) I.ok.funs
theorem Inv.stack (I:Inv X pins σ H s):s.heap.FunFrames X.base X.stack:=by
 rcases I.ok.stk with e | ⟨e,hf⟩
 ·rw [e];exact I.funs
 ·rw [e]
  obtain ⟨m,hn,_⟩:=I.loc
  refine .cons (by rw [I.ok.kind];decide) hf hn ?_ I.funs
  exact Heap.get?_none_of_le (Nat.le_trans I.ok.bsz I.ok.above)
theorem Inv.stkSub (I:Inv X pins σ H s):∀ b∈frs X.stack,b∈X.env.locals::X.fs:=fun b hb=>by
 rcases I.ok.stk with e | ⟨e,hf⟩
 ·rw [e] at hb;exact List.mem_cons_of_mem _ hb
 ·rw [e] at hb
  unfold frs at hb
  rw [List.filterMap_cons,hf] at hb
  exact hb
theorem Inv.stkFree (I:Inv X pins σ H s):∀ b∈frs X.stack,H b=none:=fun b hb=>by
 rcases List.mem_cons.mp (I.stkSub b hb) with e | hb
 ·rw [e];exact I.free
 ·obtain ⟨_,o,ho,_⟩:=I.ok.funs.mem hb
  exact I.base.free b o ho (I.ok.frf b hb) fun z=>I.ok.exfs b z hb
theorem Inv.step {g':Array GenState} {t':Nat} {d':Drawn} {ch:List Addr} (I:Inv X pins σ H s)
  (hch:∀ b∈ch,(b∈X.ex∨X.s₀.heap.objs.size≤b)∧b≠X.env.locals∧(∀ x c,X.env.cells.lookup x=some c→c≠b)∧∀ p∈X.pn++pins,p.1≠b)
  (keep:∀ b o,b≠X.env.locals→b∉X.fs→b∉ch→s.heap.get? b=some o→H b=none→h'.get? b=some o)
  (slot:∀ b o,b≠X.env.locals→b∈X.fs→b∉ch→s.heap.get? b=some o→H b=none→∃ sl,h'.get? b=some { o with slots:=sl}) (free:∀ b o,b∉ch→s.heap.get? b=some o→H b=none→H' b=none)
  (there:∀ b o,b∉ch→s.heap.get? b=some o→∃ o',h'.get? b=some o')
  (tups:∀ b xs,H b=some (.tup xs)→H' b=some (.tup xs)) (frzs:∀ b o u,H b=some (.frz o u)→H' b=some (.frz o u)) (tbls:∀ b ps,H b=some (.tbl ps)→∃ more,H' b=some (.tbl (ps++more)))
  (ns:∀ m,s.heap.Ns X.env.locals m→h'.Ns X.env.locals m) (hok:HOk X.prog X.w H' h') (hg:AllBare g') :
  Inv X pins σ H' { s with heap:=h',gens:=g',drawn:=d',toks:=t'}:=by
 have neL:∀ b o,X.s₀.heap.get? b=some o→b≠X.env.locals:=fun b o e=>Nat.ne_of_lt (Nat.lt_of_lt_of_le (Heap.lt_size e) I.ok.above)
 have neC:∀ b o,X.s₀.heap.get? b=some o→b∉X.ex→b∉ch:=fun b o e hx hb=>by
  rcases (hch b hb).1 with z | z
  ·exact hx z
  ·exact absurd (Nat.lt_of_lt_of_le (Heap.lt_size e) z) (Nat.lt_irrefl _)
 have cellK:∀ x c,X.env.cells.lookup x=some c→∀ v,s.heap.IsCell c v→h'.IsCell c v:=fun x c e v ⟨o,ho,hd⟩=>by
  have nch:c∉ch:=fun z=>(hch c z).2.2.1 x c e rfl
  by_cases hc:c∈X.fs
  ·obtain ⟨sl,q⟩:=slot c o (I.cne x c e) hc nch ho (I.freeC x c e)
   exact ⟨_,q,hd⟩
  ·exact ⟨o,keep c o (I.cne x c e) hc nch ho (I.freeC x c e),hd⟩
 refine ⟨I.ok,I.os,hg,⟨fun b o e n hb hx=>?_,fun b o e n hb hx=>?_,fun b o e n hx=>?_,fun b o e hx=>?_,fun b xs e=>tups b xs (I.base.tups b xs e),fun b o xs e=>frzs b o xs (I.base.frzs b o xs e),fun b ps e=>?_⟩,?_,fun x c e=>?_,?_,fun x c e=>?_,fun p hp=>?_,hok,I.len⟩
 ·exact keep b o (neL b o e) hb (neC b o e hx) (I.base.keep b o e n hb hx) (I.base.free b o e n hx)
 ·obtain ⟨sl,e1⟩:=I.base.slot b o e n hb hx
  obtain ⟨sl',e2⟩:=slot b _ (neL b o e) hb (neC b o e hx) e1 (I.base.free b o e n hx)
  exact ⟨sl',e2⟩
 ·obtain ⟨o',e1⟩:=I.base.there b o e hx
  exact free b o' (neC b o e hx) e1 (I.base.free b o e n hx)
 ·obtain ⟨o',e1⟩:=I.base.there b o e hx
  exact there b o' (neC b o e hx) e1
 ·obtain ⟨m1,e1⟩:=I.base.tbls b ps e
  obtain ⟨m2,e2⟩:=tbls b _ e1
  exact ⟨m1++m2,by rw [e2,Array.append_assoc]⟩
 ·obtain ⟨m,hn,hl⟩:=I.loc
  refine ⟨m,ns m hn,fun i x v e1 e2 e3=>?_⟩
  obtain ⟨u,r,l⟩:=hl i x v e1 e2 e3
  refine ⟨u,r,?_⟩
  rcases l with l | ⟨k,c,e,z⟩
  ·exact .inl l
  ·exact .inr ⟨k,c,e,cellK x c e _ z⟩
 ·obtain ⟨v,z⟩:=I.cell x c e
  exact ⟨v,cellK x c e v z⟩
 ·obtain ⟨m,⟨o,_,_,ho,_⟩,_⟩:=I.loc
  exact free _ o (fun z=>(hch _ z).2.1 rfl) ho I.free
 ·obtain ⟨v,o,ho,hd⟩:=I.cell x c e
  exact free c o (fun z=>(hch c z).2.2.1 x c e rfl) ho (I.freeC x c e)
 ·obtain ⟨e,n,ne,nf,d⟩:=I.pin p hp
  have nch:p.1∉ch:=fun z=>(hch p.1 z).2.2.2 p hp rfl
  exact ⟨keep p.1 p.2 ne nf nch e n,free p.1 p.2 nch e n,ne,nf,d⟩
theorem Inv.un {t':Nat} (I:Inv X pins σ H s) (u:Un X.fs [] H H' s.heap h') (hok:HOk X.prog X.w H' h'):Inv X pins σ H' { s with heap:=h',toks:=t'}:=by
 obtain ⟨m,⟨o,es,ep,ho,r⟩,_⟩:=id I.loc
 obtain ⟨sl,hL⟩:=u.any ho I.free (by simp)
 exact I.step (g':=s.gens) (d':=s.drawn) (ch:=[]) (fun _ z=>nomatch z) (fun b o _ hb _ e n=>u.keep b o e n hb (by simp)) (fun b o _ hb _ e n=>u.slot b o e n hb (by simp)) (fun b o _ e n=>u.free b o e n (by simp)) (fun b o _ e=>u.there b o e (by simp)) u.tups u.frzs u.tbls (fun m' hm=>by
  obtain ⟨o',es',ep',ho',r'⟩:=hm
  rw [ho] at ho';cases ho'
  exact ⟨_,es',ep',hL,r'⟩) hok I.bare
theorem Inv.call {g':Array GenState} {t':Nat} {d':Drawn} {ch:List Addr} (I:Inv X pins σ H s) (u:Un (frs X.stack) ch H H' s.heap h') (hok:HOk X.prog X.w H' h') (hg:AllBare g')
  (hch:∀ b∈ch,(b∈X.ex∨X.s₀.heap.objs.size≤b)∧b≠X.env.locals∧(∀ x c,X.env.cells.lookup x=some c→c≠b)∧∀ p∈X.pn++pins,p.1≠b) :
  Inv X pins σ H' { s with heap:=h',gens:=g',drawn:=d',toks:=t'}:=by
 obtain ⟨m,⟨o,es,ep,ho,r⟩,_⟩:=id I.loc
 obtain ⟨sl,hL⟩:=u.any ho I.free fun z=>(hch _ z).2.1 rfl
 exact I.step (ch:=ch) hch (fun b o hL hb hc e n=>u.keep b o e n (fun z=>(List.mem_cons.mp (I.stkSub b z)).elim hL hb) hc) (fun b o _ _ hc e n=>u.any e n hc) (fun b o hc e n=>u.free b o e n hc) (fun b o hc e=>u.there b o e hc) u.tups u.frzs u.tbls (fun m' hm=>by
  obtain ⟨o',es',ep',ho',r'⟩:=hm
  rw [ho] at ho';cases ho'
  exact ⟨_,es',ep',hL,r'⟩) hok hg
theorem Inv.turned {t':Nat} {it:Addr} (I:Inv X pins σ H s) (k:∀ b o,b≠it→s.heap.get? b=some o→h'.get? b=some o) (hn:H it=none) (hL:it≠X.env.locals)
  (h1:it∈X.ex∨X.s₀.heap.objs.size≤it) (h2:∀ x c,X.env.cells.lookup x=some c→c≠it) (h3:∀ p∈X.pn++pins,p.1≠it):Inv X pins σ H { s with heap:=h',toks:=t'}:=by
 have nit:∀ b u,H b=some u→b≠it:=fun b u e z=>by rw [z,hn] at e;cases e
 refine I.step (g':=s.gens) (d':=s.drawn) (ch:=[it]) (fun b hb=>?_) (fun b o _ _ hc e _=>k b o (fun z=>hc (by simp [z])) e) (fun b o _ _ hc e _=>⟨o.slots,k b o (fun z=>hc (by simp [z])) e⟩) (fun _ _ _ _ n=>n)
  (fun b o hc e=>⟨o,k b o (fun z=>hc (by simp [z])) e⟩) (fun _ _ e=>e) (fun _ _ _ e=>e) (fun b ps e=>⟨#[],by rw [e];simp⟩) (fun m hm=>?_) (fun b u e=>?_) I.bare
 ·have e:b=it:=by simpa using hb
  subst e
  exact ⟨h1,hL,h2,h3⟩
 ·obtain ⟨o,es,ep,ho,r⟩:=hm
  exact ⟨o,es,ep,k _ o (Ne.symm hL) ho,r⟩
 ·refine (I.hok b u e).stay (fun c v hc q=>k c v ?_ q) (fun _ q=>q) fun _ _ q=>q
  rcases hc with z | z
  ·rw [z];exact nit b u e
  ·exact nit c _ z
theorem Inv.tok (I:Inv X pins σ H s) (t:Nat):Inv X pins σ H { s with toks:=t}:=I.un (h':=s.heap) (t':=t) Un.refl I.hok
theorem Inv.kept {t':Nat} (I:Inv X pins σ H s) (k:∀ b u,s.heap.get? b=some u→h'.get? b=some u):Inv X pins σ H { s with heap:=h',toks:=t'}:=I.un (Un.kept k) (I.hok.kept k)
theorem Inv.laid {a:Addr} {o:HO} {t':Nat} (I:Inv X pins σ H s) (k:∀ b u,s.heap.get? b=some u→h'.get? b=some u) (hp:s.heap.objs.size≤a) (new:U0 X.prog X.w (upd H a o) h' a o) :
  Inv X pins σ (upd H a o) { s with heap:=h',toks:=t'}:=I.un (Un.laid k hp (I.hok.fresh hp)) (I.hok.laid k hp new)
theorem Inv.write {x e:Addr} {o:HO} {t':Nat} (I:Inv X pins σ H s) (mu:Mut (H x)) (he:e=x∨H e=some (.own x)) (k:∀ b u,b≠e→s.heap.get? b=some u→h'.get? b=some u) (heo:∃ u,h'.get? e=some u)
  (new:U0 X.prog X.w (upd H x o) h' x o):Inv X pins σ (upd H x o) { s with heap:=h',toks:=t'}:=I.un (Un.write mu he k heo) (I.hok.write mu he k heo new)
theorem Inv.pins_of {pins':List (Addr×Obj)} (I:Inv X pins σ H s) (h:∀ p∈pins',s.heap.get? p.1=some p.2∧H p.1=none∧p.1≠X.env.locals∧p.1∉X.fs∧∀ v,p.2.data≠.cell v):Inv X pins' σ H s :=
 ⟨I.ok,I.os,I.bare,I.base,I.loc,I.cell,I.free,I.freeC,fun p hp=>(List.mem_append.mp hp).elim (fun z=>I.pin p (List.mem_append_left _ z)) (h p),I.hok,I.len⟩
theorem d9 {N:List Str} (hN:N.Nodup) {i j:Nat} {x:Str} (a:N[i]? =some x) (b:N[j]? =some x):i=j:=by
 obtain ⟨h1,e1⟩:=List.getElem?_eq_some_iff.mp a
 obtain ⟨h2,e2⟩:=List.getElem?_eq_some_iff.mp b
 exact (List.getElem_inj hN).mp (e1.trans e2.symm)
theorem Ar {M:Model} {A:Around} {E:Value→Shared→Prop} {i:Nat} {x:Str} {v:V} {u:Value} {Q:Unit→Shared→Prop} (I:Inv X pins σ H s) (hN:X.N.Nodup) (hi:X.N[i]? =some x) (hx:Loc X.env.scope x) (r:Jv v u)
  (h:∀ s',Inv X pins (σ.set i (some v)) H s'→(∃ a,Heap.SameBut a s.heap s'.heap∧(a=X.env.locals∨X.env.cells.lookup x=some a))→Q () s') (hf:X.fn x=true∨X.env.scope.names.lookup x=some .local:=by first | exact .inl rfl | exact .inr rfl | assumption):wpAny M A (storeName X.env x u) Q E s:=by
 obtain ⟨m,hn,hl⟩:=id I.loc
 have hcls:(X.env.scope.kind == .class || (X.env.scope.kind == .module && X.env.locals != X.env.globals))=false:=by rw [I.ok.kind];rfl
 have hiσ:i < σ.length:=by rw [I.len];exact (List.getElem?_eq_some_iff.mp hi).1
 have cne:=I.cne
 have tracked:∀ {a:Addr} {h':Heap},(∃ o,s.heap.get? a=some o∧H a=none)→Heap.SameBut a s.heap h'→HOk X.prog X.w H h':=fun {a h'} ha hs b ob e=>by
  obtain ⟨_,_,hfree⟩:=ha
  refine (I.hok b ob e).stay (fun c w' hc q=>(hs.2 c ?_).trans q) (fun _ q=>q) fun _ _ q=>q
  rintro rfl
  rcases hc with rfl | hc
  ·rw [hfree] at e;cases e
  ·rw [hfree] at hc;cases hc
 rcases hx with hk | hk
 ·refine wpAny_storeName_local hk hn (fun h' hn' hs=>?_) hcls
  obtain ⟨oL,_,_,hoL,_⟩:=id hn
  refine h _ ⟨I.ok,I.os,I.bare,⟨fun b o e n hb hx=>?_,fun b o e n hb hx=>?_,I.base.free,fun b o e hx=>?_,I.base.tups,I.base.frzs,I.base.tbls⟩,⟨_,hn',fun j y v' e1 e2 e3=>?_⟩,fun y c e=>?_,I.free,I.freeC,fun p hp=>?_,tracked ⟨oL,hoL,I.free⟩ hs,by simpa using I.len⟩ ⟨_,hs,.inl rfl⟩
  ·exact (hs.2 b (Nat.ne_of_lt (Nat.lt_of_lt_of_le (Heap.lt_size e) I.ok.above))).trans (I.base.keep b o e n hb hx)
  ·obtain ⟨sl,e1⟩:=I.base.slot b o e n hb hx
   exact ⟨sl,(hs.2 b (Nat.ne_of_lt (Nat.lt_of_lt_of_le (Heap.lt_size e) I.ok.above))).trans e1⟩
  ·obtain ⟨o',e1⟩:=I.base.there b o e hx
   exact ⟨o',(hs.2 b (Nat.ne_of_lt (Nat.lt_of_lt_of_le (Heap.lt_size e) I.ok.above))).trans e1⟩
  ·by_cases hj:j=i
   ·subst hj
    rw [hi] at e1;cases e1
    rw [List.getElem?_set_self hiσ] at e2
    cases e2
    exact ⟨u,r,.inl ⟨hk,by simp⟩⟩
   ·rw [List.getElem?_set_ne (Ne.symm hj)] at e2
    obtain ⟨u',r',q⟩:=hl j y v' e1 e2 e3
    refine ⟨u',r',?_⟩
    rcases q with ⟨k,e⟩ | ⟨k,c,e,z⟩
    ·refine .inl ⟨k,?_⟩
     have:y≠x:=fun e=>hj (d9 hN e1 (e ▸ hi))
     simp [this,e]
    ·exact .inr ⟨k,c,e,z.sameBut hs (cne y c e)⟩
  ·obtain ⟨w',z⟩:=I.cell y c e
   exact ⟨w',z.sameBut hs (cne y c e)⟩
  ·obtain ⟨e,n,ne,nf,d⟩:=I.pin p hp
   exact ⟨(hs.2 p.1 ne).trans e,n,ne,nf,d⟩
 ·have hfn:X.fn x=true:=by
   rcases hf with z | z
   ·exact z
   ·rw [z] at hk;cases hk
  obtain ⟨c,hc⟩:=I.ok.has x (.inl hk)
  obtain ⟨w',z⟩:=I.cell x c hc
  refine wpAny_storeName_cell I.ok.kind hk hc z (fun h' hc' hs=>?_)
  obtain ⟨oc,hoc,hocd⟩:=id z
  refine h { s with heap:=h'} ⟨I.ok,I.os,I.bare,⟨fun b o e n hb hx=>?_,fun b o e n hb hx=>?_,I.base.free,fun b o e hx=>?_,I.base.tups,I.base.frzs,I.base.tbls⟩,⟨m,hn.sameBut hs (Ne.symm (cne x c hc)),fun j y v' e1 e2 e3=>?_⟩,fun y c' e=>?_,I.free,I.freeC,fun p hp=>?_,tracked ⟨oc,hoc,I.freeC x c hc⟩ hs,by simpa using I.len⟩ ⟨c,hs,.inr hc⟩
  ·exact (hs.2 b (Nat.ne_of_lt (Nat.lt_of_lt_of_le (Heap.lt_size e) (I.ok.cab x c hfn hc)))).trans (I.base.keep b o e n hb hx)
  ·obtain ⟨sl,e1⟩:=I.base.slot b o e n hb hx
   exact ⟨sl,(hs.2 b (Nat.ne_of_lt (Nat.lt_of_lt_of_le (Heap.lt_size e) (I.ok.cab x c hfn hc)))).trans e1⟩
  ·obtain ⟨o',e1⟩:=I.base.there b o e hx
   exact ⟨o',(hs.2 b (Nat.ne_of_lt (Nat.lt_of_lt_of_le (Heap.lt_size e) (I.ok.cab x c hfn hc)))).trans e1⟩
  ·by_cases hj:j=i
   ·subst hj
    rw [hi] at e1;cases e1
    rw [List.getElem?_set_self hiσ] at e2
    cases e2
    exact ⟨u,r,.inr ⟨.inl hk,c,hc,hc'⟩⟩
   ·rw [List.getElem?_set_ne (Ne.symm hj)] at e2
    obtain ⟨u',r',q⟩:=hl j y v' e1 e2 e3
    refine ⟨u',r',?_⟩
    rcases q with q | ⟨k,c',e,z'⟩
    ·exact .inl q
    ·refine .inr ⟨k,c',e,z'.sameBut hs ?_⟩
     rintro rfl
     exact hj (d9 hN e1 (I.ok.inj _ _ _ e hc ▸ hi))
  ·by_cases hcc:c'=c
   ·subst hcc;exact ⟨_,hc'⟩
   ·obtain ⟨w2,z2⟩:=I.cell y c' e
    exact ⟨w2,z2.sameBut hs hcc⟩
  ·obtain ⟨e,n,ne,nf,d⟩:=I.pin p hp
   refine ⟨(hs.2 p.1 ?_).trans e,n,ne,nf,d⟩
   intro q
   rw [q,hoc] at e
   have q':oc=p.2:=Option.some.inj e
   exact d w' (by rw [← q'];exact hocd)
theorem Er {M:Model} {A:Around} {E:Value→Shared→Prop} {i:Nat} {x:Str} {v:V} {u:Value} {Q:Unit→Shared→Prop} (I:Inv X pins σ H s) (hN:X.N.Nodup) (hi:X.N[i]? =some x) (hx:Loc X.env.scope x) (r:Jv v u)
  (h:∀ s',Inv X pins (σ.set i (some v)) H s'→Q () s') (hf:X.fn x=true∨X.env.scope.names.lookup x=some .local:=by first | exact .inl rfl | exact .inr rfl | assumption):wpAny M A (storeName X.env x u) Q E s :=
 Ar I hN hi hx r (fun s' I' _=>h s' I') hf
theorem Inv.call' {s':Shared} {ch:List Addr} (I:Inv X pins σ H s) (ho:s'.os=s.os) (u:Un (frs X.stack) ch H H' s.heap s'.heap) (hok:HOk X.prog X.w H' s'.heap) (hg:AllBare s'.gens)
  (hch:∀ b∈ch,(b∈X.ex∨X.s₀.heap.objs.size≤b)∧b≠X.env.locals∧(∀ x c,X.env.cells.lookup x=some c→c≠b)∧∀ p∈X.pn++pins,p.1≠b):Inv X pins σ H' s':=by
 obtain ⟨h',g',d',t',o'⟩:=s'
 have e:o'=s.os:=ho
 subst e
 exact I.call (g':=g') (t':=t') (d':=d') u hok hg hch
end
noncomputable abbrev XK:=Value→Option Addr→Hp→Prop
noncomputable abbrev St:=List (Option V)
noncomputable abbrev VK:=V→Hp→Prop
noncomputable abbrev TE:=St→Hp→VK→Prop
noncomputable abbrev TT:=St→Hp→(Bool→Hp→Prop)→Prop
noncomputable abbrev TA:=St→Hp→(List V→Hp→Prop)→Prop
structure Ends where
 nx:St→Hp→Prop
 rt:VK
 bk:St→Hp→Prop:=fun _ _=>False
 ct:St→Hp→Prop:=fun _ _=>False
noncomputable abbrev TS:=Ends→St→Hp→Prop
noncomputable def EP (X:Cx) (pins:List (Addr×Obj)) (σ:St) (Q:VK) (u:Value) (s':Shared):Prop:=∃ v H',Inv X pins σ H' s'∧Jv v u∧Q v H'
noncomputable def TP (X:Cx) (pins:List (Addr×Obj)) (σ:St) (Q:Bool→Hp→Prop) (b:Bool) (s':Shared):Prop:=∃ H',Inv X pins σ H' s'∧Q b H'
noncomputable def AP (X:Cx) (pins:List (Addr×Obj)) (σ:St) (Q:List V→Hp→Prop) (us:List Value) (s':Shared):Prop:=∃ vs H',Inv X pins σ H' s'∧J7 vs us∧Q vs H'
noncomputable def SP (X:Cx) (pins:List (Addr×Obj)) (D:Ends) (f:Flow) (s':Shared):Prop :=
 match f with
 | .next=>∃ σ' H',Inv X pins σ' H' s'∧D.nx σ' H'
 | .brk=>∃ σ' H',Inv X pins σ' H' s'∧D.bk σ' H'
 | .cont=>∃ σ' H',Inv X pins σ' H' s'∧D.ct σ' H'
 | .ret u=>∃ v σ' H',Inv X pins σ' H' s'∧Jv v u∧D.rt v H'
noncomputable def PE (X:Cx) (e:Expr) (t:TE):Prop :=
 ∀ (pins:List (Addr×Obj)) (s:Shared) (σ:St) (H:Hp) (Q:VK),Inv X pins σ H s→t σ H Q→wpAny (model X.prog X.w) X.A (eval e X.env) (EP X pins σ Q) X.xe s
noncomputable def PT (X:Cx) (e:Expr) (t:TT):Prop :=
 ∀ (pins:List (Addr×Obj)) (s:Shared) (σ:St) (H:Hp) (Q:Bool→Hp→Prop),Inv X pins σ H s→t σ H Q→wpAny (model X.prog X.w) X.A (isTrue e X.env (eval e X.env)) (TP X pins σ Q) X.xe s
noncomputable def PW (X:Cx) (e:Expr) (t:TT):Prop :=
 ∀ (whole:Sem Value) (pins:List (Addr×Obj)) (s:Shared) (σ:St) (H:Hp) (Q:Bool→Hp→Prop),Inv X pins σ H s→t σ H Q→wpAny (model X.prog X.w) X.A (isTrue e X.env whole) (TP X pins σ Q) X.xe s
theorem PW.pt {X:Cx} {e:Expr} {t:TT} (h:PW X e t):PT X e t:=h _
noncomputable def PA (X:Cx) (es:List Expr) (t:TA):Prop :=
 ∀ (pos:Pos) (pins:List (Addr×Obj)) (s:Shared) (σ:St) (H:Hp) (Q:List V→Hp→Prop),Inv X pins σ H s→t σ H Q→wpAny (model X.prog X.w) X.A (spliced (backTo pos (starEach es X.env))) (AP X pins σ Q) X.xe s
noncomputable def PS (X:Cx) (st:Stmt) (t:TS):Prop :=
 ∀ (pins:List (Addr×Obj)) (s:Shared) (σ:St) (H:Hp) (D:Ends),Inv X pins σ H s→t D σ H→wpAny (model X.prog X.w) X.A (exec st X.env) (SP X pins D) X.xe s
noncomputable def PSs (X:Cx) (st:List Stmt) (t:TS):Prop :=
 ∀ (pins:List (Addr×Obj)) (s:Shared) (σ:St) (H:Hp) (D:Ends),Inv X pins σ H s→t D σ H→wpAny (model X.prog X.w) X.A (execs st X.env) (SP X pins D) X.xe s
theorem thn {α:Type} {t:Sem α} {Q Q':α→Shared→Prop} {M:Model} {A:Around} {E:Value→Shared→Prop} {s:Shared} (h:wpAny M A t Q E s) (hQ:∀ a s,Q a s→Q' a s):wpAny M A t Q' E s:=wpAny_mono h hQ fun _ _ x=>x
end L2
namespace L2
open PySem PySem.Spec PyProof.Rows
section
variable {X:Cx}
theorem bin {a b:Expr} {ta tb:TE} (ha:PE X a ta) (hb:PE X b tb) {pins:List (Addr×Obj)} {s:Shared} {σ:St} {H:Hp} {R:V→V→Hp→Prop} (I:Inv X pins σ H s) (h:ta σ H fun x H1=>tb σ H1 fun y H2=>R x y H2)
  {α:Type} {Q:α→Shared→Prop} {f:Value→Value→Sem α}
  (hf:∀ v u s2 x y H2,Inv X pins σ H2 s2→Jv x v→Jv y u→R x y H2→wpAny (model X.prog X.w) X.A (f v u) Q X.xe s2) :
  wpAny (model X.prog X.w) X.A (eval a X.env) (fun v s₁=>wpAny (model X.prog X.w) X.A (eval b X.env) (fun u s₂=>wpAny (model X.prog X.w) X.A (f v u) Q X.xe s₂) X.xe s₁) X.xe s:=by
 refine thn (ha pins s σ H _ I h) fun v s1 ⟨x,H1,I1,r1,q1⟩=>?_
 refine thn (hb pins s1 σ H1 _ I1 q1) fun u s2 ⟨y,H2,I2,r2,q2⟩=>?_
 exact hf v u s2 x y H2 I2 r1 r2 q2
noncomputable def av9 (i:Nat):TE:=fun σ H Q=>∃ v,σ[i]? =some (some v)∧Q v H
noncomputable def tC (v:V):TE:=fun _ H Q=>Q v H
theorem a75 {i:Nat} {x:Str} {pos:Pos} (hN:X.N[i]? =some x) (hv:Vis X.env.scope x) (hd:(x == ("__debug__":Str))=false:=by decide) (hcd:(x == ("__classdict__":Str))=false:=by decide):PE X (.Name x pos) (av9 i):=by
 intro pins s σ H Q I h
 obtain ⟨v,e,h⟩:=h
 obtain ⟨m,hn,hl⟩:=I.loc
 obtain ⟨u,r,l⟩:=hl i x v hN e hv
 have fin:EP X pins σ Q u s:=⟨v,H,I,r,h⟩
 rcases l with ⟨hk,hm⟩ | ⟨hk,c,hc,hcell⟩
 ·exact wpAny_Name (wpAny_loadName_local I.ok.kind hk hn hm fin) hd
 ·rcases hk with hk | hk
  ·exact wpAny_Name (wpAny_loadName_cell I.ok.kind hk hc hcell fin) hd
  ·exact wpAny_Name (wpAny_loadName_free I.ok.kind hk hc hcell fin hcd) hd
theorem a79 {i j pos}:PE X (.Constant (.int i) j pos) (tC (.int i)):=fun _ _ _ H _ I h=>wpAny_Constant_int ⟨.int i,H,I.tok _,⟨_,rfl⟩,h⟩
theorem aL5 {b j pos}:PE X (.Constant (.bool b) j pos) (tC (.bl b)):=fun _ _ _ H _ I h=>Constant_bool ⟨.bl b,H,I,rfl,h⟩
theorem az1 {j pos}:PE X (.Constant .none j pos) (tC .non):=fun _ _ _ H _ I h=>Constant_none ⟨.non,H,I,rfl,h⟩
theorem a76 {x j pos}:PE X (.Constant (.str x) j pos) (tC (.str x)):=fun _ _ _ H _ I h=>Calls.Constant_str ⟨.str x,H,I.tok _,⟨_,rfl⟩,h⟩
noncomputable def Gl (X:Cx) (x:Str):Prop:=X.env.kindOf x=some .globalImplicit
theorem Q6 {E:Value→Shared→Prop} {pins:List (Addr×Obj)} {s:Shared} {σ:St} {H:Hp} {x:Str} {u:Value} {pos:Pos} {Q:Value→Shared→Prop} (I:Inv X pins σ H s) (hg:Gl X x) (hm:X.mg x=some u) (h:Q u s)
  (hd:(x == ("__debug__":Str))=false:=by decide):wpAny (model X.prog X.w) X.A (eval (.Name x pos) X.env) Q E s :=
 Calls.Name_function_global I.ok.kind hg (Calls.loadGlobal_global (by rw [I.ok.glob];exact I.mod.glob.keeps I.bk) hm h) hd
theorem qo {E:Value→Shared→Prop} {pins:List (Addr×Obj)} {s:Shared} {σ:St} {H:Hp} {x:Str} {u:Value} {pos:Pos} {Q:Value→Shared→Prop} (I:Inv X pins σ H s) (hg:Gl X x) (hm:X.mg x=none) (hv:bootBuiltins x=some u) (h:Q u s)
  (hn:x≠"__name__":=by decide) (hd:(x == ("__debug__":Str))=false:=by decide):wpAny (model X.prog X.w) X.A (eval (.Name x pos) X.env) Q E s:=by
 obtain ⟨mb,h1,h2⟩:=I.mod.blt
 exact Calls.Name_function_global I.ok.kind hg (Calls.loadGlobal_builtin (by rw [I.ok.glob];exact I.mod.glob.keeps I.bk) hm (by rw [I.ok.blt];exact h1.keeps I.bk) ((h2 x hn).trans hv) h) hd
theorem aj7 {x:Str} {v:V} {u:Value} {pos:Pos} (hg:Gl X x) (hm:X.mg x=some u) (r:Jv v u) (hd:(x == ("__debug__":Str))=false:=by decide):PE X (.Name x pos) (tC v) :=
 fun _ _ _ H _ I h=>Q6 I hg hm ⟨v,H,I,r,h⟩ hd
theorem ak1 {x:Str} {v:V} {u:Value} {pos:Pos} (hg:Gl X x) (hm:X.mg x=none) (hv:bootBuiltins x=some u) (r:Jv v u) (hn:x≠"__name__":=by decide) (hd:(x == ("__debug__":Str))=false:=by decide):PE X (.Name x pos) (tC v) :=
 fun _ _ _ H _ I h=>qo I hg hm hv ⟨v,H,I,r,h⟩ hn hd
variable {a b:Expr} {ta tb:TE} {pos:Pos}
noncomputable def PC (X:Cx) (op:CmpOp) (a b:Expr) (t:TE):Prop :=
 ∀ (pins:List (Addr×Obj)) (s:Shared) (σ:St) (H:Hp) (Q:VK),Inv X pins σ H s→t σ H Q →
  wpAny (model X.prog X.w) X.A (eval a X.env) (fun v s₁=>wpAny (model X.prog X.w) X.A (eval b X.env) (fun u s₂=>wpAny (model X.prog X.w) X.A (compareOp op v u) (EP X pins σ Q) X.xe s₂) X.xe s₁) X.xe s
theorem dz (b:Expr) {op:CmpOp} (h:op≠.In) (h2:op≠.NotIn):behindInMarks op b=false:=by
 have e1:(op == CmpOp.In)=false:=by cases op <;> first | rfl | exact absurd rfl h
 have e2:(op == CmpOp.NotIn)=false:=by cases op <;> first | rfl | exact absurd rfl h2
 cases b <;> simp [behindInMarks,e1,e2]
noncomputable def aI2 (ta:TE):TE:=fun σ H Q=>ta σ H fun x H1=>Q (.bl (decide (x=.non))) H1
theorem Jv.none_iff {x:V} {v:Value} (r:Jv x v):(v == Value.none)=decide (x=.non):=by
 cases x with
 | non=>cases r;rfl
 | bl _=>cases r;rfl
 | int _=>obtain ⟨t,rfl⟩:=r;rfl
 | str _=>obtain ⟨t,rfl⟩:=r;rfl
 | byt _=>obtain ⟨t,rfl⟩:=r;rfl
 | flt _=>obtain ⟨t,rfl⟩:=r;rfl
 | ref _=>cases r;rfl
 | ty _=>cases r;rfl
theorem a85 {j pos'} (ha:PE X a ta):PC X .Is a (.Constant .none j pos') (aI2 ta):=by
 intro pins s σ H Q I h
 refine thn (ha pins s σ H _ I h) fun v s1 ⟨x,H1,I1,r1,q1⟩=>?_
 exact Constant_none (is_none_gen ⟨.bl _,H1,I1,by rw [r1.none_iff];rfl,q1⟩)
noncomputable def tB (t:TE):TT:=fun σ H Q=>t σ H fun x H1=>∃ c,x=.bl c∧Q c H1
theorem az3 {op:CmpOp} {t:TE} (h:PC X op a b t) (h1:behindInMarks op b=false:=by first | exact dz _ (by decide) (by decide) | rfl):PE X (.Compare a [op] [b] pos) t:=fun pins s σ H Q I hw=>wpAny_Compare1 (h pins s σ H Q I hw) h1
theorem f8 {op:CmpOp} {t:TE} (h:PC X op a b t) (h1:behindInMarks op b=false:=by first | exact dz _ (by decide) (by decide) | rfl):PT X (.Compare a [op] [b] pos) (tB t):=by
 intro pins s σ H Q I hw
 refine wpAny_isTrue_Compare1 (thn (h pins s σ H _ I hw) fun v s1 h1=>thn h1 fun u s2 h2=>thn h2 fun c s3 ⟨x,H1,I1,r1,q1⟩=>?_) h1
 obtain ⟨d,rfl,q⟩:=q1
 cases r1
 exact wpAny_truthy_bool ⟨H1,I1,q⟩
variable {tA tB':TT} {rest:List Expr}
noncomputable def tAnd (t u:TT):TT:=fun σ H Q=>t σ H fun c H1=>if c=true then u σ H1 Q else Q false H1
noncomputable def tOr (t u:TT):TT:=fun σ H Q=>t σ H fun c H1=>if c=true then Q true H1 else u σ H1 Q
noncomputable def tNot (t:TT):TT:=fun σ H Q=>t σ H fun c H1=>Q (!c) H1
theorem ai4 (ha:PT X a tA):PW X (.BoolOp .And [a] pos) tA:=by
 intro wh pins s σ H Q I h
 refine isTrue_and (thn (ha pins s σ H Q I h) fun c s1 e=>?_)
 cases c with
 | true=>exact isTrue_and_nil e
 | false=>exact e
theorem ax8 (ha:PT X a tA):PW X (.BoolOp .Or [a] pos) tA:=by
 intro wh pins s σ H Q I h
 refine isTrue_or (thn (ha pins s σ H Q I h) fun c s1 e=>?_)
 cases c with
 | false=>exact isTrue_or_nil e
 | true=>exact e
theorem ax9 (ha:PT X a tA) (hb:PW X (.BoolOp .And (b::rest) pos) tB'):PW X (.BoolOp .And (a::b::rest) pos) (tAnd tA tB'):=by
 intro wh pins s σ H Q I h
 refine isTrue_and (thn (ha pins s σ H _ I h) fun c s1 ⟨H1,I1,q1⟩=>?_)
 cases c with
 | true=>exact hb wh pins s1 σ H1 Q I1 q1
 | false=>exact ⟨H1,I1,q1⟩
theorem aK6 (ha:PT X a tA) (hb:PW X (.BoolOp .Or (b::rest) pos) tB'):PW X (.BoolOp .Or (a::b::rest) pos) (tOr tA tB'):=by
 intro wh pins s σ H Q I h
 refine isTrue_or (thn (ha pins s σ H _ I h) fun c s1 ⟨H1,I1,q1⟩=>?_)
 cases c with
 | true=>exact ⟨H1,I1,q1⟩
 | false=>exact hb wh pins s1 σ H1 Q I1 q1
theorem ay0 (ha:PT X a tA):PT X (.UnaryOp .Not a pos) (tNot tA):=by
 intro pins s σ H Q I h
 exact isTrue_not (ha pins s σ H (fun c H1=>Q (!c) H1) I h)
noncomputable def aI8 (ta tb:TE):TE:=fun σ H Q=>ta σ H fun x H1=>∃ c,x=.bl c∧if c=true then tb σ H1 Q else Q (.bl false) H1
noncomputable def tOrV (ta tb:TE):TE:=fun σ H Q=>ta σ H fun x H1=>∃ c,x=.bl c∧if c=true then Q (.bl true) H1 else tb σ H1 Q
noncomputable def aH9 (ta:TE):TE:=fun σ H Q=>ta σ H fun x H1=>∃ c,x=.bl c∧Q (.bl (!c)) H1
theorem ay9 {op} {t:TE} (h:PE X a t):PE X (.BoolOp op [a] pos) t:=fun pins s σ H Q I hw=>BoolOp_one (h pins s σ H Q I hw)
theorem az5 (ha:PE X a ta) (hb:PE X (.BoolOp .And (b::rest) pos) tb):PE X (.BoolOp .And (a::b::rest) pos) (aI8 ta tb):=by
 intro pins s σ H Q I h
 refine BoolOp_and (thn (ha pins s σ H _ I h) fun v s1 ⟨x,H1,I1,r1,q1⟩=>?_)
 obtain ⟨c,rfl,q1⟩:=q1
 cases r1
 refine wpAny_truthy_bool ?_
 cases c with
 | true=>exact hb pins s1 σ H1 Q I1 q1
 | false=>exact ⟨.bl false,H1,I1,rfl,q1⟩
theorem aL3 (ha:PE X a ta) (hb:PE X (.BoolOp .Or (b::rest) pos) tb):PE X (.BoolOp .Or (a::b::rest) pos) (tOrV ta tb):=by
 intro pins s σ H Q I h
 refine BoolOp_or (thn (ha pins s σ H _ I h) fun v s1 ⟨x,H1,I1,r1,q1⟩=>?_)
 obtain ⟨c,rfl,q1⟩:=q1
 cases r1
 refine wpAny_truthy_bool ?_
 cases c with
 | false=>exact hb pins s1 σ H1 Q I1 q1
 | true=>exact ⟨.bl true,H1,I1,rfl,q1⟩
theorem az0 (ha:PE X a ta):PE X (.UnaryOp .Not a pos) (aH9 ta):=by
 intro pins s σ H Q I h
 refine UnaryOp_ (thn (ha pins s σ H _ I h) fun v s1 ⟨x,H1,I1,r1,q1⟩=>?_)
 obtain ⟨c,rfl,q1⟩:=q1
 cases r1
 exact not_of (wpAny_truthy_bool ⟨.bl (!c),H1,I1,rfl,q1⟩)
noncomputable def tIf (t:TT) (ta tb:TE):TE:=fun σ H Q=>t σ H fun c H1=>if c=true then ta σ H1 Q else tb σ H1 Q
theorem a80 {c:Expr} (hc:PT X c tA) (ha:PE X a ta) (hb:PE X b tb):PE X (.IfExp c a b pos) (tIf tA ta tb):=by
 intro pins s σ H Q I h
 refine wpAny_IfExp (thn (hc pins s σ H _ I h) fun d s1 ⟨H1,I1,q1⟩=>?_)
 cases d with
 | true=>exact ha pins s1 σ H1 Q I1 q1
 | false=>exact hb pins s1 σ H1 Q I1 q1
end
end L2
namespace L2
open PySem PySem.Spec PyProof.Rows
noncomputable def SqL (K:PySem.W.Frag) (H:Hp) (a:Addr) (xs:List V):Prop :=
 Rd H a (.lst xs) ∨
  ∃ (o:Obj) (its:Array Value) (n:Nat),K.lookup a=some o∧o.cls=.type "list"∧o.dict=none∧o.data=.seq its n∧its.size≤sizeLine∧J7 xs its.toList
noncomputable def SqT (K:PySem.W.Frag) (H:Hp) (a:Addr) (xs:List V):Prop :=
 Rd H a (.tup xs) ∨
  ∃ (o:Obj) (its:Array Value) (n:Nat),K.lookup a=some o∧o.cls=.type "tuple"∧o.data=.seq its n∧its.size≤sizeLine∧J7 xs its.toList
noncomputable def absV:Value→Option V
 | .none=>some .non
 | .bool b=>some (.bl b)
 | .int i _=>some (.int i)
 | .str x _=>some (.str x)
 | .bytes b _=>some (.byt b)
 | .float b _=>some (.flt b)
 | .ref a=>some (.ref a)
 | .type n=>some (.ty n)
 | _=>none
theorem Jv.abs {x:V} {u:Value} (r:Jv x u):absV u=some x:=by
 cases x with
 | non=>cases r;rfl
 | bl _=>cases r;rfl
 | int _=>obtain ⟨t,rfl⟩:=r;rfl
 | str _=>obtain ⟨t,rfl⟩:=r;rfl
 | byt _=>obtain ⟨t,rfl⟩:=r;rfl
 | flt _=>obtain ⟨t,rfl⟩:=r;rfl
 | ref _=>cases r;rfl
 | ty _=>cases r;rfl
theorem Jv.inj {x y:V} {u:Value} (r:Jv x u) (q:Jv y u):x=y:=Option.some.inj (r.abs.symm.trans q.abs)
theorem J7.inj:∀ {xs ys:List V} {us:List Value},J7 xs us→J7 ys us→xs=ys
 | _,_,_,.nil,.nil=>rfl
 | _,_,_,.cons r t,.cons r' t'=>by rw [r.inj r',J7.inj t t']
section
variable {X:Cx} {pins:List (Addr×Obj)} {σ:St} {H:Hp} {s:Shared} {a:Addr} {xs ys:List V}
theorem SqL.of {K:PySem.W.Frag} (h:H a=some (.lst xs)):SqL K H a xs:=.inl (.inl h)
theorem SqT.of {K:PySem.W.Frag} (h:H a=some (.tup xs)):SqT K H a xs:=.inl (.inl h)
theorem Inv.list (I:Inv X pins σ H s) (h:SqL X.K H a xs):∃ its:List Value,J7 xs its∧PlainL s.heap a its.toArray∧xs.length≤sizeLine:=by
 rcases h with h | ⟨o,its,n,hk,hc,hd,hs,hz,r⟩
 ·obtain ⟨z,its,n,r,e⟩:=h.ok I.hok
  exact ⟨its,r,⟨_,n,e,rfl,rfl,rfl⟩,z⟩
 ·refine ⟨its.toList,r,⟨o,n,I.kIn a o hk,hc,hd,by simpa using hs⟩,?_⟩
  have e:=r.length
  simp only [Array.length_toList] at e
  omega
theorem Inv.tuple (I:Inv X pins σ H s) (h:SqT X.K H a xs):∃ its:List Value,J7 xs its∧IsTup s.heap a its.toArray∧xs.length≤sizeLine:=by
 rcases h with h | ⟨o,its,n,hk,hc,hs,hz,r⟩
 ·obtain ⟨z,its,r,p⟩:=h.ok I.hok
  exact ⟨its,r,p,z⟩
 ·refine ⟨its.toList,r,⟨o,I.kIn a o hk,hc,n,by simpa using hs⟩,?_⟩
  have e:=r.length
  simp only [Array.length_toList] at e
  omega
theorem Inv.list_inj (I:Inv X pins σ H s) (h:SqL X.K H a xs) (h':SqL X.K H a ys):xs=ys:=by
 obtain ⟨its,r,⟨o,n,e,_,_,d⟩,_⟩:=I.list h
 obtain ⟨its',r',⟨o',n',e',_,_,d'⟩,_⟩:=I.list h'
 rw [e] at e';cases e'
 rw [d] at d'
 injection d' with d1 _
 have:its=its':=by simpa using congrArg Array.toList d1
 subst this
 exact r.inj r'
theorem Inv.tuple_inj (I:Inv X pins σ H s) (h:SqT X.K H a xs) (h':SqT X.K H a ys):xs=ys:=by
 obtain ⟨its,r,⟨o,e,_,n,d⟩,_⟩:=I.tuple h
 obtain ⟨its',r',⟨o',e',_,n',d'⟩,_⟩:=I.tuple h'
 rw [e] at e';cases e'
 rw [d] at d'
 injection d' with d1 _
 have:its=its':=by simpa using congrArg Array.toList d1
 subst this
 exact r.inj r'
end
noncomputable abbrev Cx.wish (X:Cx) (E:Value→Shared→Prop):Cx:={ X with xe:=E}
noncomputable abbrev Cx.nox (X:Cx):Cx:=X.wish fun _ _=>False
theorem Cx.Ok.wish {X:Cx} (ok:X.Ok) (E:Value→Shared→Prop):(X.wish E).Ok :=
 ⟨ok.mod,ok.kind,ok.glob,ok.blt,ok.above,ok.inj,ok.has,ok.cab,ok.hd,ok.frames,ok.stk,ok.exf,ok.bs,ok.bsz,ok.noex,ok.exfs,ok.funs,ok.frf⟩
theorem Cx.Ok.unwish {X:Cx} {E:Value→Shared→Prop} (ok:(X.wish E).Ok):X.Ok :=
 ⟨ok.mod,ok.kind,ok.glob,ok.blt,ok.above,ok.inj,ok.has,ok.cab,ok.hd,ok.frames,ok.stk,ok.exf,ok.bs,ok.bsz,ok.noex,ok.exfs,ok.funs,ok.frf⟩
section
variable {X:Cx} {pins:List (Addr×Obj)} {σ:St} {H:Hp} {s:Shared} {E:Value→Shared→Prop}
theorem Inv.wish (I:Inv X pins σ H s) (E:Value→Shared→Prop):Inv (X.wish E) pins σ H s:=⟨I.ok.wish E,I.os,I.bare,I.base,I.loc,I.cell,I.free,I.freeC,I.pin,I.hok,I.len⟩
theorem Inv.unwish (I:Inv (X.wish E) pins σ H s):Inv X pins σ H s:=⟨I.ok.unwish,I.os,I.bare,I.base,I.loc,I.cell,I.free,I.freeC,I.pin,I.hok,I.len⟩
theorem SP.unwish {D:Ends} {f:Flow} {s':Shared} (h:SP (X.wish E) pins D f s'):SP X pins D f s':=by
 cases f with
 | next=>obtain ⟨σ',H',I,q⟩:=h;exact ⟨σ',H',I.unwish,q⟩
 | brk=>obtain ⟨σ',H',I,q⟩:=h;exact ⟨σ',H',I.unwish,q⟩
 | cont=>obtain ⟨σ',H',I,q⟩:=h;exact ⟨σ',H',I.unwish,q⟩
 | ret u=>obtain ⟨v,σ',H',I,r,q⟩:=h;exact ⟨v,σ',H',I.unwish,r,q⟩
theorem PSs.nox {st:List Stmt} {t:TS} (h:PSs X.nox st t):PSs X st t:=fun pins s σ H D I hw =>
 wpAny_mono (h pins s σ H D (I.wish _) hw) (fun _ _ q=>q.unwish) fun _ _ z=>False.elim z
end
section
variable {X:Cx} {st:Stmt} {rest:List Stmt} {t u:TS} {e:Expr} {te:TE} {pos:Pos}
noncomputable def aI0:TS:=fun D σ H=>D.nx σ H
noncomputable def tSeq (t u:TS):TS:=fun D σ H=>t { D with nx:=u D} σ H
theorem ai7:PSs X [] aI0:=fun _ _ σ H _ I h=>wpAny_execs_nil ⟨σ,H,I,h⟩
theorem a70 (h1:PS X st t) (h2:PSs X rest u):PSs X (st::rest) (tSeq t u):=by
 intro pins s σ H D I h
 refine wpAny_execs_cons (thn (h1 pins s σ H { D with nx:=u D} I h) fun f s1 q=>?_)
 cases f with
 | next =>
  obtain ⟨σ',H',I',q⟩:=q
  exact h2 pins s1 σ' H' D I' q
 | ret v=>exact q
 | brk=>exact q
 | cont=>exact q
theorem ai6 (h1:PS X st t):PSs X [st] t:=by
 intro pins s σ H D I h
 refine wpAny_execs_cons (thn (h1 pins s σ H D I h) fun f s1 q=>?_)
 cases f with
 | next=>exact wpAny_execs_nil q
 | ret v=>exact q
 | brk=>exact q
 | cont=>exact q
theorem Inv.quiet {pins:List (Addr×Obj)} {σ:St} {H:Hp} {s:Shared} (I:Inv X pins σ H s):interactive X.env=false:=by simp [interactive,I.ok.kind]
noncomputable def aI3 (te:TE):TS:=fun D σ H=>te σ H fun _ H1=>D.nx σ H1
theorem ai8 (he:PE X e te) (hs:swapsWith e none pos.line X.env=pure false:=by rfl):PS X (.Expr e pos) (aI3 te):=by
 intro pins s σ H D I h
 exact wpAny_Expr_any (thn (he pins s σ H _ I h) fun v s1 ⟨x,H1,I1,r1,q1⟩=>⟨σ,H1,I1,q1⟩) I.quiet hs
noncomputable def tRet (te:TE):TS:=fun D σ H=>te σ H D.rt
theorem ay2 (he:PE X e te):PS X (.Return (some e) pos) (tRet te):=by
 intro pins s σ H D I h
 exact wpAny_Return_some (thn (he pins s σ H _ I h) fun v s1 ⟨x,H1,I1,r1,q1⟩=>⟨x,σ,H1,I1,r1,q1⟩)
noncomputable def tIfS (c:TT) (t u:TS):TS:=fun D σ H=>c σ H fun b H1=>if b=true then t D σ H1 else u D σ H1
theorem aK8 {c:Expr} {a b:List Stmt} {tc:TT} (hc:PT X c tc) (ha:PSs X a t) (hb:PSs X b u):PS X (.If c a b pos) (tIfS tc t u):=by
 intro pins s σ H D I h
 refine wpAny_If (thn (hc pins s σ H _ I h) fun d s1 ⟨H1,I1,q1⟩=>?_)
 cases d with
 | true=>exact ha pins s1 σ H1 D I1 q1
 | false=>exact hb pins s1 σ H1 D I1 q1
end
noncomputable abbrev TG:=V→St→Hp→(St→Hp→Prop)→Prop
noncomputable abbrev TGs:=List V→St→Hp→(St→Hp→Prop)→Prop
noncomputable def PG (X:Cx) (target:Expr) (t:TG):Prop :=
 ∀ (pins:List (Addr×Obj)) (s:Shared) (σ:St) (H:Hp) (v:V) (u:Value) (Q:St→Hp→Prop),Inv X pins σ H s→Jv v u→t v σ H Q →
  wpAny (model X.prog X.w) X.A (assign target X.env u) (fun _ s'=>∃ σ' H',Inv X pins σ' H' s'∧Q σ' H') X.xe s
noncomputable def PGs (X:Cx) (ts:List Expr) (t:TGs):Prop :=
 ∀ (pins:List (Addr×Obj)) (s:Shared) (σ:St) (H:Hp) (vs:List V) (us:List Value) (Q:St→Hp→Prop),Inv X pins σ H s→J7 vs us→t vs σ H Q →
  wpAny (model X.prog X.w) X.A (assignInOrder ((assignEach ts X.env).map (·.2)) us) (fun _ s'=>∃ σ' H',Inv X pins σ' H' s'∧Q σ' H') X.xe s
noncomputable abbrev TSet:=V→V→V→Hp→(Hp→Prop)→Prop
section
variable {X:Cx} {pos:Pos}
noncomputable def at7 (i:Nat):TG:=fun v σ H Q=>Q (σ.set i (some v)) H
theorem aj6 {i:Nat} {x:Str} (hN:X.N.Nodup) (hi:X.N[i]? =some x) (hx:Loc X.env.scope x) (hf:X.fn x=true∨X.env.scope.names.lookup x=some .local:=by first | exact .inl rfl | exact .inr rfl | assumption):PG X (.Name x pos) (at7 i):=by
 intro pins s σ H v u Q I r h
 exact wpAny_assign_Name (Er I hN hi hx r (fun s' I'=>⟨_,H,I',h⟩) hf)
noncomputable def aP7:TGs:=fun vs σ H Q=>vs=[]∧Q σ H
noncomputable def aP8 (t:TG) (u:TGs):TGs:=fun vs σ H Q=>∃ v r,vs=v::r∧t v σ H fun σ' H'=>u r σ' H' Q
theorem aj5:PGs X [] aP7:=by
 intro pins s σ H vs us Q I r h
 obtain ⟨e,h⟩:=h
 subst e
 cases r
 exact assignInOrder_nil ⟨σ,H,I,h⟩
theorem a74 {e:Expr} {es:List Expr} {t:TG} {u:TGs} (h1:PG X e t) (h2:PGs X es u)
  (hs:(assignEach (e::es) X.env).map (·.2)=assign e X.env::(assignEach es X.env).map (·.2):=by rfl):PGs X (e::es) (aP8 t u):=by
 intro pins s σ H vs us Q I r h
 obtain ⟨v,vr,e1,h⟩:=h
 subst e1
 cases r with
 | cons r rr =>
  rw [hs]
  refine assignInOrder_cons (thn (h1 pins s σ H _ _ _ I r h) fun _ s1 ⟨σ1,H1,I1,q1⟩=>?_)
  exact h2 pins s1 σ1 H1 _ _ Q I1 rr q1
noncomputable def gTup (K:PySem.W.Frag) (n:Nat) (t:TGs):TG:=fun v σ H Q=>∃ a xs,v=.ref a∧SqT K H a xs∧xs.length=n∧t xs σ H Q
theorem ay7 {es:List Expr} {k:Nat} {t:TGs} {n:Nat} (hc:X.calm=true) (h:PGs X es t)
  (hn:(assignEach es X.env).length=n:=by rfl) (hst:(assignEach es X.env).findIdx? (·.1)=none:=by rfl):PG X (.Tuple es k pos) (gTup X.K n t):=by
 intro pins s σ H v u Q I r hw
 obtain ⟨a,xs,e1,hq,hl,hw⟩:=hw
 subst e1
 cases r
 obtain ⟨its,rv,ht,hz⟩:=I.tuple hq
 refine assign_Tuple_tuple (I.ok.hd hc) ht (by simp [hn,← hl,rv.length]) hst fun h' hx=>?_
 have I1:Inv X pins σ H { s with heap:=h'}:=I.kept (t':=s.toks) fun b o e=>hx b o (Nat.ne_of_lt (Heap.lt_size e)) e
 exact h pins _ σ H xs _ Q I1 (by simpa using rv) hw
noncomputable def yu (to ti:TE) (t:TSet):TG:=fun v σ H Q=>to σ H fun o H1=>ti σ H1 fun i H2=>t o i v H2 fun H3=>Q σ H3
noncomputable def tAsg (te:TE) (g:TG):TS:=fun D σ H=>te σ H fun x H1=>g x σ H1 D.nx
theorem ay1 {i:Nat} {x:Str} {e:Expr} {te:TE} {pos':Pos} (hN:X.N.Nodup) (hi:X.N[i]? =some x) (hx:Loc X.env.scope x) (he:PE X e te) (hs:swapsWith e (some (.Name x pos')) pos.line X.env=pure false:=by rfl) (hf:X.fn x=true∨X.env.scope.names.lookup x=some .local:=by first | exact .inl rfl | exact .inr rfl | assumption) :
  PS X (.Assign [.Name x pos'] e pos) (tAsg te (at7 i)):=by
 intro pins s σ H D I h
 refine wpAny_Assign_Name (thn (he pins s σ H _ I h) fun v s1 ⟨y,H1,I1,r1,q1⟩=>?_) hs
 exact Er I1 hN hi hx r1 (fun s2 I2=>⟨_,H1,I2,q1⟩) hf
end
section
variable {X:Cx} {pos:Pos}
noncomputable def av8 (c:TT) (tb:TS):TS:=fun D σ H=>∃ W:Nat→St→Hp→Prop,(∃ m,W m σ H)∧∀ m σ H,W m σ H →
 c σ H fun b H1=>if b=true then ∃ N:St→Hp→Prop,(∀ σ' H',N σ' H'→∃ m',m' < m∧W m' σ' H')∧tb { D with nx:=N,ct:=N,bk:=D.nx} σ H1 else D.nx σ H1
theorem a71 {c:Expr} {body:List Stmt} {tc:TT} {tb:TS} (hp:PassesOwn (model X.prog X.w) X.A X.env X.xe) (hc:PT X c tc) (hb:PSs X body tb):PS X (.While c body [] pos) (av8 tc tb):=by
 intro pins s σ H D I h
 obtain ⟨W,⟨m0,w0⟩,turn⟩:=h
 refine wpAny_While (codeAny_whileLoop (fun n s'=>∃ σ' H',Inv X pins σ' H' s'∧W n σ' H') ?_ m0 ⟨σ,H,I,w0⟩)
 rintro n s1 ⟨σ1,H1,I1,w1⟩
 refine wpAny_passesOwn hp (thn (hc pins s1 σ1 H1 _ I1 (turn n σ1 H1 w1)) fun b s2 ⟨H2,I2,q2⟩=>?_)
 cases b with
 | true =>
  obtain ⟨N,hN,q2⟩:=q2
  rw [if_pos rfl]
  refine wpAny_passesOwn hp (thn (hb pins s2 σ1 H2 _ I2 q2) fun f s3 q3=>?_)
  cases f with
  | next =>
   obtain ⟨σ3,H3,I3,n3⟩:=q3
   obtain ⟨m',hm,w3⟩:=hN σ3 H3 n3
   exact ⟨m',hm,σ3,H3,I3,w3⟩
  | cont =>
   obtain ⟨σ3,H3,I3,n3⟩:=q3
   obtain ⟨m',hm,w3⟩:=hN σ3 H3 n3
   exact ⟨m',hm,σ3,H3,I3,w3⟩
  | brk=>exact q3
  | ret v=>exact q3
 | false =>
  rw [if_neg Bool.false_ne_true]
  exact wpAny_execs_nil ⟨σ1,H2,I2,q2⟩
end
structure It where
 go:Nat→Hp→Prop
 yld:Nat→Hp→V→Hp→Prop
 stop:Nat→Hp→Prop
noncomputable def qf (X:Cx) (pins:List (Addr×Obj)) (H:Hp) (b:Addr):Prop :=
 H b=none∧b≠X.env.locals∧b∉X.fs∧(b∈X.ex∨X.s₀.heap.objs.size≤b)∧(∀ x c,X.env.cells.lookup x=some c→c≠b)∧∀ p∈X.pn++pins,p.1≠b
theorem Inv.fpOk {X:Cx} {pins:List (Addr×Obj)} {σ:St} {H H':Hp} {s:Shared} {b:Addr} (I:Inv X pins σ H s) (hb:s.heap.objs.size≤b) (hn:H' b=none):qf X pins H' b:=by
 refine ⟨hn,Nat.ne_of_gt (Nat.lt_of_lt_of_le I.lt hb),I.nofs hb,.inr (Nat.le_trans I.sz hb),fun x c e z=>?_,fun p hp z=>?_⟩
 ·obtain ⟨v,q⟩:=I.cell x c e
  exact absurd (Nat.lt_of_lt_of_le q.lt (by rw [z];exact hb)) (Nat.lt_irrefl _)
 ·exact absurd (Nat.lt_of_lt_of_le (Heap.lt_size (I.pin p hp).1) (by rw [z];exact hb)) (Nat.lt_irrefl _)
structure Turn (P:Program) (w:World) (K:PySem.W.Frag) (tg:Expr) (J:It) (fp:List Addr) (it:Addr) (tn:Nat→Heap→Prop):Prop where
 mem:it∈fp
 obj:∀ i h,tn i h→∀ b∈fp,∃ o,h.get? b=some o∧∀ v,o.data≠.cell v
 keep:∀ i h h',tn i h→(∀ b∈fp,∀ o,h.get? b=some o→h'.get? b=some o)→tn i h'
 item:∀ (X:Cx),X.prog=P→X.w=w→X.K=K→X.calm=true→∀ (i:Nat) (pins:List (Addr×Obj)) (s:Shared) (σ:St) (H:Hp) (E:Value→Shared→Prop),Inv X pins σ H s→(∀ b∈fp,qf X pins H b)→tn i s.heap→J.go i H →
  wpAny (model P w) X.A (pyNext (.ref it)) (fun r s1=>∃ u,r=some u ∧
   wpAny (model P w) X.A (letOwnedTupleGo tg (.ref it) u) (fun _ s2=>∃ x H',Inv X pins σ H' s2∧Jv x u∧J.yld i H x H'∧tn (i + 1) s2.heap∧∀ b∈fp,H' b=none) E s1) E s
 done:∀ (X:Cx),X.prog=P→X.w=w→X.K=K→X.calm=true→∀ (i:Nat) (pins:List (Addr×Obj)) (s:Shared) (σ:St) (H:Hp) (E:Value→Shared→Prop),Inv X pins σ H s→(∀ b∈fp,qf X pins H b)→tn i s.heap→J.stop i H →
  wpAny (model P w) X.A (pyNext (.ref it)) (fun r s1=>r=none∧Inv X pins σ H s1) E s
 self:∀ (A:Around) (i:Nat) (s:Shared) (Q:Value→Shared→Prop) (E:Value→Shared→Prop),tn i s.heap→Q (.ref it) s→wpAny (model P w) A (pyIter (.ref it)) Q E s
noncomputable abbrev TI:=St→Hp→(It→Hp→Prop)→Prop
noncomputable def PIE (X:Cx) (pins:List (Addr×Obj)) (σ:St) (tg:Expr) (R:It→Hp→Prop) (itv:Value) (s2:Shared):Prop :=
 ∃ (it:Addr) (fp:List Addr) (tn:Nat→Heap→Prop) (J:It) (H':Hp),itv=.ref it∧Inv X pins σ H' s2∧Turn X.prog X.w X.K tg J fp it tn∧tn 0 s2.heap∧(∀ b∈fp,qf X pins H' b)∧R J H'
noncomputable def PI (X:Cx) (tg iter:Expr) (wi:TI):Prop :=
 ∀ (pins:List (Addr×Obj)) (s:Shared) (σ:St) (H:Hp) (R:It→Hp→Prop),Inv X pins σ H s→wi σ H R →
  wpAny (model X.prog X.w) X.A (eval iter X.env) (fun v s1=>wpAny (model X.prog X.w) X.A (pyIter v) (PIE X pins σ tg R) X.xe s1) X.xe s
theorem at4 {M:Model} {A:Around} {E:Value→Shared→Prop} {s:Shared} {tg:Expr} {it:Addr} {u:Value} {o:Obj} {n:String} {vs:Array Value} {Q:Unit→Shared→Prop} (ho:s.heap.get? it=some o) (hc:o.cls=.type n) (hd:o.data=.fields vs)
    (hn:["enumerate","zip","dict_itemiterator","dict_reverseitemiterator","odict_iterator","itertools.zip_longest","itertools.pairwise"].contains n=false) (hQ:Q () s):wpAny M A (letOwnedTupleGo tg (.ref it) u) Q E s:=by
  unfold letOwnedTupleGo
  cases tg <;> first
    | exact wpAny_pure hQ
    | (cases u <;> first
        | exact wpAny_pure hQ
        | (refine wpAny_bind (wpAny_load ho ?_)
           rw [hc,hd]
           show wpAny M A (if (["enumerate","zip","dict_itemiterator","dict_reverseitemiterator","odict_iterator","itertools.zip_longest","itertools.pairwise"].contains n && vs[0]? == some (rawInt _))=true then _ else _) Q E s
           rw [if_neg (by intro h;rw [hn,Bool.false_and] at h;cases h)]
           exact wpAny_pure hQ))
noncomputable def Itl (K:PySem.W.Frag) (a:Addr):It :=
 ⟨fun i H=>∃ xs x,SqL K H a xs∧xs[i]? =some x,fun i H x H'=>H'=H∧∀ xs,SqL K H a xs→xs[i]? =some x,fun i H=>∃ xs,SqL K H a xs∧xs.length≤i⟩
noncomputable def Itr (lo:Int) (n:Nat):It:=⟨fun i _=>i < n,fun i H x H'=>H'=H∧x=.int (lo + i),fun i _=>n≤i⟩
theorem Av {P:Program} {w:World} {K:PySem.W.Frag} {tg:Expr} (a it:Addr):Turn P w K tg (Itl K a) [it] it (fun i h=>h.IsListIter it a i) where
 mem:=by simp
 obj:=fun i h st b hb=>by
  have e:b=it:=by simpa using hb
  subst e
  obtain ⟨o,e,c,d⟩:=st
  exact ⟨o,e,fun v z=>by rw [d] at z;cases z⟩
 keep:=fun i h h' st k=>st.at fun o e=>k it (by simp) o e
 item:=by
  intro X hP hw hK hc i pins s σ H E I hf st hg
  subst hP hw hK
  obtain ⟨xs,x,hq,hx⟩:=hg
  obtain ⟨its,rv,p,hz⟩:=I.list hq
  obtain ⟨u,hu,ru⟩:=rv.get hx
  obtain ⟨f0,f1,f2,f3,f4,f5⟩:=hf it (by simp)
  refine wpAny_pyNext_list_item st p.isList (x:=u) (by simpa using hu) fun h' st' sb=>?_
  have I1:Inv X pins σ H { s with heap:=h'}:=I.turned (t':=s.toks) (fun b o hb e=>(sb.2 b hb).trans e) f0 f1 f3 f4 f5
  obtain ⟨o,e,c,d⟩:=id st'
  exact ⟨u,rfl,at4 (s:={ s with heap:=h'}) e c d (by decide) ⟨x,H,I1,ru,⟨rfl,fun ys hy=>by rw [I.list_inj hy hq];exact hx⟩,st',fun b hb=>(hf b hb).1⟩⟩
 done:=by
  intro X hP hw hK hc i pins s σ H E I hf st hg
  subst hP hw hK
  obtain ⟨xs,hq,hx⟩:=hg
  obtain ⟨its,rv,p,hz⟩:=I.list hq
  obtain ⟨f0,f1,f2,f3,f4,f5⟩:=hf it (by simp)
  have hl:=rv.length
  exact wpAny_pyNext_list_end (I.ok.hd hc) st p.isList (by simp;omega) fun h' eb=>⟨rfl,I.turned (t':=s.toks) (fun b o hb e=>eb b o hb e) f0 f1 f3 f4 f5⟩
 self:=fun _ _ _ _ _ st h=>wpAny_pyIter_listiter st h
theorem cz {P:Program} {w:World} {K:PySem.W.Frag} {tg:Expr} (it:Addr) (lo:Int) (n:Nat):Turn P w K tg (Itr lo n) [it] it (fun i h=>IsRangeIter h it (lo + (i:Nat) * 1) ((n:Int) - (i:Nat)) 1) where
 mem:=by simp
 obj:=fun i h st b hb=>by
  have e:b=it:=by simpa using hb
  subst e
  exact ⟨_,st,fun v z=>by
   have z':Data.fields _=Data.cell v:=z
   cases z'⟩
 keep:=fun i h h' st k=>k it (by simp) _ st
 item:=by
  intro X hP hw hK hc i pins s σ H E I hf st hg
  subst hP hw hK
  obtain ⟨f0,f1,f2,f3,f4,f5⟩:=hf it (by simp)
  have W:=Walks.range (prog:=X.prog) (w:=X.w) (I.ok.hd hc) it lo 1 n
  refine W.item i s _ _ hg st fun v h' tk hv st' kk=>?_
  obtain ⟨t,rfl⟩:=hv
  have I1:Inv X pins σ H { s with heap:=h',toks:=tk}:=I.turned (fun b o hb e=>kk b o (by simpa using hb) e) f0 f1 f3 f4 f5
  refine ⟨_,rfl,at4 (s:={ s with heap:=h',toks:=tk}) (n:="range_iterator") st' rfl rfl (by decide) ⟨.int (lo + i),H,I1,⟨t,?_⟩,⟨rfl,rfl⟩,st',fun b hb=>(hf b hb).1⟩⟩
  rw [Int.mul_one]
 done:=by
  intro X hP hw hK hc i pins s σ H E I hf st hg
  subst hP hw hK
  obtain ⟨f0,f1,f2,f3,f4,f5⟩:=hf it (by simp)
  exact wpAny_pyNext_range_end (I.ok.hd hc) st (by have:n≤i:=hg;omega) fun h' eb=>⟨rfl,I.turned (t':=s.toks) (fun b o hb e=>eb b o hb e) f0 f1 f3 f4 f5⟩
 self:=fun _ _ _ _ _ st h=>wpAny_pyIter_rangeiter st h
end L2
namespace L2
open PySem PySem.Spec PyProof.Rows
section
variable {X:Cx} {tg:Expr}
noncomputable def aP6 (K:PySem.W.Frag) (tl:TE):TI:=fun σ H R=>tl σ H fun x H1=>∃ a,x=.ref a∧(∃ xs,SqL K H1 a xs)∧R (Itl K a) H1
theorem aj4 {l:Expr} {tl:TE} (hl:PE X l tl):PI X tg l (aP6 X.K tl):=by
 intro pins s σ H R I h
 refine thn (hl pins s σ H _ I h) fun v s1 ⟨x,H1,I1,r1,q1⟩=>?_
 obtain ⟨a,e,⟨xs,hq⟩,q⟩:=q1
 subst e
 cases r1
 obtain ⟨its,rv,p,hz⟩:=I1.list hq
 refine wpAny_pyIter_list p.isList ?_
 refine ⟨s1.heap.objs.size,[s1.heap.objs.size],_,_,H1,rfl,I1.kept (t':=s1.toks) fun b o e=>Heap.get?_push_of_some _ e,Av a _,⟨_,Heap.get?_push_size _ rfl,rfl,rfl⟩,fun b hb=>?_,q⟩
 have e:b=s1.heap.objs.size:=by simpa using hb
 subst e
 exact I1.fpOk (Nat.le_refl _) (I1.hok.fresh (Nat.le_refl _))
theorem a65 {pins:List (Addr×Obj)} {σ:St} {H:Hp} {s:Shared} {R:It→Hp→Prop} {E:Value→Shared→Prop} {lo hi:Int} {t u v:Tok} {tk:Nat} (I:Inv X pins σ H s) (h1:-(2 ^ 62)≤lo) (h2:lo < 2 ^ 62) (h3:-(2 ^ 62)≤hi) (h4:hi < 2 ^ 62)
  (q:R (Itr lo (hi - lo).toNat) H):wpAny (model X.prog X.w) X.A (pyIter (.ref s.heap.objs.size)) (PIE X pins σ tg R) E { s with heap:=s.heap.push { cls:=.type "range",data:=.fields #[.int lo t,.int hi u,.int 1 v]},toks:=tk}:=by
 refine wpAny_pyIter_range (IsRange.new ..) (small_one h1 h2 h3 h4) ?_
 have I1:Inv X pins σ H { s with heap:=s.heap.push { cls:=.type "range",data:=.fields #[.int lo t,.int hi u,.int 1 v]},toks:=tk}:=I.kept fun b o e=>Heap.get?_push_of_some _ e
 refine ⟨(s.heap.push { cls:=.type "range",data:=.fields #[.int lo t,.int hi u,.int 1 v]}).objs.size,[(s.heap.push { cls:=.type "range",data:=.fields #[.int lo t,.int hi u,.int 1 v]}).objs.size],_,_,H,rfl,
  I1.kept (t':=tk) fun b o e=>Heap.get?_push_of_some _ e,cz _ lo (hi - lo).toNat,?_,fun b hb=>?_,q⟩
 ·have e1:lo + ((0:Nat):Int) * 1=lo:=by simp
  have e2:(((hi - lo).toNat:Nat):Int) - ((0:Nat):Int)=Builtin.Range.rangeSize lo hi 1:=by rw [rangeSize_one];split <;> omega
  show IsRangeIter _ _ (lo + ((0:Nat):Int) * 1) ((((hi - lo).toNat:Nat):Int) - ((0:Nat):Int)) 1
  rw [e1,e2]
  exact Heap.get?_push_size _ rfl
 ·have e:b=(s.heap.push { cls:=.type "range",data:=.fields #[.int lo t,.int hi u,.int 1 v]}).objs.size:=by simpa using hb
  subst e
  exact I1.fpOk (Nat.le_refl _) (I1.hok.fresh (Nat.le_refl _))
noncomputable def aP5 (ta:TA):TI:=fun σ H R=>ta σ H fun vs H1=>∃ j:Int,vs=[.int j]∧ -(2 ^ 62)≤j∧j < 2 ^ 62∧R (Itr 0 j.toNat) H1
theorem Al {a:Expr} {ta:TA} {p pos:Pos} (hg:Gl X "range") (hm:X.mg "range"=none) (ha:PA X [a] ta) (hs:starEach [a] X.env=[(false,eval a X.env)]:=by rfl):PI X tg (.Call (.Name "range" p) [a] [] pos) (aP5 ta):=by
 intro pins s σ H R I h
 refine Call_ (qo I hg hm boot_range (PyProof.Rows.callWith_type1 (thn (ha pos pins s σ H _ I h) fun us s1 ⟨vs,H1,I1,r1,q1⟩=>?_) hs rfl))
 obtain ⟨j,e,q1,q2,q⟩:=q1
 subst e
 cases r1 with
 | cons r rr =>
  cases rr
  obtain ⟨t,rfl⟩:=r
  exact call_range_1 (a65 I1 (by omega) (by omega) q1 q2 (by simpa using q))
noncomputable def tFor (wi:TI) (g:TG) (tb:TS):TS:=fun D σ H=>wi σ H fun J H1=>∃ W:Nat→Nat→St→Hp→Prop,(∃ m,W 0 m σ H1)∧∀ i m σ H,W i m σ H →
 (J.stop i H∧D.nx σ H)∨(J.go i H∧∃ N:St→Hp→Prop,(∀ σ' H',N σ' H'→∃ m',m' < m∧W (i + 1) m' σ' H')∧∀ x H',J.yld i H x H'→g x σ H' fun σ2 H2=>tb { D with nx:=N,ct:=N,bk:=D.nx} σ2 H2)
noncomputable def Vg (fp:List Addr) (h:Heap):List (Addr×Obj):=fp.filterMap fun b=>(h.get? b).map fun o=>(b,o)
theorem Zu {fp:List Addr} {h:Heap} {b:Addr} {o:Obj} (hb:b∈fp) (e:h.get? b=some o):(b,o)∈Vg fp h:=List.mem_filterMap.mpr ⟨b,hb,by rw [e];rfl⟩
theorem Ab {fp:List Addr} {h:Heap} {p:Addr×Obj} (hp:p∈Vg fp h):p.1∈fp∧h.get? p.1=some p.2:=by
 obtain ⟨b,hb,e⟩:=List.mem_filterMap.mp hp
 cases q:h.get? b with
 | none=>rw [q] at e;cases e
 | some o =>
  rw [q] at e
  have e':(b,o)=p:=Option.some.inj e
  subst e'
  exact ⟨hb,q⟩
theorem Inv.pinned {pins:List (Addr×Obj)} {σ:St} {H:Hp} {s:Shared} {fp:List Addr} (I:Inv X pins σ H s) (hf:∀ b∈fp,qf X pins H b) (ho:∀ b∈fp,∃ o,s.heap.get? b=some o∧∀ v,o.data≠.cell v):Inv X (pins++Vg fp s.heap) σ H s :=
 I.pins_of fun p hp=>(List.mem_append.mp hp).elim (fun z=>I.pin p (List.mem_append_right _ z)) fun z=>by
  obtain ⟨hb,e⟩:=Ab z
  obtain ⟨f0,f1,f2,_⟩:=hf p.1 hb
  obtain ⟨o,e',d⟩:=ho p.1 hb
  rw [e] at e';cases e'
  exact ⟨e,f0,f1,f2,d⟩
theorem Inv.unpinned {pins pl:List (Addr×Obj)} {σ:St} {H:Hp} {s:Shared} (I:Inv X (pins++pl) σ H s):Inv X pins σ H s:=I.pins_of fun p hp=>I.pin p (List.mem_append_right _ (List.mem_append_left _ hp))
theorem ay3 {iter:Expr} {body:List Stmt} {wi:TI} {g:TG} {tb:TS} {pos:Pos} (hp:PassesOwn (model X.prog X.w) X.A X.env X.xe) (hc:X.calm=true) (hi:PI X tg iter wi) (hg:PG X tg g) (hb:PSs X body tb)
  (hs:∀ x,foldedSetIterable iter X.env x=pure x:=by intro _;rfl):PS X (.For tg iter body [] pos) (tFor wi g tb):=by
 intro pins s σ H D I h
 refine wpAny_For (thn (hi pins s σ H _ I h) fun v s1 h1=>thn h1 fun itv s2 h2=>?_) hs
 obtain ⟨it,fp,tn,J,H2,e,I2,T,st2,f2,W,⟨m0,w0⟩,turn⟩:=h2
 subst e
 have stat:∀ {H':Hp},(∀ b∈fp,H' b=none)→∀ b∈fp,qf X pins H' b:=fun hn b hb=>⟨hn b hb,(f2 b hb).2⟩
 refine codeAny_forLoop_any (fun n s'=>∃ i σ' H',Inv X pins σ' H' s'∧tn i s'.heap∧(∀ b∈fp,H' b=none)∧W i n σ' H') ?_ m0 ⟨0,σ,H2,I2,st2,fun b hb=>(f2 b hb).1,w0⟩
 rintro n s3 ⟨i,σ3,H3,I3,st3,fr3,w3⟩
 rcases turn i n σ3 H3 w3 with ⟨stop,qn⟩ | ⟨go,N,hN,step⟩
 ·refine wpAny_passesOwn hp (thn (T.done X rfl rfl rfl hc i pins s3 σ3 H3 X.xe I3 (stat fr3) st3 stop) fun r s4 ⟨hr,I4⟩=>?_)
  subst hr
  exact wpAny_execs_nil ⟨σ3,H3,I4,qn⟩
 ·refine wpAny_passesOwn hp (thn (T.item X rfl rfl rfl hc i pins s3 σ3 H3 X.xe I3 (stat fr3) st3 go) fun r s4 ⟨u,hr,h4⟩=>?_)
  subst hr
  refine wpAny_passesOwn hp (thn h4 fun _ s5 ⟨x,H5,I5,r5,y5,st5,fr5⟩=>?_)
  have I5':=I5.pinned (stat fr5) (T.obj _ _ st5)
  refine wpAny_passesOwn hp (thn (hg _ s5 σ3 H5 x u _ I5' r5 (step x H5 y5)) fun _ s6 ⟨σ6,H6,I6,q6⟩=>?_)
  refine wpAny_passesOwn hp (thn (hb _ s6 σ6 H6 _ I6 q6) fun f s7 q7=>?_)
  have again:∀ {σ7:St} {H7:Hp},Inv X (pins++Vg fp s5.heap) σ7 H7 s7→N σ7 H7→∃ m,m < n∧∃ i σ' H',Inv X pins σ' H' s7∧tn i s7.heap∧(∀ b∈fp,H' b=none)∧W i m σ' H':=fun {σ7 H7} I7 n7=>by
   obtain ⟨m',hm,w7⟩:=hN σ7 H7 n7
   refine ⟨m',hm,i + 1,σ7,H7,I7.unpinned,T.keep _ _ _ st5 fun b hb o e=>(I7.pin (b,o) (List.mem_append_right _ (List.mem_append_right _ (Zu hb e)))).1,fun b hb=>?_,w7⟩
   obtain ⟨o,e,d⟩:=T.obj _ _ st5 b hb
   exact (I7.pin (b,o) (List.mem_append_right _ (List.mem_append_right _ (Zu hb e)))).2.1
  cases f with
  | next=>obtain ⟨σ7,H7,I7,n7⟩:=q7;exact again I7 n7
  | cont=>obtain ⟨σ7,H7,I7,n7⟩:=q7;exact again I7 n7
  | brk=>obtain ⟨σ7,H7,I7,q7⟩:=q7;exact ⟨σ7,H7,I7.unpinned,q7⟩
  | ret v=>obtain ⟨x7,σ7,H7,I7,r7,q7⟩:=q7;exact ⟨x7,σ7,H7,I7.unpinned,r7,q7⟩
end
end L2
namespace L2
open PySem PySem.Spec PyProof.Rows
noncomputable abbrev R2:=V→V→Hp→VK→Prop
noncomputable def OpR (X:Cx) (f:Value→Value→Sem Value) (r:R2):Prop :=
 ∀ (pins:List (Addr×Obj)) (s:Shared) (σ:St) (H:Hp) (x y:V) (v u:Value) (Q:VK),Inv X pins σ H s→Jv x v→Jv y u→r x y H Q →
  wpAny (model X.prog X.w) X.A (f v u) (EP X pins σ Q) X.xe s
noncomputable def UnR (X:Cx) (f:Value→Sem Value) (r:V→Hp→VK→Prop):Prop :=
 ∀ (pins:List (Addr×Obj)) (s:Shared) (σ:St) (H:Hp) (x:V) (v:Value) (Q:VK),Inv X pins σ H s→Jv x v→r x H Q →
  wpAny (model X.prog X.w) X.A (f v) (EP X pins σ Q) X.xe s
noncomputable def qe (X:Cx) (f:Value) (r:List V→Hp→VK→Prop):Prop :=
 ∀ (pins:List (Addr×Obj)) (s:Shared) (σ:St) (H:Hp) (xs:List V) (us:List Value) (Q:VK),Inv X pins σ H s→J7 xs us→r xs H Q →
  wpAny (model X.prog X.w) X.A (call f us) (EP X pins σ Q) X.xe s
noncomputable def TruR (X:Cx) (r:V→Hp→(Bool→Hp→Prop)→Prop):Prop :=
 ∀ (pins:List (Addr×Obj)) (s:Shared) (σ:St) (H:Hp) (x:V) (v:Value) (Q:Bool→Hp→Prop),Inv X pins σ H s→Jv x v→r x H Q →
  wpAny (model X.prog X.w) X.A (truthy v) (TP X pins σ Q) X.xe s
noncomputable def tOp (r:R2) (ta tb:TE):TE:=fun σ H Q=>ta σ H fun x H1=>tb σ H1 fun y H2=>r x y H2 Q
noncomputable def tUn (r:V→Hp→VK→Prop) (ta:TE):TE:=fun σ H Q=>ta σ H fun x H1=>r x H1 Q
noncomputable def rI (C:Int→Int→Prop) (g:Int→Int→V):R2:=fun x y H Q=>∃ i j,x=.int i∧y=.int j∧C i j∧Q (g i j) H
noncomputable def rI0 (g:Int→Int→V):R2:=fun x y H Q=>∃ i j,x=.int i∧y=.int j∧Q (g i j) H
noncomputable def rU (g:Int→V):V→Hp→VK→Prop:=fun x H Q=>∃ i,x=.int i∧Q (g i) H
section
variable {X:Cx} {a b c:Expr} {ta tb tc:TE} {pos:Pos}
theorem aG6 (ha:PE X a ta) (hb:PE X b tb) {pins:List (Addr×Obj)} {s:Shared} {σ:St} {H:Hp} {R:V→V→Hp→Prop} (I:Inv X pins σ H s)
  (h:ta σ H fun x H1=>tb σ H1 fun y H2=>R x y H2) {Q:Value→Shared→Prop} {f:Value→Value→Sem Value}
  (hf:∀ v u s2 x y H2,Inv X pins σ H2 s2→Jv x v→Jv y u→R x y H2→wpAny (model X.prog X.w) X.A (f v u) Q X.xe s2) :
  wpAny (model X.prog X.w) X.A (eval a X.env) (fun v s₁=>wpAny (model X.prog X.w) X.A (eval b X.env) (fun u s₂=>wpAny (model X.prog X.w) X.A (f v u) Q X.xe s₂) X.xe s₁) X.xe s:=by
 refine thn (ha pins s σ H _ I h) fun v s1 ⟨x,H1,I1,r1,q1⟩=>?_
 refine thn (hb pins s1 σ H1 _ I1 q1) fun u s2 ⟨y,H2,I2,r2,q2⟩=>?_
 exact hf v u s2 x y H2 I2 r1 r2 q2
theorem as0 {op:Operator} {r:R2} (ho:OpR X (binaryOp op) r) (ha:PE X a ta) (hb:PE X b tb):PE X (.BinOp a op b pos) (tOp r ta tb):=by
 intro pins s σ H Q I h
 exact wpAny_BinOp (aG6 ha hb I h fun v u s2 x y H2 I2 rx ry q=>ho pins s2 σ H2 x y v u Q I2 rx ry q)
theorem aL2 {op:UnaryOp} {r:V→Hp→VK→Prop} (ho:UnR X (unaryOp op) r) (ha:PE X a ta):PE X (.UnaryOp op a pos) (tUn r ta):=by
 intro pins s σ H Q I h
 exact UnaryOp_ (thn (ha pins s σ H _ I h) fun v s1 ⟨x,H1,I1,r1,q1⟩=>ho pins s1 σ H1 x v Q I1 r1 q1)
theorem opI {f:Value→Value→Sem Value} {C:Int→Int→Prop} {g:Int→Int→Int}
  (rule:∀ (i j:Int) (t u:Tok) (s:Shared) (Q:Value→Shared→Prop) (E:Value→Shared→Prop),C i j→Q (.int (g i j) s.toks) { s with toks:=s.toks + 1}→wpAny (model X.prog X.w) X.A (f (.int i t) (.int j u)) Q E s) :
  OpR X f (rI C fun i j=>.int (g i j)):=by
 intro pins s σ H x y v u Q I rx ry h
 obtain ⟨i,j,rfl,rfl,hc,q⟩:=h
 obtain ⟨t,rfl⟩:=rx
 obtain ⟨t',rfl⟩:=ry
 exact rule i j t t' s _ _ hc ⟨.int (g i j),H,I.tok _,⟨_,rfl⟩,q⟩
theorem a91 {f:Value→Value→Sem Value} {g:Int→Int→Int}
  (rule:∀ (i j:Int) (t u:Tok) (s:Shared) (Q:Value→Shared→Prop) (E:Value→Shared→Prop),Q (.int (g i j) s.toks) { s with toks:=s.toks + 1}→wpAny (model X.prog X.w) X.A (f (.int i t) (.int j u)) Q E s) :
  OpR X f (rI0 fun i j=>.int (g i j)):=by
 intro pins s σ H x y v u Q I rx ry h
 obtain ⟨i,j,rfl,rfl,q⟩:=h
 obtain ⟨t,rfl⟩:=rx
 obtain ⟨t',rfl⟩:=ry
 exact rule i j t t' s _ _ ⟨.int (g i j),H,I.tok _,⟨_,rfl⟩,q⟩
theorem al2 {f:Value→Value→Sem Value} {g:Int→Int→Bool}
  (rule:∀ (i j:Int) (t u:Tok) (s:Shared) (Q:Value→Shared→Prop) (E:Value→Shared→Prop),Q (.bool (g i j)) s→wpAny (model X.prog X.w) X.A (f (.int i t) (.int j u)) Q E s) :
  OpR X f (rI0 fun i j=>.bl (g i j)):=by
 intro pins s σ H x y v u Q I rx ry h
 obtain ⟨i,j,rfl,rfl,q⟩:=h
 obtain ⟨t,rfl⟩:=rx
 obtain ⟨t',rfl⟩:=ry
 exact rule i j t t' s _ _ ⟨.bl (g i j),H,I,rfl,q⟩
noncomputable def aq7 (i j:Int):Prop:=0≤j∧j≤1000000∧i.natAbs < 2 ^ 64
noncomputable def a32 (i j:Int):Prop:=(-(2 ^ 64) < i∧i < 2 ^ 64)∨(-(2 ^ 64) < j∧j < 2 ^ 64)
theorem a32.ok {i j:Int} (h:a32 i j):IntMulOk i j:=by
 rcases h with ⟨h1,h2⟩ | ⟨h1,h2⟩
 ·exact .of_left (intBits_le_64 h1 h2)
 ·exact .of_right (intBits_le_64 h1 h2)
theorem c9 (k:Nat):(0:Int)≤2 ^ k:=by
 rw [two_pow_cast]
 exact Int.natCast_nonneg _
theorem aB7:OpR X (binaryOp .Add) (rI0 fun i j=>.int (i + j)):=a91 fun _ _ _ _ _ _ _ q=>add_int q
theorem aA6:OpR X (binaryOp .Sub) (rI0 fun i j=>.int (i - j)):=a91 fun _ _ _ _ _ _ _ q=>sub_int q
theorem aB1:OpR X (binaryOp .Mult) (rI a32 fun i j=>.int (i * j)):=opI fun _ _ _ _ _ _ _ hc q=>mul_int q hc.ok
theorem aB2:OpR X (binaryOp .Mod) (rI (fun _ j=>0 < j) fun i j=>.int (i % j)):=opI fun i j _ _ _ _ _ hc q=>by
 have h1:(0:Int) < j:=hc
 exact mod_int' (by omega) (by rw [Int.fmod_eq_emod_of_nonneg i (by omega)];exact q)
theorem aA8:OpR X (binaryOp .LShift) (rI aq7 fun i j=>.int (i * 2 ^ j.toNat)):=opI fun _ _ _ _ _ _ _ hc q=>lshift_int_small hc.1 hc.2.1 hc.2.2 q
theorem aA7:OpR X (binaryOp .RShift) (rI (fun _ j=>0≤j) fun i j=>.int (i / 2 ^ j.toNat)):=opI fun i j _ _ _ _ _ hc q =>
 rshift_int hc (by rw [Int.fdiv_eq_ediv_of_nonneg i (c9 _)];exact q)
theorem aB6:OpR X (binaryOp .BitAnd) (rI0 fun i j=>.int (Builtin.bitAnd i j)):=a91 fun _ _ _ _ _ _ _ q=>and_int q
theorem aM4:OpR X (binaryOp .BitOr) (rI0 fun i j=>.int (Builtin.bitOr i j)):=a91 fun _ _ _ _ _ _ _ q=>or_int q
theorem aA5:OpR X (binaryOp .BitXor) (rI0 fun i j=>.int (Builtin.bitXor i j)):=a91 fun _ _ _ _ _ _ _ q=>xor_int q
theorem unI {f:Value→Sem Value} {g:Int→Int}
  (rule:∀ (i:Int) (t:Tok) (s:Shared) (Q:Value→Shared→Prop) (E:Value→Shared→Prop),Q (.int (g i) s.toks) { s with toks:=s.toks + 1}→wpAny (model X.prog X.w) X.A (f (.int i t)) Q E s) :
  UnR X f (rU fun i=>.int (g i)):=by
 intro pins s σ H x v Q I rx h
 obtain ⟨i,rfl,q⟩:=h
 obtain ⟨t,rfl⟩:=rx
 exact rule i t s _ _ ⟨.int (g i),H,I.tok _,⟨_,rfl⟩,q⟩
theorem av4:UnR X (unaryOp .USub) (rU fun i=>.int (-i)):=unI fun _ _ _ _ _ q=>neg_int q
end
section
variable {X:Cx} {a b c:Expr} {ta tb tc:TE} {pos:Pos}
theorem aM5:OpR X (compareOp .Lt) (rI0 fun i j=>.bl (decide (i < j))):=al2 fun _ _ _ _ _ _ _ q=>lt_int q
theorem aM6:OpR X (compareOp .LtE) (rI0 fun i j=>.bl (decide (i≤j))):=al2 fun _ _ _ _ _ _ _ q=>le_int q
theorem aM7:OpR X (compareOp .Gt) (rI0 fun i j=>.bl (decide (j < i))):=al2 fun _ _ _ _ _ _ _ q=>gt_int q
theorem aM8:OpR X (compareOp .GtE) (rI0 fun i j=>.bl (decide (j≤i))):=al2 fun _ _ _ _ _ _ _ q=>ge_int q
theorem OpR.or {f:Value→Value→Sem Value} {r r':R2} (h:OpR X f r) (h':OpR X f r'):OpR X f (fun x y H Q=>r x y H Q∨r' x y H Q):=by
 intro pins s σ H x y v u Q I rx ry q
 rcases q with q | q
 ·exact h pins s σ H x y v u Q I rx ry q
 ·exact h' pins s σ H x y v u Q I rx ry q
theorem nomark (b:Expr) {op:CmpOp} (h:op≠.In:=by decide) (h2:op≠.NotIn:=by decide):behindInMarks op b=false:=by
 have e1:(op == CmpOp.In)=false:=by cases op <;> first | rfl | exact absurd rfl h
 have e2:(op == CmpOp.NotIn)=false:=by cases op <;> first | rfl | exact absurd rfl h2
 cases b <;> simp [behindInMarks,e1,e2]
theorem aj9 {op:CmpOp} {r:R2} (ho:OpR X (compareOp op) r) (ha:PE X a ta) (hb:PE X b tb) (hm:behindInMarks op b=false):PE X (.Compare a [op] [b] pos) (tOp r ta tb):=by
 intro pins s σ H Q I h
 exact wpAny_Compare1 (aG6 ha hb I h fun v u s2 x y H2 I2 rx ry q=>ho pins s2 σ H2 x y v u Q I2 rx ry q) hm
noncomputable def ar2 (t:TE):TT:=fun σ H Q=>t σ H fun x H'=>∃ k,x=.bl k∧Q k H'
theorem ai5 {op:CmpOp} {r:R2} (ho:OpR X (compareOp op) r) (ha:PE X a ta) (hb:PE X b tb) (hm:behindInMarks op b=false):PT X (.Compare a [op] [b] pos) (ar2 (tOp r ta tb)):=by
 intro pins s σ H Q I h
 refine wpAny_isTrue_Compare1 (thn (ha pins s σ H _ I h) fun v s1 ⟨x,H1,I1,r1,q1⟩=>thn (hb pins s1 σ H1 _ I1 q1) fun u s2 ⟨y,H2,I2,r2,q2⟩ =>
  thn (ho pins s2 σ H2 x y v u _ I2 r1 r2 q2) fun c s3 ⟨z,H3,I3,r3,k,e,q3⟩=>?_) hm
 subst e
 cases r3
 exact wpAny_truthy_bool ⟨H3,I3,q3⟩
noncomputable def cx (r r':R2) (ta tb tc:TE):TE:=fun σ H Q=>ta σ H fun x H1=>tb σ H1 fun y H2=>r x y H2 fun z H3=>∃ k,z=.bl k ∧
 (if k=true then tc σ H3 fun w' H4=>r' y w' H4 Q else Q (.bl false) H3)
theorem a83 {op op':CmpOp} {r r':R2} (ho:OpR X (compareOp op) r) (ho':OpR X (compareOp op') r') (ha:PE X a ta) (hb:PE X b tb) (hc:PE X c tc)
  (hm:lastMarks [op,op'] [b,c]=false:=by with_unfolding_all rfl):PE X (.Compare a [op,op'] [b,c] pos) (cx r r' ta tb tc):=by
 intro pins s σ H Q I h
 refine Compare_chain (thn (ha pins s σ H _ I h) fun v s1 ⟨x,H1,I1,r1,q1⟩=>chain_link (thn (hb pins s1 σ H1 _ I1 q1) fun u s2 ⟨y,H2,I2,r2,q2⟩ =>
  thn (ho pins s2 σ H2 x y v u _ I2 r1 r2 q2) fun d s3 ⟨z,H3,I3,r3,k,e,q3⟩=>?_)) hm
 subst e
 cases r3
 refine wpAny_truthy_bool ?_
 cases k with
 | false=>exact ite_ff ⟨.bl false,H3,I3,rfl,q3⟩
 | true=>exact ite_tt (chain_last (thn (hc pins s3 σ H3 _ I3 q3) fun w' s4 ⟨z',H4,I4,r4,q4⟩=>ho' pins s4 σ H4 y z' u w' Q I4 r2 r4 q4))
theorem a69 {op op':CmpOp} {r r':R2} (ho:OpR X (compareOp op) r) (ho':OpR X (compareOp op') r') (ha:PE X a ta) (hb:PE X b tb) (hc:PE X c tc)
  (hm:lastMarks [op,op'] [b,c]=false:=by with_unfolding_all rfl):PT X (.Compare a [op,op'] [b,c] pos) (ar2 (cx r r' ta tb tc)):=by
 intro pins s σ H Q I h
 refine isTrue_chain (thn (ha pins s σ H _ I h) fun v s1 ⟨x,H1,I1,r1,q1⟩=>test_link (thn (hb pins s1 σ H1 _ I1 q1) fun u s2 ⟨y,H2,I2,r2,q2⟩ =>
  thn (ho pins s2 σ H2 x y v u _ I2 r1 r2 q2) fun d s3 ⟨z,H3,I3,r3,k,e,q3⟩=>?_)) hm
 subst e
 cases r3
 refine wpAny_truthy_bool ?_
 cases k with
 | false =>
  obtain ⟨k',e',q'⟩:=q3
  cases e'
  exact ite_ff ⟨H3,I3,q'⟩
 | true =>
  refine ite_tt (test_last (thn (hc pins s3 σ H3 _ I3 q3) fun w' s4 ⟨z',H4,I4,r4,q4⟩=>thn (ho' pins s4 σ H4 y z' u w' _ I4 r2 r4 q4) fun d' s5 ⟨z2,H5,I5,r5,k2,e2,q5⟩=>?_))
  subst e2
  cases r5
  exact wpAny_truthy_bool ⟨H5,I5,q5⟩
noncomputable def aG8 (K:PySem.W.Frag) (x:V) (H:Hp) (k:Bool):Prop :=
 match x with
 | .non=>k=false
 | .bl b=>k=b
 | .int i=>k=(i != 0)
 | .str y=>y.length≤sizeLine∧k=((y.length:Int) != 0)
 | .byt y=>y.size≤sizeLine∧k=((y.size:Int) != 0)
 | .ref p=>(∃ xs,SqL K H p xs∧k= !xs.isEmpty)∨(∃ xs,SqT K H p xs∧k= !xs.isEmpty)∨∃ kvs,H p=some (.dK kvs)∧k= !kvs.isEmpty
 | _=>False
theorem Cr {κ:Type} {kvs:List (κ×V)} {vs:List (κ×Value)} (r:KV kvs vs):(!vs.isEmpty)= !kvs.isEmpty:=by
 cases r <;> rfl
theorem K0 {xs:List V} {its:List Value} (r:J7 xs its):(!its.toArray.isEmpty)= !xs.isEmpty:=by
 cases r <;> simp
theorem kf:(sizeLine:Nat) < 2 ^ 63:=by rw [sizeLine_eq];decide
theorem q8:TruR X (fun x H Q=>∃ k,aG8 X.K x H k∧Q k H):=by
 intro pins s σ H x v Q I rx h
 obtain ⟨k,e,q⟩:=h
 have hl:=kf
 have hs:sizeLine=16777216:=sizeLine_eq
 cases x with
 | non =>
  cases rx
  have e':k=false:=e
  subst e'
  exact truthy_none ⟨H,I,q⟩
 | bl b =>
  cases rx
  have e':k=b:=e
  subst e'
  exact wpAny_truthy_bool ⟨H,I,q⟩
 | int i =>
  obtain ⟨t,rfl⟩:=rx
  have e':k=(i != 0):=e
  subst e'
  exact PySem.P.truthy_int ⟨H,I,q⟩
 | str y =>
  obtain ⟨t,rfl⟩:=rx
  obtain ⟨hy,e'⟩:y.length≤sizeLine∧k=((y.length:Int) != 0):=e
  subst e'
  exact PySem.P.truthy_str (by omega) ⟨H,I.tok _,q⟩
 | byt y =>
  obtain ⟨t,rfl⟩:=rx
  obtain ⟨hy,e'⟩:y.size≤sizeLine∧k=((y.size:Int) != 0):=e
  subst e'
  exact PySem.W.truthy_bytes (by omega) ⟨H,I.tok _,q⟩
 | ref p =>
  cases rx
  have e':(∃ xs,SqL X.K H p xs∧k= !xs.isEmpty)∨(∃ xs,SqT X.K H p xs∧k= !xs.isEmpty)∨∃ kvs,H p=some (.dK kvs)∧k= !kvs.isEmpty:=e
  rcases e' with ⟨xs,hx,e'⟩ | ⟨xs,hx,e'⟩ | ⟨kvs,hx,e'⟩
  ·subst e'
   obtain ⟨its,r,pl,hz⟩:=I.list hx
   have hlen:=r.length
   exact wpAny_truthy_list pl.isList (by simp only [List.size_toArray];omega) ⟨H,I.tok _,by rw [K0 r];exact q⟩
  ·subst e'
   obtain ⟨its,r,pl,hz⟩:=I.tuple hx
   have hlen:=r.length
   exact truthy_tuple pl (by simp only [List.size_toArray];omega) ⟨H,I.tok _,by rw [K0 r];exact q⟩
  ·subst e'
   obtain ⟨hz,hS,vs,r,m⟩:kvs.length≤sizeLine∧(p == sysModules)=false∧∃ vs,KV kvs vs∧s.heap.DictOf (Jn X.prog X.w) p vs:=I.hok p _ hx
   have hlen:kvs.length=vs.length:=Paired.length r
   exact wpAny_truthy_dict hS m (by omega) ⟨H,I.tok _,by rw [Cr r];exact q⟩
 | _=>exact (show False from e).elim
theorem a67 (ha:PE X a ta) (he:∀ whole,isTrue a X.env whole=(do let v ← whole;standAt a.pos;holding [v] (truthy v))) :
  PT X a (fun σ H Q=>ta σ H fun x H'=>∃ k,aG8 X.K x H' k∧Q k H'):=by
 intro pins s σ H Q I h
 exact isTrue_plain (thn (ha pins s σ H _ I h) fun v s1 ⟨x,H1,I1,r1,q1⟩=>q8 pins s1 σ H1 x v Q I1 r1 q1) (he _)
theorem cf:OpR X (binaryOp .Add) (fun x y H Q=>∃ i j,x=.str i∧y=.str j∧i.length + j.length≤sizeLine∧Q (.str (i++j)) H):=by
 intro pins s σ H x y v u Q I rx ry h
 obtain ⟨i,j,rfl,rfl,hz,q⟩:=h
 obtain ⟨t,rfl⟩:=rx
 obtain ⟨t',rfl⟩:=ry
 exact add_str (fun t' tk=>⟨.str (i++j),H,I.tok _,⟨_,rfl⟩,q⟩) hz
theorem Ww {x:V} {us:List Value} (r:J7 [x] us):∃ u,us=[u]∧Jv x u:=by
 cases r with
 | cons r1 r2=>cases r2;exact ⟨_,rfl,r1⟩
theorem b7 {x y:V} {us:List Value} (r:J7 [x,y] us):∃ u w',us=[u,w']∧Jv x u∧Jv y w':=by
 cases r with
 | cons r1 r2 =>
  cases r2 with
  | cons r3 r4=>cases r4;exact ⟨_,_,rfl,r1,r3⟩
theorem a23 (hc:X.calm=true):qe X (.builtin "max") (fun xs H Q=>∃ i j,xs=[.int i,.int j]∧Q (.int (if j > i then j else i)) H):=by
 intro pins s σ H xs us Q I r h
 obtain ⟨i,j,rfl,q⟩:=h
 obtain ⟨u,w',rfl,⟨t,rfl⟩,⟨t',rfl⟩⟩:=b7 r
 refine max_two_ints (I.ok.hd hc) fun h' tk k=>⟨_,H,I.kept k,?_,q⟩
 by_cases hj:j > i
 ·rw [if_pos hj,if_pos hj];exact ⟨_,rfl⟩
 ·rw [if_neg hj,if_neg hj];exact ⟨_,rfl⟩
theorem a22 (hc:X.calm=true):qe X (.builtin "min") (fun xs H Q=>∃ i j,xs=[.int i,.int j]∧Q (.int (if j < i then j else i)) H):=by
 intro pins s σ H xs us Q I r h
 obtain ⟨i,j,rfl,q⟩:=h
 obtain ⟨u,w',rfl,⟨t,rfl⟩,⟨t',rfl⟩⟩:=b7 r
 refine min_two_ints (I.ok.hd hc) fun h' tk k=>⟨_,H,I.kept k,?_,q⟩
 by_cases hj:j < i
 ·rw [if_pos hj,if_pos hj];exact ⟨_,rfl⟩
 ·rw [if_neg hj,if_neg hj];exact ⟨_,rfl⟩
theorem a24:qe X (.type "int") (fun xs H Q=>(∃ i,xs=[.int i]∧Q (.int i) H)∨∃ k,xs=[.bl k]∧Q (.int (if k then 1 else 0)) H):=by
 intro pins s σ H xs us Q I r h
 rcases h with ⟨i,rfl,q⟩ | ⟨k,rfl,q⟩
 ·obtain ⟨u,rfl,t,rfl⟩:=Ww r
  exact call_int_int ⟨.int i,H,I,⟨_,rfl⟩,q⟩
 ·obtain ⟨u,rfl,r1⟩:=Ww r
  cases r1
  exact call_int_bool ⟨.int (if k then 1 else 0),H,I.tok _,⟨_,rfl⟩,q⟩
noncomputable def LenV (K:PySem.W.Frag) (x:V) (H:Hp) (n:Nat):Prop :=
 match x with
 | .str y=>y.length≤sizeLine∧n=y.length
 | .byt y=>y.size≤sizeLine∧n=y.size
 | .ref p=>(∃ xs,SqL K H p xs∧n=xs.length)∨∃ xs,SqT K H p xs∧n=xs.length
 | _=>False
theorem ae7:qe X (.builtin "len") (fun xs H Q=>∃ x n,xs=[x]∧LenV X.K x H n∧Q (.int n) H):=by
 intro pins s σ H xs us Q I r h
 obtain ⟨x,n,rfl,e,q⟩:=h
 obtain ⟨u,rfl,rx⟩:=Ww r
 have hl:=kf
 have hs:sizeLine=16777216:=sizeLine_eq
 cases x with
 | str y =>
  obtain ⟨t,rfl⟩:=rx
  obtain ⟨hy,e'⟩:y.length≤sizeLine∧n=y.length:=e
  subst e'
  exact len_str (by omega) ⟨.int _,H,I.tok _,⟨_,rfl⟩,q⟩
 | byt y =>
  obtain ⟨t,rfl⟩:=rx
  obtain ⟨hy,e'⟩:y.size≤sizeLine∧n=y.size:=e
  subst e'
  exact PySem.W.len_bytes (by omega) ⟨.int _,H,I.tok _,⟨_,rfl⟩,q⟩
 | ref p =>
  cases rx
  have e':(∃ xs,SqL X.K H p xs∧n=xs.length)∨∃ xs,SqT X.K H p xs∧n=xs.length:=e
  rcases e' with ⟨xs,hx,e'⟩ | ⟨xs,hx,e'⟩
  ·subst e'
   obtain ⟨its,r',pl,hz⟩:=I.list hx
   have hlen:=r'.length
   exact Calls.call_len_list pl.isList (by simp only [List.size_toArray];omega) ⟨.int xs.length,H,I.tok _,⟨_,by simp only [List.size_toArray];rw [hlen]⟩,q⟩
  ·subst e'
   obtain ⟨its,r',pl,hz⟩:=I.tuple hx
   have hlen:=r'.length
   exact len_tuple pl (by simp only [List.size_toArray];omega) ⟨.int xs.length,H,I.tok _,⟨_,by simp only [List.size_toArray];rw [hlen]⟩,q⟩
 | _=>exact (show False from e).elim
end
end L2
namespace L2
open PySem PySem.Spec PyProof.Rows
structure ObjM (h:Heap) (x dx C:Addr) (mA:Str→Option Value):Prop where
 obj:h.get? x=some (PySem.W.instObj C dx)
 ns:h.Ns1 dx mA
 ne:dx≠x
theorem a05 {h:Heap} {dx:Addr} {mA:Str→Option Value} (n:h.Ns1 dx mA):∃ od,h.get? dx=some od∧∀ name,PySem.W.lookIn name od=some (mA name):=by
 obtain ⟨o,es,ep,ho,hd,hk,_,hm⟩:=n
 refine ⟨o,ho,fun name=>?_⟩
 have e:=hm name
 unfold nsFind findBy at e
 rw [← Array.find?_toList] at e
 unfold PySem.W.lookIn
 rw [hd]
 dsimp only
 split
 ·rename_i y q
  rw [q] at e
  exact congrArg some e
 ·rename_i q
  rw [q] at e
  have a:es.toList.any (·.refKey)=false:=by
   rw [List.any_eq_false]
   intro y hy
   obtain ⟨z,t,hkey⟩:=hk y (Array.mem_toList_iff.mp hy)
   simp [DictEntry.refKey,hkey]
  have a':¬ es.toList.any (·.refKey)=true:=by rw [a];exact Bool.false_ne_true
  rw [if_neg a']
  exact congrArg some e
theorem ObjM.look {h:Heap} {x dx C:Addr} {mA:Str→Option Value} (I:ObjM h x dx C mA):∃ od,PySem.W.InstAt h x (PySem.W.instObj C dx) C (some od)∧∀ name,PySem.W.lookIn name od=some (mA name) :=
 let ⟨od,ho,hl⟩:=a05 I.ns
 ⟨od,⟨I.obj,rfl,rfl,ho⟩,hl⟩
section
variable {prog:Program} {w:World} {A:Around} {E:Value→Shared→Prop} {s:Shared} {K:PySem.W.Frag} {x dx C f:Addr} {mA:Str→Option Value} {name:Str} {v:Value}
theorem ao4 {expr:Bool} {Q:Value→Shared→Prop} (X:K.In s.heap) (I:ObjM s.heap x dx C mA) (hg:PySem.W.plainGet K C name=true) (hh:PySem.W.hasDictIn K C=true)
  (ha:PySem.W.findIn K (.ref C) name=some none) (hv:mA name=some v) (hv':PySem.W.handedIn v=true) (h:Q v { s with toks:=s.toks + 1}) :
  wpAny (model prog w) A (getAttr (.ref x) name expr) Q E s:=by
 obtain ⟨od,J,hl⟩:=I.look
 exact PySem.W.get_value X J (PySem.W.plainGet_of hg).1 (PySem.W.findObj_own hh ha rfl (by rw [hl,hv])) hv' h
theorem ah1 {ns:List Str} {Q:Unit→Shared→Prop} (X:K.In s.heap) (I:ObjM s.heap x dx C mA)
  (hs:PySem.W.findIn K (.ref C) "__setattr__"=some (some (.builtin "object.__setattr__"))) (hp:PySem.W.plainOver K C=true) (ht:PySem.W.takerIn K C name=some none) (hh:PySem.W.hasDictIn K C=true)
  (hw:PySem.Within mA ns) (hsz:ns.length≤sizeLine)
  (h:∀ h',ObjM h' x dx C (fun y=>if y=name then some v else mA y)→Heap.SameBut dx s.heap h'→Q () { s with heap:=h',toks:=s.toks + 2}) :
  wpAny (model prog w) A (setAttr (.ref x) name v) Q E s:=by
 obtain ⟨od,J,hl⟩:=I.look
 refine PySem.W.set_plain X J hs (PySem.W.osa_open (s:={ s with toks:=s.toks + 1}) (r:=none) X J hp ht fun b=>?_)
 obtain ⟨cd,hc,hd'⟩:=PySem.W.any_some hh
 have hx:s.heap.get? x=some ⟨.ref C,some dx,.plain,#[]⟩:=I.obj
 refine wpAny_bind (wpAny_pure (wpAny_bind (wpAny_bind (wpAny_loadPart hx (wpAny_bind (PySem.W.Looks.here (s:={ s with toks:=s.toks + 1}) (PySem.W.looks_clsIn X hc) ?_))))))
 rw [hd']
 refine wpAny_pure (a:=some dx) (wpAny_bind (wpAny_pure (wpAny_bind ?_)))
 refine wpAny_nsSet1 (s:={ s with toks:=s.toks + 1}) I.ns fun h' hn2 hs2=>?_
 obtain ⟨oD,esD,epD,hoD,hdD,hcD⟩:=hn2.count (PySem.Within.cons name v hw)
 refine wpAny_bind (wpAny_lookBehind hoD (by rw [hdD];exact pastItsLine_dict (Nat.le_trans hcD (by rw [List.length_cons];omega))) ?_)
 exact wpAny_pure (h _ ⟨(hs2.2 _ (Ne.symm I.ne)).trans I.obj,hn2,I.ne⟩ hs2)
theorem ab4 {R:Result→Shared→Prop} {vs:List Value} {kw:List (Str×Value)} (X:K.In s.heap) (hm:PySem.W.makesIn K C=true)
  (hi:PySem.W.findIn K (.ref C) "__init__"=some (some (.ref f))) (hf:PySem.W.typeIn K (.ref f)=some (.type "function"))
  (h:codeAny (model prog w) (A.under (.builtin "type.__call__" ⟨.ref C::vs,kw⟩)) (.call (.ref f) ⟨.ref (s.heap.objs.size + 1)::vs,kw⟩) (PySem.W.InitBack (s.heap.objs.size + 1) R)
   { s with heap:=(s.heap.push PySem.W.emptyDict).push (PySem.W.instObj C s.heap.objs.size)}) :
  codeAny (model prog w) A (.call (.ref C) ⟨vs,kw⟩) R s:=by
 obtain ⟨hh,g,d,t,os⟩:=s
 exact PySem.W.make_core (PySem.W.makes_of X hm) (PySem.W.looks_findIn X hi) (fun self=>PySem.W.bind_fn X self hf) (.inl rfl) h
end
noncomputable def za (f:Str) (v:V):List (Str×V)→List (Str×V)
 | []=>[(f,v)]
 | (g,x)::r=>if g=f then (g,v)::r else (g,x)::za f v r
theorem Wo (f g:Str) (v:V):∀ fs:List (Str×V),(za f v fs).lookup g=if g=f then some v else fs.lookup g
 | []=>by
  show List.lookup g [(f,v)]=_
  by_cases h:g=f
  ·have hb:(g == f)=true:=beq_iff_eq.mpr h
   simp only [List.lookup,hb,if_pos h]
  ·have hb:(g == f)=false:=beq_eq_false_iff_ne.mpr h
   simp only [List.lookup,hb,if_neg h]
 | (k,x)::r=>by
  have ih:=Wo f g v r
  rw [show za f v ((k,x)::r)=(if k=f then (k,v)::r else (k,x)::za f v r) from rfl]
  by_cases hk:k=f
  ·rw [if_pos hk]
   by_cases h:g=k
   ·have hb:(g == k)=true:=beq_iff_eq.mpr h
    simp only [List.lookup,hb,if_pos (h.trans hk)]
   ·have hb:(g == k)=false:=beq_eq_false_iff_ne.mpr h
    simp only [List.lookup,hb,if_neg (fun e:g=f=>h (e.trans hk.symm))]
  ·rw [if_neg hk]
   by_cases h:g=k
   ·have hb:(g == k)=true:=beq_iff_eq.mpr h
    simp only [List.lookup,hb,if_neg (fun e:g=f=>hk (h.symm.trans e))]
   ·have hb:(g == k)=false:=beq_eq_false_iff_ne.mpr h
    simp only [List.lookup,hb]
    exact ih
theorem wf (f:Str) (v:V):∀ fs:List (Str×V),f∈(za f v fs).map (·.1)∧∀ g,g∈fs.map (·.1)→g∈(za f v fs).map (·.1)
 | []=>⟨by simp [za],fun g h=>by simp at h⟩
 | (k,x)::r=>by
  obtain ⟨i1,i2⟩:=wf f v r
  rw [show za f v ((k,x)::r)=(if k=f then (k,v)::r else (k,x)::za f v r) from rfl]
  by_cases hk:k=f
  ·rw [if_pos hk]
   subst hk
   exact ⟨by simp,fun g h=>by simpa using h⟩
  ·rw [if_neg hk]
   refine ⟨?_,fun g h=>?_⟩
   ·rw [List.map_cons]
    exact List.mem_cons_of_mem _ i1
   ·rw [List.map_cons] at h ⊢
    rcases List.mem_cons.mp h with e | e
    ·exact List.mem_cons.mpr (.inl e)
    ·exact List.mem_cons_of_mem _ (i2 g e)
theorem Wn (f:Str) (v:V):∀ fs:List (Str×V),(za f v fs).length≤fs.length + 1
 | []=>by simp [za]
 | (k,x)::r=>by
  have ih:=Wn f v r
  rw [show za f v ((k,x)::r)=(if k=f then (k,v)::r else (k,x)::za f v r) from rfl]
  by_cases hk:k=f
  ·rw [if_pos hk,List.length_cons,List.length_cons];omega
  ·rw [if_neg hk,List.length_cons,List.length_cons];omega
theorem Qp.some_of {v:V} {o:Option Value} (r:Qp (some v) o):∃ u,o=some u∧Jv v u:=by
 cases o with
 | none=>exact (show False from r).elim
 | some u=>exact ⟨u,rfl,r⟩
theorem a12 {v:V} {u:Value} (r:Jv v u):PySem.W.handedIn u=true:=by
 cases v with
 | non=>cases (show u=Value.none from r);rfl
 | bl b=>cases (show u=Value.bool b from r);rfl
 | int i=>obtain ⟨t,e⟩:=(show ∃ t,u=Value.int i t from r);cases e;rfl
 | str x=>obtain ⟨t,e⟩:=(show ∃ t,u=Value.str x t from r);cases e;rfl
 | byt b=>obtain ⟨t,e⟩:=(show ∃ t,u=Value.bytes b t from r);cases e;rfl
 | flt b=>obtain ⟨t,e⟩:=(show ∃ t,u=Value.float b t from r);cases e;rfl
 | ref a=>cases (show u=Value.ref a from r);rfl
 | ty n=>cases (show u=Value.type n from r);rfl
section
variable {P:Program} {w:World} {H H':Hp} {h h':Heap} {a C dx:Addr} {fs fs':List (Str×V)}
theorem F8 (hok:HOk P w H h) (e:H a=some (.ins C dx fs)):∃ mA,ObjM h a dx C mA∧(∀ f,Qp (fs.lookup f) (mA f))∧PySem.Within mA (fs.map (·.1))∧fs.length≤1000∧H dx=some (.own a):=by
 obtain ⟨d,z,ne,ob,mA,n,r,q⟩:=(show U0 P w H h a (.ins C dx fs) from hok a _ e)
 exact ⟨mA,⟨ob,n,ne⟩,r,q,z,d⟩
end
structure Cls (K:PySem.W.Frag) (C:Addr):Prop where
 pg:PySem.W.plainGet K C Str.empty=true
 hd:PySem.W.hasDictIn K C=true
 po:PySem.W.plainOver K C=true
 sa:PySem.W.findIn K (.ref C) "__setattr__"=some (some (.builtin "object.__setattr__"))
theorem Cls.get {K:PySem.W.Frag} {C:Addr} (c:Cls K C) (f:Str):PySem.W.plainGet K C f=true:=c.pg
noncomputable def yh (K:PySem.W.Frag) (C:Addr) (f:Str):Prop:=PySem.W.findIn K (.ref C) f=some none
theorem yh.taker {K:PySem.W.Frag} {C:Addr} {f:Str} (n:yh K C f):PySem.W.takerIn K C f=some none:=by
 unfold PySem.W.takerIn
 rw [show PySem.W.findIn K (.ref C) f=some none from n]
 rfl
section
variable {X:Cx} {pins:List (Addr×Obj)} {σ:St} {H:Hp} {s:Shared} {a C dx:Addr} {fs:List (Str×V)} {f:Str} {v:V} {A:Around} {E:Value→Shared→Prop}
theorem K5 {b:Bool} {Q:Value→Shared→Prop} (I:Inv X pins σ H s) (e:H a=some (.ins C dx fs)) (c:Cls X.K C) (n:yh X.K C f) (l:fs.lookup f=some v)
  (h:∀ u s',Inv X pins σ H s'→Jv v u→Q u s'):wpAny (model X.prog X.w) A (getAttr (.ref a) f b) Q E s:=by
 obtain ⟨mA,O,r,_,_,_⟩:=F8 I.hok e
 obtain ⟨u,hu,ru⟩:=Qp.some_of (v:=v) (o:=mA f) (by rw [← l];exact r f)
 exact ao4 I.kIn O (c.get f) c.hd n hu (a12 ru) (h u _ (I.tok _) ru)
theorem Vp {y:V} {u:Value} {Q:Unit→Shared→Prop} (I:Inv X pins σ H s) (e:H a=some (.ins C dx fs)) (c:Cls X.K C) (n:yh X.K C f) (hl:fs.length < 1000) (ry:Jv y u)
  (h:∀ s',Inv X pins σ (upd H a (.ins C dx (za f y fs))) s'→Q () s'):wpAny (model X.prog X.w) A (setAttr (.ref a) f u) Q E s:=by
 obtain ⟨mA,O,r,wi,_,ho⟩:=F8 I.hok e
 have hz:(fs.map (·.1)).length≤sizeLine:=by rw [List.length_map,sizeLine_eq];omega
 refine ah1 I.kIn O c.sa c.po n.taker c.hd wi hz fun h' O' sb=>h _ ?_
 have hd:∃ o,h'.get? dx=some o:=let ⟨o,_,_,e',_⟩:=O'.ns;⟨o,e'⟩
 refine I.write (x:=a) (e:=dx) (by rw [e];exact True.intro) (.inr ho) (fun b q hb z=>(sb.2 b hb).trans z) hd ?_
 refine ⟨by rw [jo O.ne];exact ho,?_,O.ne,O'.obj,_,O'.ns,fun g=>?_,fun g hg=>?_⟩
 ·have:=Wn f y fs;omega
 ·show Qp ((za f y fs).lookup g) (if g=f then some u else mA g)
  rw [Wo]
  by_cases q:g=f
  ·rw [if_pos q,if_pos q];exact ry
  ·rw [if_neg q,if_neg q];exact r g
 ·by_cases q:g=f
  ·rw [q];exact (wf f y fs).1
  ·refine (wf f y fs).2 g (wi g fun z=>hg ?_)
   show (if g=f then some u else mA g)=none
   rw [if_neg q];exact z
theorem Inv.made (I:Inv X pins σ H s):Inv X pins σ (upd (upd H s.heap.objs.size (.own (s.heap.objs.size + 1))) (s.heap.objs.size + 1) (.ins C s.heap.objs.size []))
  { s with heap:=(s.heap.push PySem.W.emptyDict).push (PySem.W.instObj C s.heap.objs.size)}:=by
 have e1:(s.heap.push PySem.W.emptyDict).get? s.heap.objs.size=some PySem.W.emptyDict:=Heap.get?_push_size s.heap rfl
 have e2:((s.heap.push PySem.W.emptyDict).push (PySem.W.instObj C s.heap.objs.size)).get? (s.heap.objs.size + 1)=some (PySem.W.instObj C s.heap.objs.size):=by
  have:=Heap.get?_push_size (s.heap.push PySem.W.emptyDict) (o:=PySem.W.instObj C s.heap.objs.size) rfl
  rwa [Heap.size_push] at this
 have e3:(s.heap.push PySem.W.emptyDict).Ns s.heap.objs.size (fun _=>none):=⟨PySem.W.emptyDict,#[],_,e1,rfl,(fun e he=>absurd he (by simp)),fun _=>rfl⟩
 have I1:=I.laid (a:=s.heap.objs.size) (o:=.own (s.heap.objs.size + 1)) (h':=s.heap.push PySem.W.emptyDict) (t':=s.toks) (fun b u q=>Heap.get?_push_of_some _ q) (Nat.le_refl _) ⟨_,e1⟩
 refine I1.laid (a:=s.heap.objs.size + 1) (o:=.ins C s.heap.objs.size []) (t':=s.toks) (fun b u q=>Heap.get?_push_of_some _ q) (Nat.le_of_eq (Heap.size_push _ _)) ?_
 have ne:s.heap.objs.size≠s.heap.objs.size + 1:=Nat.ne_of_lt (Nat.lt_succ_self _)
 refine ⟨by rw [jo ne,J4],Nat.zero_le _,ne,e2,fun _=>none,(Heap.Ns1.of_empty e3).at fun o q=>Heap.get?_push_of_some _ q,fun _=>True.intro,fun y hy=>absurd rfl hy⟩
theorem aq3 {prog:Program} {w:World} {env:Env} {e:Expr} {f:Str} {pos:Pos} {s:Shared} {Q:Value→Shared→Prop} (hb:attributeBase e f env (eval e env)=eval e env)
  (h:wpAny (model prog w) A (eval e env) (fun o s₁=>wpAny (model prog w) A (getAttr o f true) Q E s₁) E s):wpAny (model prog w) A (eval (.Attribute e f pos) env) Q E s :=
 Attribute_any_ h (by rw [arm_eval_Attribute,hb])
end
noncomputable def tFld (K:PySem.W.Frag) (ta:TE) (f:Str):TE:=fun σ H Q=>ta σ H fun x H1=>∃ a C dx fs v,x=.ref a∧H1 a=some (.ins C dx fs)∧Cls K C∧yh K C f∧fs.lookup f=some v∧Q v H1
noncomputable def sFld (K:PySem.W.Frag) (ta tv:TE) (f:Str):TS:=fun D σ H=>tv σ H fun y H1=>ta σ H1 fun x H2=>∃ a C dx fs,x=.ref a∧H2 a=some (.ins C dx fs)∧Cls K C∧yh K C f∧fs.length < 1000 ∧
 D.nx σ (upd H2 a (.ins C dx (za f y fs)))
noncomputable def aR1 (X:Cx) (op:Operator) (rd:V→V→Hp→VK→Prop):Prop :=
 ∀ (pins:List (Addr×Obj)) (s:Shared) (σ:St) (H:Hp) (x y:V) (u v:Value) (Q:VK),Inv X pins σ H s→Jv x u→Jv y v→rd x y H Q→wpAny (model X.prog X.w) X.A (inplaceOp op u v) (EP X pins σ Q) X.xe s
noncomputable def ah4 (K:PySem.W.Frag) (ta tv:TE) (rd:V→V→Hp→VK→Prop) (f:Str):TS:=fun D σ H=>ta σ H fun x H1=>∃ a C dx fs v,x=.ref a∧H1 a=some (.ins C dx fs)∧Cls K C∧yh K C f∧fs.lookup f=some v ∧
 tv σ H1 fun y H2=>rd v y H2 fun z H3=>∃ dx' fs',H3 a=some (.ins C dx' fs')∧fs'.length < 1000∧D.nx σ (upd H3 a (.ins C dx' (za f z fs')))
section
variable {X:Cx} {o e value:Expr} {f:Str} {pos pos' tpos:Pos} {ta tv:TE}
theorem az2 (he:PE X e ta) (hb:attributeBase e f X.env (eval e X.env)=eval e X.env):PE X (.Attribute e f pos) (tFld X.K ta f):=by
 intro pins s σ H Q I h
 refine aq3 hb (thn (he pins s σ H _ I h) fun u s1 ⟨x,H1,I1,rx,a,C,dx,fs,v,ex,ea,c,n,l,q⟩=>?_)
 subst ex
 obtain rfl:u=Value.ref a:=rx
 exact K5 I1 ea c n l fun u' s2 I2 ru=>⟨v,H1,I2,ru,q⟩
theorem ay4 (ha:PE X o ta) (hv:PE X value tv) (hs:swapsWith value (some (.Attribute o f pos')) pos.line X.env=pure false):PS X (.Assign [.Attribute o f pos'] value pos) (sFld X.K ta tv f):=by
 intro pins s σ H D I h
 refine plainObj_wpAny_Assign_Attribute (thn (hv pins s σ H _ I h) fun u s1 ⟨y,H1,I1,ry,q⟩=>thn (ha pins s1 σ H1 _ I1 q) fun ov s2 ⟨x,H2,I2,rx,a,C,dx,fs,ex,ea,c,n,l,q2⟩=>?_) hs
 subst ex
 obtain rfl:ov=Value.ref a:=rx
 exact Vp I2 ea c n l ry fun s3 I3=>⟨σ,_,I3,q2⟩
theorem An {op:Operator} {rd:V→V→Hp→VK→Prop} (ha:PE X o ta) (hv:PE X value tv) (hop:aR1 X op rd):PS X (.AugAssign (.Attribute o f tpos) op value pos) (ah4 X.K ta tv rd f):=by
 intro pins s σ H D I h
 refine wpAny_AugAssign_AttributeAny (thn (ha pins s σ H _ I h) fun ov s1 ⟨x,H1,I1,rx,a,C,dx,fs,v,ex,ea,c,n,l,q⟩=>?_)
 subst ex
 obtain rfl:ov=Value.ref a:=rx
 refine K5 I1 ea c n l fun u s2 I2 ru=>thn (hv pins s2 σ H1 _ I2 q) fun w3 s3 ⟨y,H2,I3,ry,q3⟩=>thn (hop pins s3 σ H2 v y u w3 _ I3 ru ry q3) fun w4 s4 ⟨z,H3,I4,rz,dx',fs',ea',l',q4⟩=>?_
 exact Vp I4 ea' c n l' rz fun s5 I5=>⟨σ,_,I5,q4⟩
noncomputable def rAdd:V→V→Hp→VK→Prop:=fun x y H Q=>∃ i j,x=.int i∧y=.int j∧Q (.int (i + j)) H
theorem aE5:aR1 X .Add rAdd:=by
 rintro pins s σ H x y u v Q I rx ry ⟨i,j,rfl,rfl,q⟩
 obtain ⟨t,rfl⟩:=(show ∃ t,u=Value.int i t from rx)
 obtain ⟨t',rfl⟩:=(show ∃ t',v=Value.int j t' from ry)
 exact PyProof.Rows.iadd_int ⟨.int (i + j),H,I.tok _,⟨_,rfl⟩,q⟩
end
section
variable {X:Cx} {pins:List (Addr×Obj)} {σ:St} {H:Hp} {s:Shared} {A:Around} {E:Value→Shared→Prop} {Q:Value→Shared→Prop} {c:Value} {b:Bool}
inductive TyOf (K:PySem.W.Frag) (H:Hp):V→Value→Prop where
 | non:TyOf K H .non (.type "NoneType")
 | bl (x:Bool):TyOf K H (.bl x) (.type "bool")
 | int (i:Int):TyOf K H (.int i) (.type "int")
 | str (x:Str):TyOf K H (.str x) (.type "str")
 | flt (x:UInt64):TyOf K H (.flt x) (.type "float")
 | lst {a:Addr} {xs:List V} (e:H a=some (.lst xs)):TyOf K H (.ref a) (.type "list")
 | frz {a:Addr} {o:Obj} {xs:List V} (e:H a=some (.frz o (.lst xs))):TyOf K H (.ref a) (.type "list")
 | tup {a:Addr} {xs:List V} (e:H a=some (.tup xs)):TyOf K H (.ref a) (.type "tuple")
 | dK {a:Addr} {kvs:List (Key×V)} (e:H a=some (.dK kvs)):TyOf K H (.ref a) (.type "dict")
 | dT {a:Addr} {kvs:List (List Key×V)} (e:H a=some (.dT kvs)):TyOf K H (.ref a) (.type "dict")
 | ins {a C dx:Addr} {fs:List (Str×V)} (e:H a=some (.ins C dx fs)) (cl:Cls K C) (ha:PySem.W.findIn K (.ref C) "__class__"=some (some (.builtin "object.__class__")))
   (hn:PySem.W.specialIn K (.builtin "object.__class__") "__get__"=some (some (.builtin "getset_descriptor.__get__"))) (htk:PySem.W.takesIn K (.builtin "object.__class__")=some true)
   (hm:PySem.W.mroIn K C (.type "object")=some true):TyOf K H (.ref a) (.ref C)
theorem Z2 {x:V} {u t:Value} (I:Inv X pins σ H s) (rx:Jv x u) (ty:TyOf X.K H x t) (e:PySem.W.kitOne X.K t c=some b) (h:∀ tk,Q (.bool b) { s with toks:=tk}) :
  wpAny (model X.prog X.w) A (call (.builtin "isinstance") [u,c]) Q E s:=by
 cases ty with
 | non=>cases (show u=Value.none from rx);exact PySem.W.kia_one PySem.W.kitx_none I.kIn True.intro e (fun z=>nomatch z) h
 | bl y=>cases (show u=Value.bool y from rx);exact PySem.W.kia_one PySem.W.kitx_bool I.kIn True.intro e (fun z=>nomatch z) h
 | int i=>obtain ⟨t,q⟩:=(show ∃ t,u=Value.int i t from rx);cases q;exact PySem.W.kia_one PySem.W.kitx_int I.kIn True.intro e (fun z=>nomatch z) h
 | str y=>obtain ⟨t,q⟩:=(show ∃ t,u=Value.str y t from rx);cases q;exact PySem.W.kia_one PySem.W.kitx_str I.kIn True.intro e (fun z=>nomatch z) h
 | flt y=>obtain ⟨t,q⟩:=(show ∃ t,u=Value.float y t from rx);cases q;exact PySem.W.kia_one PySem.W.kitx_float I.kIn True.intro e (fun z=>nomatch z) h
 | @lst a xs ea =>
  cases (show u=Value.ref a from rx)
  obtain ⟨_,_,n,_,h1⟩:=(show U0 X.prog X.w H s.heap a (.lst xs) from I.hok a _ ea)
  exact PySem.W.kia_one PySem.W.kitx_list I.kIn ⟨_,h1,rfl⟩ e (fun z=>nomatch z) h
 | @frz a ob xs ea =>
  cases (show u=Value.ref a from rx)
  obtain ⟨_,_,_,n,_,h1⟩:=(show U0 X.prog X.w H s.heap a (.frz ob (.lst xs)) from I.hok a _ ea)
  exact PySem.W.kia_one PySem.W.kitx_list I.kIn ⟨_,h1,rfl⟩ e (fun z=>nomatch z) h
 | @tup a xs ea =>
  cases (show u=Value.ref a from rx)
  obtain ⟨_,_,_,p⟩:=(show U0 X.prog X.w H s.heap a (.tup xs) from I.hok a _ ea)
  obtain ⟨o,h1,h2,_⟩:=p
  exact PySem.W.kia_one PySem.W.kitx_tuple I.kIn ⟨o,h1,h2⟩ e (fun z=>nomatch z) h
 | @dK a kvs ea =>
  cases (show u=Value.ref a from rx)
  obtain ⟨_,_,vs,_,p⟩:=(show U0 X.prog X.w H s.heap a (.dK kvs) from I.hok a _ ea)
  obtain ⟨o,es,ep,h1,h2,_⟩:=p
  exact PySem.W.kia_one PySem.W.kitx_dict I.kIn ⟨o,h1,h2.1⟩ e (fun z=>nomatch z) h
 | @dT a kvs ea =>
  cases (show u=Value.ref a from rx)
  obtain ⟨_,_,xs,_,o,es,ep,h1,h2,_⟩:=(show U0 X.prog X.w H s.heap a (.dT kvs) from I.hok a _ ea)
  exact PySem.W.kia_one PySem.W.kitx_dict I.kIn ⟨o,h1,h2.1⟩ e (fun z=>nomatch z) h
 | @ins a C dx fs ea cl ha hn htk hm =>
  cases (show u=Value.ref a from rx)
  obtain ⟨mA,O,_⟩:=F8 I.hok ea
  obtain ⟨od,J,_⟩:=O.look
  exact PySem.W.kia_one (PySem.W.kitx_own (cl.get _) cl.hd ha hn htk hm) I.kIn J e (fun z=>nomatch z) h
end
end L2
namespace L2
open PySem PySem.Spec PyProof.Rows
structure Room (k:Nat) (A:Around):Prop where
 hd:A.handled=none
 dp:A.depth + 3 * k + 5 < recursionLimit
 un:A.units + 16 * k + 200 < cLine
theorem Room.mono {j k:Nat} {A:Around} (r:Room k A) (h:j≤k):Room j A:=⟨r.hd,by have:=r.dp;omega,by have:=r.un;omega⟩
theorem Room.deeper {k:Nat} {A:Around} (r:Room (k + 1) A) (env:Env):Room k (A.deeper env) :=
 ⟨r.hd,by have:=r.dp;show A.depth + 1 + 3 * k + 5 < _;omega,by have:=r.un;show A.units + 3 + 16 * k + 200 < _;omega⟩
theorem Cy {A:Around} {C:Addr} {us:List Value} {kw:List (Str×Value)}:(A.under (.builtin "type.__call__" ⟨.ref C::us,kw⟩)).depth=A.depth + 1:=by
 first | rfl | simp [Around.under,Code.weight,Code.isCreation,Code.isGuard,Code.isCaller,Code.frames,Code.isFrame,guardIds]
theorem Cz {A:Around} {C:Addr} {us:List Value} {kw:List (Str×Value)}:(A.under (.builtin "type.__call__" ⟨.ref C::us,kw⟩)).units=A.units + 1:=by
 first | rfl | simp [Around.under,Code.cUnits,Code.frames,Code.isFrame]
theorem Room.make {k:Nat} {A:Around} (r:Room (k + 1) A) (C:Addr) (us:List Value) (kw:List (Str×Value)):Room k (A.under (.builtin "type.__call__" ⟨.ref C::us,kw⟩)) :=
 ⟨r.hd,by have:=r.dp;rw [Cy];omega,by have:=r.un;rw [Cz];omega⟩
theorem Room.depth {k:Nat} {A:Around} (r:Room k A):A.depth < recursionLimit:=by have:=r.dp;omega
noncomputable def aw0:TA:=fun _ H Q=>Q [] H
noncomputable def aI6 (ta:TE) (tr:TA):TA:=fun σ H Q=>ta σ H fun x H1=>tr σ H1 fun xs H2=>Q (x::xs) H2
section
variable {X:Cx} {e:Expr} {es:List Expr} {te:TE} {t:TA} {pos:Pos}
theorem cg:PA X [] aw0:=fun _ _ _ _ H Q I h=>Calls.spliced_nil ⟨[],H,I,.nil,h⟩
theorem vz (ha:PE X e te) (hr:PA X es t) (hs:starEach (e::es) X.env=(false,eval e X.env)::starEach es X.env:=by rfl):PA X (e::es) (aI6 te t):=by
 intro pos pins s σ H Q I h
 rw [hs]
 show wpAny _ _ (spliced ((false,eval e X.env)::backTo pos (starEach es X.env))) _ _ s
 refine Calls.spliced_cons (thn (ha pins s σ H _ I h) fun u s1 ⟨x,H1,I1,r1,q1⟩=>?_)
 exact thn (hr pos pins s1 σ H1 _ I1 q1) fun us s2 ⟨xs,H2,I2,r2,q2⟩=>⟨x::xs,H2,I2,.cons r1 r2,q2⟩
noncomputable def tTup (t:TA):TE:=fun σ H Q=>t σ H fun xs H1=>xs.length≤sizeLine∧∀ p,H1 p=none→Q (.ref p) (upd H1 p (.tup xs))
noncomputable def tLst (t:TA):TE:=fun σ H Q=>t σ H fun xs H1=>xs.length≤sizeLine∧∀ p,H1 p=none→Q (.ref p) (upd H1 p (.lst xs))
theorem ay8 {x1} (h:PA X es t):PE X (.Tuple es x1 pos) (tTup t):=by
 intro pins s σ H Q I hq
 refine wpAny_Tuple_spliced (thn (h pos pins s σ H _ I hq) fun us s1 ⟨xs,H1,I1,r,z,q⟩=>⟨by rw [← r.length];exact z,?_⟩)
 have hf:H1 s1.heap.objs.size=none:=I1.hok.fresh (Nat.le_refl _)
 refine ⟨.ref s1.heap.objs.size,upd H1 s1.heap.objs.size (.tup xs),I1.laid (t':=s1.toks) (fun b u e=>Heap.get?_push_of_some _ e) (Nat.le_refl _) ?_,rfl,q _ hf⟩
 exact ⟨z,us,r,⟨_,Heap.get?_push_size _ rfl,rfl,_,rfl⟩⟩
theorem cm (h:PA X es t):PE X (.List es pos) (tLst t):=by
 intro pins s σ H Q I hq
 refine wpAny_List_spliced (thn (h pos pins s σ H _ I hq) fun us s1 ⟨xs,H1,I1,r,z,q⟩=>⟨by rw [← r.length];exact z,?_⟩)
 have hf:H1 s1.heap.objs.size=none:=I1.hok.fresh (Nat.le_refl _)
 refine ⟨.ref s1.heap.objs.size,upd H1 s1.heap.objs.size (.lst xs),I1.laid (t':=s1.toks) (fun b u e=>Heap.get?_push_of_some _ e) (Nat.le_refl _) ?_,rfl,q _ hf⟩
 exact ⟨z,us,0,r,Heap.get?_push_size _ rfl⟩
end
noncomputable abbrev Sp:=List V→Hp→VK→XK→Prop
noncomputable abbrev CXT:=List Env→Hp→Shared→XK→Value→Shared→Prop
structure Env0 (P:Program) (w:World) (K:PySem.W.Frag) (mg:Str→Option Value) (base:Heap) (A:Around) (outer:List Env) (s:Shared) (H:Hp):Prop where
 frames:A.frames=some outer
 mod:Mod K mg base
 bs:∀ b o,base.get? b=some o→s.heap.get? b=some o∧H b=none
 bsz:base.objs.size≤s.heap.objs.size
 funs:s.heap.FunFrames base outer
 frf:∀ b∈frs outer,H b=none
 hok:HOk P w H s.heap
 bare:AllBare s.gens
noncomputable def CE (outer:List Env) (P:Program) (w:World) (H:Hp) (s:Shared) (Q:VK) (u:Value) (s':Shared):Prop :=
 ∃ v H',s'.os=s.os∧AllBare s'.gens∧Un (frs outer) [] H H' s.heap s'.heap∧HOk P w H' s'.heap∧Jv v u∧Q v H'
noncomputable def CR (CX:CXT) (outer:List Env) (P:Program) (w:World) (H:Hp) (s:Shared) (Q:VK) (E:XK) (r:Result) (s':Shared):Prop :=
 match r with
 | .ok (.ret u)=>CE outer P w H s Q u s'
 | .ok _=>False
 | .error e=>CX outer H s E e s'
structure FnOk (P:Program) (w:World) (K:PySem.W.Frag) (mg:Str→Option Value) (base:Heap) (CX:CXT) (k:Nat) (f:Addr) (fd:FuncData) (ps:List Str) (sp:Sp):Prop where
 len:∀ vs H Q E,sp vs H Q E→vs.length=ps.length
 run:∀ (A:Around) (outer:List Env) (s:Shared) (H:Hp) (args:Args) (us:List Value) (vs:List V) (Q:VK) (E:XK),Room k A→Env0 P w K mg base A outer s H→BindsTo s fd args (ps.zip us)→J7 vs us→sp vs H Q E →
  codeAny (model P w) A (.call (.ref f) args) (CR CX outer P w H s Q E) s
theorem Env0.make {P:Program} {w:World} {K:PySem.W.Frag} {mg:Str→Option Value} {base:Heap} {A:Around} {outer:List Env} {s:Shared} {H:Hp} (e:Env0 P w K mg base A outer s H) (C:Addr) (us:List Value) (kw:List (Str×Value)) :
  Env0 P w K mg base (A.under (.builtin "type.__call__" ⟨.ref C::us,kw⟩)) outer s H:=⟨by first | exact e.frames | (simpa [Around.under,Code.envs,Code.isFrame,pushEnvs] using e.frames),e.mod,e.bs,e.bsz,e.funs,e.frf,e.hok,e.bare⟩
section
variable {X:Cx} {pins:List (Addr×Obj)} {σ:St} {H:Hp} {s s':Shared}
theorem Inv.env0 (I:Inv X pins σ H s):Env0 X.prog X.w X.K X.mg X.base X.A X.stack s H :=
 ⟨I.ok.frames,I.ok.mod,I.bs,Nat.le_trans I.ok.bsz I.sz,I.stack,I.stkFree,I.hok,I.bare⟩
theorem Inv.after {Q:VK} {u:Value} (I:Inv X pins σ H s) (h:CE X.stack X.prog X.w H s Q u s'):EP X pins σ Q u s':=by
 obtain ⟨v,H',os,bare,un,hok,r,q⟩:=h
 obtain ⟨hh,g,d,t,os'⟩:=s'
 obtain rfl:os'=s.os:=os
 exact ⟨v,H',I.call (h':=hh) (g':=g) (d':=d) (t':=t) (ch:=[]) un hok bare (fun b z=>absurd z (by simp)),r,q⟩
end
noncomputable def ar3 (sp:Sp) (dvs:List V) (E:XK) (t:TA):TE:=fun σ H Q=>t σ H fun vs H1=>sp (vs++dvs) H1 Q E
noncomputable def aI1 (C:Addr) (sp:Sp) (dvs:List V) (E:XK) (t:TA):TE:=fun σ H Q=>t σ H fun vs H1=>∀ x dx,H1 x=none→H1 dx=none→dx≠x →
 sp (.ref x::(vs++dvs)) (upd (upd H1 dx (.own x)) x (.ins C dx [])) (fun v H2=>v=.non∧Q (.ref x) H2) E
noncomputable def Xe (K:PySem.W.Frag) (fd:FuncData) (ps:List Str) (ds:List Value):Prop :=
 ∀ (s:Shared) (us:List Value),K.In s.heap→(us++ds).length=ps.length→BindsTo s fd ⟨us,[]⟩ (ps.zip (us++ds))
theorem Xe.all {K:PySem.W.Frag} {fd:FuncData} {ps:List Str} (h:∀ us:List Value,us.length=ps.length→bindArgs fd ⟨us,[]⟩=pure (ps.zip us)):Xe K fd ps []:=fun s us _ hl=>by
 rw [List.append_nil] at hl ⊢
 exact .of_eq (h us hl)
noncomputable def Wz (CX:CXT) (X:Cx) (E:XK):Prop:=∀ (pins:List (Addr×Obj)) (σ:St) (H:Hp) (s:Shared) (e:Value) (s':Shared),Inv X pins σ H s→CX X.stack H s E e s'→X.xe e s'
section
variable {X:Cx} {CX:CXT} {k:Nat} {f C:Addr} {fd:FuncData} {ps:List Str} {sp:Sp} {dvs:List V} {ds:List Value} {E:XK} {x m:Str} {p pos apos:Pos} {e o:Expr} {es:List Expr} {ta:TE} {t:TA}
theorem a60 {pins:List (Addr×Obj)} {σ:St} {H:Hp} {s:Shared} {Q:VK} {us:List Value} {vs:List V} (F:FnOk X.prog X.w X.K X.mg X.base CX k f fd ps sp) (hr:Room k X.A) (hb:Xe X.K fd ps ds) (hd:J7 dvs ds) (hx:Wz CX X E)
  (I:Inv X pins σ H s) (r:J7 vs us) (h:sp (vs++dvs) H Q E):wpAny (model X.prog X.w) X.A (call (.ref f) us) (EP X pins σ Q) X.xe s:=by
 have r2:J7 (vs++dvs) (us++ds):=r.append hd
 have hl:(us++ds).length=ps.length:=by rw [← r2.length];exact F.len _ _ _ _ h
 refine wpAny_call (codeAny_mono (F.run X.A X.stack s H ⟨us,[]⟩ (us++ds) (vs++dvs) Q E hr I.env0 (hb s us I.kIn hl) r2 h) fun r s' hq=>?_)
 cases r with
 | error e=>exact hx pins σ H s e s' I hq
 | ok fl =>
  cases fl with
  | ret u=>exact I.after hq
  | next=>exact False.elim hq
  | brk=>exact False.elim hq
  | cont=>exact False.elim hq
theorem ak0 (F:FnOk X.prog X.w X.K X.mg X.base CX k f fd ps sp) (hr:Room k X.A) (hg:Gl X x) (hm:X.mg x=some (.ref f)) (hk:PySem.W.keepIn X.K (.ref f)=true) (hb:Xe X.K fd ps ds) (hd:J7 dvs ds) (hx:Wz CX X E)
  (ha:PA X (e::es) t) (hdb:(x == ("__debug__":Str))=false:=by decide) (he:starEach (e::es) X.env=(false,eval e X.env)::starEach es X.env:=by rfl) (hpl:(backTo pos (starEach es X.env)).any (·.1)=false:=by rfl) :
  PE X (.Call (.Name x p) (e::es) [] pos) (ar3 sp dvs E t):=by
 intro pins s σ H Q I h
 refine wpAny_Call_Name_kw (Q6 I hg hm ?_ hdb)
 refine PySem.W.callWith_K (h₀:=X.base) I.ok.mod.kin hk (thn (ha pos pins s σ H _ I h) fun us s1 ⟨vs,H1,I1,r,q⟩=>⟨I1.kIn,?_⟩) he hpl
 exact a60 F hr hb hd hx I1 r q
theorem a84 (F:FnOk X.prog X.w X.K X.mg X.base CX k f fd ps sp) (hr:Room k X.A) (hg:Gl X x) (hm:X.mg x=some (.ref f)) (hk:PySem.W.keepIn X.K (.ref f)=true) (hb:Xe X.K fd ps ds) (hd:J7 dvs ds) (hx:Wz CX X E)
  (hdb:(x == ("__debug__":Str))=false:=by decide):PE X (.Call (.Name x p) [] [] pos) (ar3 sp dvs E aw0):=by
 intro pins s σ H Q I h
 refine wpAny_Call_Name_kw (Q6 I hg hm ?_ hdb)
 exact PySem.W.callWith_K0 I.kIn hk (a60 (us:=[]) F hr hb hd hx I .nil h)
structure Mk (K:PySem.W.Frag) (C f:Addr):Prop where
 makes:PySem.W.makesIn K C=true
 init:PySem.W.findIn K (.ref C) "__init__"=some (some (.ref f))
 fn:PySem.W.isFn K (.ref f)=true
 kp:PySem.W.keepIn K (.ref C)=true
theorem a59 {pins:List (Addr×Obj)} {σ:St} {H:Hp} {s:Shared} {Q:VK} {us:List Value} {vs:List V} (M:Mk X.K C f) (F:FnOk X.prog X.w X.K X.mg X.base CX k f fd ps sp) (hr:Room (k + 1) X.A) (hb:Xe X.K fd ps ds) (hd:J7 dvs ds)
  (hx:Wz CX X E) (I:Inv X pins σ H s) (r:J7 vs us)
  (h:∀ x dx,H x=none→H dx=none→dx≠x→sp (.ref x::(vs++dvs)) (upd (upd H dx (.own x)) x (.ins C dx [])) (fun v H2=>v=.non∧Q (.ref x) H2) E) :
  wpAny (model X.prog X.w) X.A (call (.ref C) us) (EP X pins σ Q) X.xe s:=by
 have hq:=h (s.heap.objs.size + 1) s.heap.objs.size (I.hok.fresh (Nat.le_succ _)) (I.hok.fresh (Nat.le_refl _)) (Nat.ne_of_lt (Nat.lt_succ_self _))
 have I2:=Inv.made (C:=C) I
 have r2:J7 (V.ref (s.heap.objs.size + 1)::(vs++dvs)) (Value.ref (s.heap.objs.size + 1)::(us++ds)):=.cons rfl (r.append hd)
 have hl:(Value.ref (s.heap.objs.size + 1)::us++ds).length=ps.length:=by
  have e:=r2.length
  rw [F.len _ _ _ _ hq] at e
  exact e.symm
 refine wpAny_call (ab4 (f:=f) I.kIn M.makes M.init (beq_iff_eq.mp M.fn) (codeAny_mono (F.run _ X.stack _ _ ⟨Value.ref (s.heap.objs.size + 1)::us,[]⟩ (Value.ref (s.heap.objs.size + 1)::(us++ds)) _ _ E (hr.make C us [])
  (I2.env0.make C us []) (hb _ (Value.ref (s.heap.objs.size + 1)::us) I2.kIn hl) r2 hq) fun r s' hq'=>?_))
 cases r with
 | error e=>exact hx pins σ _ _ e s' I2 hq'
 | ok fl =>
  cases fl with
  | ret u =>
   obtain ⟨v,H',I3,rv,ev,q3⟩:=I2.after hq'
   subst ev
   exact ⟨rv,⟨V.ref (s.heap.objs.size + 1),H',I3,rfl,q3⟩⟩
  | next=>exact False.elim hq'
  | brk=>exact False.elim hq'
  | cont=>exact False.elim hq'
theorem a78 (M:Mk X.K C f) (F:FnOk X.prog X.w X.K X.mg X.base CX k f fd ps sp) (hr:Room (k + 1) X.A) (hg:Gl X x) (hm:X.mg x=some (.ref C)) (hb:Xe X.K fd ps ds) (hd:J7 dvs ds) (hx:Wz CX X E)
  (hdb:(x == ("__debug__":Str))=false:=by decide):PE X (.Call (.Name x p) [] [] pos) (aI1 C sp dvs E aw0):=by
 intro pins s σ H Q I h
 refine wpAny_Call_Name_kw (Q6 I hg hm ?_ hdb)
 exact PySem.W.callWith_K0 I.kIn M.kp (a59 (us:=[]) M F hr hb hd hx I .nil h)
end
section
variable {X:Cx} {CX:CXT} {k:Nat} {f C:Addr} {fd:FuncData} {ps ks:List Str} {sp:Sp} {E:XK} {x m:Str} {p pos apos kpos:Pos} {e o:Expr} {es:List Expr} {kws:List Keyword} {te ta:TE} {t tk:TA} {nm:Option Str}
variable {g:List Value→List Value→List Value} {gV:List V→List V→List V}
end
structure FnScope (N P:List Str) (sc:Scope):Prop where
 kind:sc.kind=.function
 co:sc.isCoroutine=false
 gen:sc.isGenerator=false
 nd:N.Nodup
 pre:N.take P.length=P
 par:∀ x∈P,sc.names.lookup x=some .local∨sc.names.lookup x=some .cell
 nofree:∀ y∈sc.names,y.2≠.free
theorem Gn {kindOf:Str→Option NameKind} {x:Str}:∀ {binds:List (Str×Value)} {m:Str→Option Value},(∀ v,(x,v)∉binds)→bindL kindOf binds m x=m x
 | [],_,_=>rfl
 | (n,v)::r,m,h=>by
  unfold bindL
  rw [Gn fun w hw=>h w (List.mem_cons_of_mem _ hw)]
  split
  ·have:x≠n:=by rintro rfl;exact h v List.mem_cons_self
   simp [this]
  ·rfl
theorem Gk {kindOf:Str→Option NameKind} {x:Str}:∀ {binds:List (Str×Value)} {m:Str→Option Value},(∀ v,(x,v)∉binds)→bindC kindOf binds m x=m x
 | [],_,_=>rfl
 | (n,v)::r,m,h=>by
  unfold bindC
  rw [Gk fun w hw=>h w (List.mem_cons_of_mem _ hw)]
  split
  ·rfl
  ·have:x≠n:=by rintro rfl;exact h v List.mem_cons_self
   simp [this]
theorem Gm {kindOf:Str→Option NameKind} {x:Str} {v:Value}:∀ {P:List Str} {vs:List Value} {i:Nat} {m:Str→Option Value},P.Nodup→P[i]? =some x→vs[i]? =some v→kindOf x=some .local →
  bindL kindOf (P.zip vs) m x=some v
 | [],_,_,_,_,h,_,_=>by simp at h
 | _::_,[],_,_,_,_,h,_=>by simp at h
 | p::P,w::vs,0,m,nd,h1,h2,hk=>by
  simp at h1 h2;subst h1;subst h2
  show bindL kindOf ((p,w)::P.zip vs) m p=_
  unfold bindL
  rw [Gn fun v hv=>(List.nodup_cons.mp nd).1 (List.of_mem_zip hv).1,if_pos hk]
  simp
 | p::P,w::vs,i + 1,m,nd,h1,h2,hk=>by
  show bindL kindOf ((p,w)::P.zip vs) m x=_
  unfold bindL
  exact Gm (i:=i) (List.nodup_cons.mp nd).2 (by simpa using h1) (by simpa using h2) hk
theorem Gj {kindOf:Str→Option NameKind} {x:Str} {v:Value}:∀ {P:List Str} {vs:List Value} {i:Nat} {m:Str→Option Value},P.Nodup→P[i]? =some x→vs[i]? =some v→kindOf x≠some .local →
  bindC kindOf (P.zip vs) m x=some v
 | [],_,_,_,_,h,_,_=>by simp at h
 | _::_,[],_,_,_,_,h,_=>by simp at h
 | p::P,w::vs,0,m,nd,h1,h2,hk=>by
  simp at h1 h2;subst h1;subst h2
  show bindC kindOf ((p,w)::P.zip vs) m p=_
  unfold bindC
  rw [Gk fun v hv=>(List.nodup_cons.mp nd).1 (List.of_mem_zip hv).1,if_neg hk]
  simp
 | p::P,w::vs,i + 1,m,nd,h1,h2,hk=>by
  show bindC kindOf ((p,w)::P.zip vs) m x=_
  unfold bindC
  exact Gj (i:=i) (List.nodup_cons.mp nd).2 (by simpa using h1) (by simpa using h2) hk
noncomputable def start (N:List Str) (vs:List V):St:=vs.map some++List.replicate (N.length - vs.length) none
noncomputable def Wa (CX:CXT) (P:Program) (w:World) (K:PySem.W.Frag) (mg:Str→Option Value) (base:Heap) (N:List Str) (qual:Str) (scope:Scope) (f:Addr) (cd:Value) (A:Around) (outer:List Env) (s:Shared) (H:Hp) (E:XK):Cx where
 prog:=P
 w:=w
 K:=K
 mg:=mg
 base:=base
 A:=A.deeper (envOfC qual scope s.heap.objs.size f cd)
 N:=N
 s₀:=s
 H₀:=H
 env:=envOfC qual scope s.heap.objs.size f cd
 outer:=outer
 stack:=envOfC qual scope s.heap.objs.size f cd::outer
 ex:=[]
 calm:=true
 fn:=fun _=>true
 pn:=[]
 xe:=fun e s'=>wpAny (model P w) (A.deeper (envOfC qual scope s.heap.objs.size f cd)) (leaving (envOfC qual scope s.heap.objs.size f cd) e) (fun _ s''=>CX outer H s E e s'') (fun e' s''=>CX outer H s E e' s'') s'
theorem Dl {sc:Scope} {n:Nat} {x:Str} (h:sc.names.lookup x=some .cell):∃ c,(cellsFrom n sc.names []).lookup x=some c:=by
 have q:=PySem.W.cellsFrom_some sc.names n [] (.inl h)
 exact Option.isSome_iff_exists.mp q
theorem a10 {CX:CXT} {P:Program} {w:World} {K:PySem.W.Frag} {mg:Str→Option Value} {base:Heap} {N ps:List Str} {qual:Str} {scope:Scope} {f:Addr} {cd:Value} {A:Around} {outer:List Env} {s s1:Shared} {H:Hp} {E:XK} {us:List Value} {vs:List V}
  (S:FnScope N ps scope) (hd:A.handled=none) (e0:Env0 P w K mg base A outer s H) (hl:vs.length=ps.length) (r:J7 vs us)
  (x:InCallC s s.heap.objs.size (bindL (envOfC qual scope s.heap.objs.size f cd).kindOf (ps.zip us) fun _=>none) (cellsFrom (s.heap.objs.size + 1) scope.names []) (bindC (envOfC qual scope s.heap.objs.size f cd).kindOf (ps.zip us) fun _=>none) s1) :
  Inv (Wa CX P w K mg base N qual scope f cd A outer s H E) [] (start N vs) H s1:=by
 have hpl:ps.length≤N.length:=by have:=congrArg List.length S.pre;rw [List.length_take] at this;omega
 obtain ⟨h1,tk,rfl,hk⟩:=x.done
 have noA:∀ b:Addr,b∉(Wa CX P w K mg base N qual scope f cd A outer s H E).ex:=fun b z=>absurd (show b∈([]:List Addr) from z) (by simp)
 refine ⟨⟨e0.mod,S.kind,rfl,rfl,Nat.le_refl _,fun y z c h1 h2=>?_,fun y hy=>?_,fun y c _ h=>?_,fun _=>hd,Around.frames_deeper e0.frames,.inr ⟨rfl,rfl⟩,fun b z=>absurd z (noA b),e0.bs,e0.bsz,fun b _ _=>noA b,fun b z=>absurd z (noA b),e0.funs,e0.frf⟩,
  rfl,e0.bare,Un.kept hk,⟨_,x.toInCall.ns,fun i y v h1 h2 h3=>?_⟩,fun y c h=>⟨_,x.cell y c h⟩,e0.hok.fresh (Nat.le_refl _),fun y c h=>?_,fun p hp=>absurd (show p∈([]:List (Addr×Obj)) from hp) (by simp),e0.hok.kept hk,?_⟩
 ·exact name_of_addr x.apart (PySem.mem_of_lookup h1) (PySem.mem_of_lookup h2)
 ·have hy:scope.names.lookup y=some .cell∨scope.names.lookup y=some .free:=hy
  rcases hy with hy | hy
  ·exact Dl hy
  ·exact absurd rfl (S.nofree _ (PySem.mem_of_lookup hy))
 ·exact Nat.le_of_lt (x.above y c (PySem.mem_of_lookup h))
 ·have hi:i < vs.length:=by
   unfold start at h2
   by_cases hi:i < vs.length
   ·exact hi
   ·rw [List.getElem?_append_right (by simpa using hi)] at h2
    rw [List.getElem?_replicate] at h2
    split at h2 <;> cases h2
  have ha:vs[i]? =some v:=by
   unfold start at h2
   rw [List.getElem?_append_left (by simpa using hi),List.getElem?_map] at h2
   cases e:vs[i]? with
   | none=>rw [e] at h2;cases h2
   | some a=>rw [e] at h2;cases h2;rfl
  obtain ⟨u,hu,rv⟩:=r.get ha
  have hp:ps[i]? =some y:=by
   rw [← S.pre,List.getElem?_take_of_lt (by omega)];exact h1
  have ndP:ps.Nodup:=by rw [← S.pre];exact S.nd.sublist (List.take_sublist _ _)
  refine ⟨u,rv,?_⟩
  rcases S.par y (List.mem_of_getElem? hp) with k | k
  ·exact .inl ⟨k,Gm ndP hp hu k⟩
  ·obtain ⟨c,e⟩:=Dl (n:=s.heap.objs.size + 1) k
   refine .inr ⟨.inl k,c,e,?_⟩
   have q:=x.cell y c e
   rw [Gj ndP hp hu (by show scope.names.lookup y≠_;rw [k];decide)] at q
   exact q
 ·exact e0.hok.fresh (Nat.le_of_lt (x.above y c (PySem.mem_of_lookup h)))
 ·unfold start
  show _=N.length
  rw [List.length_append,List.length_map,List.length_replicate]
  omega
theorem aP9 {CX:CXT} {P:Program} {w:World} {K:PySem.W.Frag} {mg:Str→Option Value} {base:Heap} {k:Nat} {f:Addr} {name qual:Str} {params:Arguments} {body:List Stmt} {scope:Scope} {dV kV doc pm cdv ct oc:Value} {an od:Option Addr}
  {osl:Array (Option Value)} {N ps:List Str} {sp:Sp} (lk:K.lookup f=some ⟨oc,od,.func (PySem.W.fnOf name qual params body scope dV kV doc pm an cdv ct),osl⟩) (hcd:PySem.W.codeIn K cdv qual=true) (S:FnScope N ps scope)
  (len:∀ vs H Q E,sp vs H Q E→vs.length=ps.length)
  (hbody:∀ (A:Around) (outer:List Env) (s:Shared) (H:Hp) (vs:List V) (Q:VK) (E:XK),Room k (A.deeper (envOfC qual scope s.heap.objs.size f cdv))→sp vs H Q E →
   ∃ t,PSs (Wa CX P w K mg base N qual scope f cdv A outer s H E) body t∧t { nx:=fun _ H'=>Q .non H',rt:=Q} (start N vs) H) :
  FnOk P w K mg base CX (k + 1) f (PySem.W.fnOf name qual params body scope dV kV doc pm an cdv ct) ps sp:=by
 refine ⟨len,fun A outer s H args us vs Q E hr e0 hb r hsp=>?_⟩
 have hl:=len _ _ _ _ hsp
 have KX:K.In s.heap:=e0.mod.kin.keeps fun b o e=>(e0.bs b o e).1
 have lim:s.heap.NoLimit:=e0.mod.nolimit.keeps fun b o e=>(e0.bs b o e).1
 have hkind:∀ y∈ps.zip us,scope.names.lookup y.1=some .local∨(scope.names.lookup y.1=some .cell∧((cellsFrom (s.heap.objs.size + 1) scope.names []).lookup y.1).isSome=true):=fun ⟨n,v⟩ hy=>by
  rcases S.par n (List.of_mem_zip hy).1 with q | q
  ·exact .inl q
  ·exact .inr ⟨q,PySem.W.cellsFrom_some _ _ _ (.inl q)⟩
 refine codeAny_call_function hr.depth (KX _ _ lk) rfl S.co S.gen rfl (PySem.W.codeRec_of KX hcd) (hb _ _ _ _ ?_)
 refine wpAny_newFunctionEnv_cells S.kind hkind fun env he s1 x=>?_
 subst he
 refine ⟨lim.keeps x.toInCall.keep,codeAny_func ?_⟩
 obtain ⟨t,ht,hq⟩:=hbody A outer s H vs Q E (hr.deeper _) hsp
 have I:Inv (Wa CX P w K mg base N qual scope f cdv A outer s H E) [] (start N vs) H s1:=a10 S hr.hd e0 hl r x
 refine wpAny_mono (ht [] s1 (start N vs) H _ I hq) (fun fl s' hs=>?_) fun e s' hs=>hs
 have fin:∀ {σ':St} {H':Hp} {v:V} {u:Value},Inv (Wa CX P w K mg base N qual scope f cdv A outer s H E) [] σ' H' s'→Jv v u→Q v H'→CE outer P w H s Q u s' :=
  fun {σ' H' v u} J rv q=>⟨v,H',J.os,J.bare,J.base,J.hok,rv,q⟩
 cases fl with
 | ret u =>
  obtain ⟨v,σ',H',J,rv,q⟩:=hs
  exact fin J rv q
 | next =>
  obtain ⟨σ',H',J,q⟩:=hs
  exact fin (v:=V.non) (u:=Value.none) J rfl q
 | brk =>
  obtain ⟨_,_,_,q⟩:=hs
  exact False.elim q
 | cont =>
  obtain ⟨_,_,_,q⟩:=hs
  exact False.elim q
end L2
namespace L2
open PySem PySem.Spec PyProof.Rows
section
variable {X:Cx} {x:Str} {p pos:Pos} {e:Expr} {es:List Expr} {t:TA} {id T:String} {r:List V→Hp→VK→Prop}
noncomputable def tCB (r:List V→Hp→VK→Prop) (t:TA):TE:=fun σ H Q=>t σ H fun vs H1=>r vs H1 Q
theorem d3 (hc:qe X (.builtin id) r) (hg:Gl X x) (hm:X.mg x=none) (hv:bootBuiltins x=some (.builtin id)) (ha:PA X (e::es) t) (hn:x≠"__name__":=by decide) (hdb:(x == ("__debug__":Str))=false:=by decide)
  (he:starEach (e::es) X.env=(false,eval e X.env)::starEach es X.env:=by rfl) (hpl:(backTo pos (starEach es X.env)).any (·.1)=false:=by rfl):PE X (.Call (.Name x p) (e::es) [] pos) (tCB r t):=by
 intro pins s σ H Q I h
 refine wpAny_Call_Name_kw (qo I hg hm hv ?_ hn hdb)
 exact PyProof.Rows.callWith_builtin1 (thn (ha pos pins s σ H _ I h) fun us s1 ⟨vs,H1,I1,r1,q1⟩=>hc pins s1 σ H1 vs us Q I1 r1 q1) he hpl
theorem Ak (hc:qe X (.type T) r) (hg:Gl X x) (hm:X.mg x=none) (hv:bootBuiltins x=some (.type T)) (ha:PA X (e::es) t) (hn:x≠"__name__":=by decide) (hdb:(x == ("__debug__":Str))=false:=by decide)
  (he:starEach (e::es) X.env=(false,eval e X.env)::starEach es X.env:=by rfl) (hpl:(backTo pos (starEach es X.env)).any (·.1)=false:=by rfl):PE X (.Call (.Name x p) (e::es) [] pos) (tCB r t):=by
 intro pins s σ H Q I h
 refine wpAny_Call_Name_kw (qo I hg hm hv ?_ hn hdb)
 exact PyProof.Rows.callWith_type1 (thn (ha pos pins s σ H _ I h) fun us s1 ⟨vs,H1,I1,r1,q1⟩=>hc pins s1 σ H1 vs us Q I1 r1 q1) he hpl
end
end L2
namespace HT
open PySem PyProof.Rows
section
open PySem.SeqAt
open PySem.AutoSeq1 (wpAny_loadPart')
open PySem.MeetsSeq PySem.MeetsSeq2 PySem.MeetsSeq3
end
section
variable {prog:Program} {w:World} {A:Around} {E:Value→Shared→Prop} {s:Shared}
theorem cat_tup {t b:Addr} {vs ws:List Value} {Q:Value→Shared→Prop} (ht:IsTup s.heap t vs.toArray) (hb:IsTup s.heap b ws.toArray) (hv:vs≠[])
  (h1:ws=[]→Q (.ref t) s) (h2:ws≠[]→Q (.ref s.heap.objs.size) { s with heap:=s.heap.push { cls:=.type "tuple",data:=.seq (vs++ws).toArray}})
  (hsz:vs.length + ws.length≤sizeLine):wpAny (model prog w) A (binaryOp .Add (.ref t) (.ref b)) Q E s:=by
 obtain ⟨⟨cls,dd,data,sl⟩,ho,hc,n,hd⟩:=id ht
 obtain ⟨⟨cls2,dd2,data2,sl2⟩,ho2,hc2,n2,hd2⟩:=id hb
 simp only at hc hd hc2 hd2
 subst hc hd hc2 hd2
 have e:vs.toArray++ws.toArray=(vs++ws).toArray:=by simp
 by_cases hw:ws=[]
 ·exact concat_meets ⟨_,ho,rfl⟩ ⟨_,ho2,rfl⟩ noFill_tuple_add seq_tuple_add PySem.F.slot_tuple_add PySem.F.entry_tuple_add (PySem.F.args_tuple_add_2 _ _)
   (tuple_addW1 t b vs.toArray ws.toArray n n2 dd dd2 sl sl2 (by simpa using hv) (by simp [hw])) ⟨ho,ho2,h1 hw⟩
 ·refine concat_meets ⟨_,ho,rfl⟩ ⟨_,ho2,rfl⟩ noFill_tuple_add seq_tuple_add PySem.F.slot_tuple_add PySem.F.entry_tuple_add (PySem.F.args_tuple_add_2 _ _)
   (tuple_addW2 t b vs.toArray ws.toArray n n2 dd dd2 sl sl2 (by simpa using hv) (by simpa using hw) (by rw [List.size_toArray,List.size_toArray];exact hsz)) ⟨ho,ho2,?_⟩
  rw [e]
  exact h2 hw
noncomputable def sIx (n d:Nat):Option Int→Nat
 | none=>d
 | some v=>if v < 0 then (v + (n:Int)).toNat else min v.toNat n
theorem sIx_nat (n d k:Nat):sIx n d (some (k:Int))=min k n:=by
 show (if (k:Int) < 0 then ((k:Int) + (n:Int)).toNat else min (k:Int).toNat n)=min k n
 rw [if_neg (by omega),Int.toNat_natCast]
theorem ax0 (n d:Nat) (hd:d≤n) (o:Option Int):sIx n d o≤n:=by
 cases o with
 | none=>exact hd
 | some v =>
  show (if v < 0 then (v + (n:Int)).toNat else min v.toNat n)≤n
  by_cases hv:v < 0
  ·rw [if_pos hv];omega
  ·rw [if_neg hv];exact Nat.min_le_right _ _
theorem ad (v:Int) (n d:Nat):(if v < 0 then max (v + (n:Int)) 0 else min v (n:Int))=((sIx n d (some v):Nat):Int):=by
 show (if v < 0 then max (v + (n:Int)) 0 else min v (n:Int))=(((if v < 0 then (v + (n:Int)).toNat else min v.toNat n):Nat):Int)
 by_cases hv:v < 0
 ·simp only [if_pos hv];omega
 ·simp only [if_neg hv];omega
theorem Cc (lo hi:Option Int) (n:Nat):Builtin.Slice.sliceAdjust lo hi 1 (n:Int)=(((sIx n 0 lo:Nat):Int),((sIx n n hi:Nat):Int)):=by
 have h1:¬ ((1:Int) < 0):=by omega
 unfold Builtin.Slice.sliceAdjust
 simp only [h1,if_false]
 refine Prod.ext ?_ ?_
 ·cases lo with
  | none=>rfl
  | some v=>exact ad v n 0
 ·cases hi with
  | none=>rfl
  | some v=>exact ad v n n
theorem cn (i j:Nat):Builtin.Slice.slicePlaces (i:Int) (j:Int) 1=j - i:=by
 unfold Builtin.Slice.slicePlaces
 have h1:(1:Int) > 0:=by omega
 simp only [h1,if_true,Int.ediv_one]
 split <;> omega
theorem Vq {v:Value} {o:Option Int} {Q:Option Int→Shared→Prop} (p:IsPart v o) (h:Q o s):wpAny (model prog w) A (Builtin.Slice.slicePartIndex v) Q E s:=by
 cases p with
 | none=>exact slicePart_none h
 | int i t=>exact slicePart_int h
theorem wy {sl:Addr} {vl vu:Value} {lo hi:Option Int} {n:Nat} {Q:Int×Int×Nat→Shared→Prop} (hs:s.heap.IsSliceOf sl vl vu .none) (pl:IsPart vl lo) (pu:IsPart vu hi)
  (h:Q (((sIx n 0 lo:Nat):Int),1,sIx n n hi - sIx n 0 lo) s):wpAny (model prog w) A (Builtin.Slice.sliceApplied (.ref sl) (pure (n:Int))) Q E s:=by
 obtain ⟨os,hos,hcs,hds⟩:=id hs
 unfold Builtin.Slice.sliceApplied Builtin.Slice.sliceFields
 refine wpAny_bind (wpAny_bind (wpAny_field hos hds (x:=vl) rfl (wpAny_bind (wpAny_field hos hds (x:=vu) rfl (wpAny_bind (wpAny_field hos hds (x:=.none) rfl (wpAny_pure ?_)))))))
 refine wpAny_bind (slicePart_none ?_)
 show wpAny _ _ (if ((1:Int) == 0)=true then _ else _) _ _ s
 rw [if_neg (by decide)]
 refine wpAny_bind (Vq pl (wpAny_bind (Vq pu (wpAny_bind (wpAny_pure ?_)))))
 show wpAny _ _ (match Builtin.Slice.sliceAdjust lo hi 1 (n:Int) with | (lo,hi)=>pure (lo,(1:Int),Builtin.Slice.slicePlaces lo hi 1)) _ _ s
 rw [Cc lo hi n]
 show wpAny _ _ (pure (((sIx n 0 lo:Nat):Int),(1:Int),Builtin.Slice.slicePlaces ((sIx n 0 lo:Nat):Int) ((sIx n n hi:Nat):Int) 1)) _ _ s
 rw [cn]
 exact wpAny_pure h
theorem a73 (xs:Array Value) (i k:Nat):((List.range k).filterMap fun (m:Nat)=>xs[((i:Int) + (m:Int) * 1).toNat]?).toArray=((xs.toList.drop i).take k).toArray:=by
 have e:(fun (m:Nat)=>xs[((i:Int) + (m:Int) * 1).toNat]?)=fun m=>xs[i + m]?:=by
  funext m
  have:((i:Int) + (m:Int) * 1).toNat=i + m:=by omega
  rw [this]
 rw [e]
 have:=pick_run xs i k
 rw [List.filterMap_map] at this
 have e2:((fun x=>xs[x]?) ∘ fun x=>i + x)=fun m=>xs[i + m]?:=rfl
 rw [e2] at this
 rw [this]
theorem getItem_tuple_cut {t sl:Addr} {items:Array Value} {vl vu:Value} {lo hi:Option Int} {Q:Value→Shared→Prop} (ht:IsTup s.heap t items) (hs:s.heap.IsSliceOf sl vl vu .none) (pl:IsPart vl lo) (pu:IsPart vu hi)
  (hw:¬ (sIx items.size 0 lo=0∧sIx items.size items.size hi=items.size))
  (h:Q (.ref s.heap.objs.size) { s with heap:=s.heap.push { cls:=.type "tuple",data:=.seq ((items.toList.drop (sIx items.size 0 lo)).take (sIx items.size items.size hi - sIx items.size 0 lo)).toArray}})
  (hsz:items.size≤sizeLine):wpAny (model prog w) A (getItem (.ref t) (.ref sl)) Q E s:=by
 have htake:sizeOk (.seq ((items.toList.drop (sIx items.size 0 lo)).take (sIx items.size items.size hi - sIx items.size 0 lo)).toArray):=by
  show ((items.toList.drop (sIx items.size 0 lo)).take (sIx items.size items.size hi - sIx items.size 0 lo)).toArray.size≤sizeLine
  rw [List.size_toArray,List.length_take,List.length_drop,Array.length_toList]
  omega
 have hj:sIx items.size items.size hi≤items.size:=ax0 _ _ (Nat.le_refl _) hi
 obtain ⟨os,hos,hcs,hds⟩:=id hs
 have hTs:s.TypeIs (.ref sl) "slice":=⟨os,hos,hcs⟩
 unfold getItem
 try with_reducible refine wpAny_holding ?_
 first | refine wpAny_bind (wpAny_pure ?_) | skip
 refine wpAny_bind (wpAny_sequenceKey ht.typeIs (by decide) ?_)
 refine wpAny_bind (wpAny_callSpecial?_slot (name:=Str.ofString "__getitem__") ht.typeIs PyProof.Rows.slot_tuple_getitem
  (wpAny_call_entry PyProof.Rows.slot_tuple_getitem ht.typeIs entry_tuple_getitem ?_ (args_tuple_getitem _ _)))
 show wpAny _ _ (Builtin.Tuple.tupleItemsOf (.ref t) >>= _) _ _ s
 refine wpAny_bind (tupleItemsOf_ ht ?_)
 refine wpAny_bind (wpAny_typeOf hTs ?_)
 rw [if_pos (by decide)]
 refine wpAny_bind (wy hs pl pu ?_)
 have hno:¬ ((((sIx items.size 0 lo:Nat):Int) == 0 && (1:Int) == 1 && (sIx items.size items.size hi - sIx items.size 0 lo) == items.size)=true):=by
  intro q
  rw [Bool.and_eq_true,Bool.and_eq_true] at q
  have q1:((sIx items.size 0 lo:Nat):Int)=0:=eq_of_beq q.1.1
  have q2:sIx items.size items.size hi - sIx items.size 0 lo=items.size:=eq_of_beq q.2
  exact hw ⟨by omega,by omega⟩
 show wpAny _ _ (if (((sIx items.size 0 lo:Nat):Int) == 0 && (1:Int) == 1 && (sIx items.size items.size hi - sIx items.size 0 lo) == items.size)=true then _ else _) _ _ s
 rw [if_neg hno,a73]
 first
  | exact wpAny_bind (m:=Builtin.Tuple.tupleExact _) (wpAny_newObj_type (wpAny_pure ⟨_,rfl,wpAny_pure h⟩) htake)
  | exact wpAny_bind (m:=Builtin.Tuple.tupleExact _) (wpAny_newObj_type (wpAny_bind (wpAny_pure (wpAny_pure ⟨_,rfl,wpAny_pure h⟩))) htake)
  | exact wpAny_bind (wpAny_bind (m:=Builtin.Tuple.tupleExact _) (wpAny_newObj_type (wpAny_pure (wpAny_pure ⟨_,rfl,wpAny_pure h⟩)) htake))
  | exact wpAny_bind (wpAny_bind (m:=Builtin.Tuple.tupleExact _) (wpAny_newObj_type (wpAny_pure ⟨_,rfl,wpAny_pure h⟩) htake))
end
end HT
namespace L2
open PySem PySem.Spec PyProof.Rows
noncomputable abbrev TO:=St→Hp→(Option Int→Hp→Prop)→Prop
noncomputable def PO (X:Cx) (e:Option Expr) (t:TO):Prop :=
 ∀ (pins:List (Addr×Obj)) (s:Shared) (σ:St) (H:Hp) (Q:Option Int→Hp→Prop),Inv X pins σ H s→t σ H Q →
  wpAny (model X.prog X.w) X.A (evalPart e X.env) (fun u s'=>∃ o H',Inv X pins σ H' s'∧IsPart u o∧Q o H') X.xe s
noncomputable def ag2:TO:=fun _ H Q=>Q none H
noncomputable def aH8 (t:TE):TO:=fun σ H Q=>t σ H fun x H1=>∃ i,x=.int i∧Q (some i) H1
section
variable {X:Cx} {e:Expr} {te:TE} {lo hi:Option Expr} {tl th:TO} {pos p2:Pos}
theorem aj2:PO X none ag2:=by
 intro pins s σ H Q I h
 rw [evalPart_none]
 exact wpAny_pure ⟨none,H,I,.none,h⟩
theorem aj1 (h:PE X e te):PO X (some e) (aH8 te):=by
 intro pins s σ H Q I hw
 rw [evalPart_some]
 refine thn (h pins s σ H _ I hw) fun u s1 ⟨x,H1,I1,r1,q1⟩=>?_
 obtain ⟨i,rfl,q⟩:=q1
 obtain ⟨t,rfl⟩:=r1
 exact ⟨some i,H1,I1,.int i t,q⟩
noncomputable def SlR (X:Cx) (r:V→Option Int→Option Int→Hp→VK→Prop):Prop :=
 ∀ (pins:List (Addr×Obj)) (s:Shared) (σ:St) (H:Hp) (x:V) (v vl vu:Value) (lo hi:Option Int) (sl:Addr) (Q:VK),Inv X pins σ H s→Jv x v→s.heap.IsSliceOf sl vl vu .none→IsPart vl lo→IsPart vu hi→r x lo hi H Q →
  ∃ T id,typeLookup (.type T) "__getitem__"=pure (some (.builtin id))∧s.TypeIs v T∧wpAny (model X.prog X.w) X.A (getItem v (.ref sl)) (EP X pins σ Q) X.xe s
theorem SlR.or {r r':V→Option Int→Option Int→Hp→VK→Prop} (h:SlR X r) (h':SlR X r'):SlR X (fun x lo hi H Q=>r x lo hi H Q∨r' x lo hi H Q):=by
 intro pins s σ H x v vl vu lo hi sl Q I rx hs pl pu q
 rcases q with q | q
 ·exact h pins s σ H x v vl vu lo hi sl Q I rx hs pl pu q
 ·exact h' pins s σ H x v vl vu lo hi sl Q I rx hs pl pu q
noncomputable def tSl (r:V→Option Int→Option Int→Hp→VK→Prop) (te:TE) (tl th:TO):TE:=fun σ H Q=>te σ H fun x H1=>tl σ H1 fun l H2=>th σ H2 fun u H3=>r x l u H3 Q
theorem a77 {r:V→Option Int→Option Int→Hp→VK→Prop} (hr:SlR X r) (he:PE X e te) (hl:PO X lo tl) (hu:PO X hi th):PE X (.Subscript e (.Slice lo hi none p2) pos) (tSl r te tl th):=by
 intro pins s σ H Q I h
 refine Subscript_ (thn (he pins s σ H _ I h) fun v s1 ⟨x,H1,I1,r1,q1⟩=>?_)
 refine wpAny_Slice (thn (hl pins s1 σ H1 _ I1 q1) fun vl s2 ⟨l,H2,I2,pl,q2⟩=>thn (hu pins s2 σ H2 _ I2 q2) fun vu s3 ⟨u,H3,I3,pu,q3⟩=>?_)
 rw [evalPart_none]
 refine wpAny_pure ?_
 have I4:Inv X pins σ H3 { s3 with heap:=s3.heap.push { cls:=.type "slice",data:=.fields #[vl,vu,.none]}}:=I3.kept (t':=s3.toks) fun b ob q=>Heap.get?_push_of_some _ q
 obtain ⟨T,id,hT,ht,hg⟩:=hr pins { s3 with heap:=s3.heap.push { cls:=.type "slice",data:=.fields #[vl,vu,.none]}} σ H3 x v vl vu l u s3.heap.objs.size Q I4 r1 (Heap.IsSliceOf.new ..) pl pu q3
 show wpAny (model X.prog X.w) X.A (subscriptTail e (.Slice lo hi none p2) v (.ref s3.heap.objs.size)) (EP X pins σ Q) X.xe { s3 with heap:=s3.heap.push { cls:=.type "slice",data:=.fields #[vl,vu,.none]}}
 exact tail_any (ops:=[.ref s3.heap.objs.size,v]) ht hT hg (by with_unfolding_all rfl)
noncomputable def Do (xs:List V) (lo hi:Option Int):List V:=(xs.drop (HT.sIx xs.length 0 lo)).take (HT.sIx xs.length xs.length hi - HT.sIx xs.length 0 lo)
theorem Wg (xs:List V) (lo hi:Option Int):(Do xs lo hi).length≤xs.length:=by
 unfold Do
 rw [List.length_take,List.length_drop]
 omega
noncomputable def rSlT (K:PySem.W.Frag):V→Option Int→Option Int→Hp→VK→Prop:=fun x lo hi H Q=>∃ a xs,x=.ref a∧SqT K H a xs ∧
 ¬ (HT.sIx xs.length 0 lo=0∧HT.sIx xs.length xs.length hi=xs.length)∧∀ p,H p=none→Q (.ref p) (upd H p (.tup (Do xs lo hi)))
theorem aw7:SlR X (rSlT X.K):=by
 intro pins s σ H x v vl vu lo hi sl Q I rx hs pl pu h
 obtain ⟨a,xs,rfl,hx,hw,q⟩:=h
 cases rx
 obtain ⟨its,r,ht,hz⟩:=I.tuple hx
 have hlen:its.toArray.size=xs.length:=by rw [List.size_toArray];exact r.length.symm
 refine ⟨"tuple",_,PyProof.Rows.slot_tuple_getitem.lookup,ht.typeIs,?_⟩
 refine HT.getItem_tuple_cut ht hs pl pu (by rw [hlen];exact hw) ?_ (by rw [hlen];exact hz)
 rw [hlen]
 refine ⟨.ref s.heap.objs.size,_,I.laid (t':=s.toks) (o:=.tup (Do xs lo hi)) (fun b ob q=>Heap.get?_push_of_some _ q) (Nat.le_refl _) ?_,rfl,q _ (I.hok.fresh (Nat.le_refl _))⟩
 exact ⟨Nat.le_trans (Wg xs lo hi) hz,_,(r.drop (HT.sIx xs.length 0 lo)).take (HT.sIx xs.length xs.length hi - HT.sIx xs.length 0 lo),IsTup.new _ _⟩
noncomputable def aK4 (K:PySem.W.Frag):R2:=fun x y H Q=>∃ a b xs ys,x=.ref a∧y=.ref b∧SqT K H a xs∧SqT K H b ys∧xs≠[]∧xs.length + ys.length≤sizeLine ∧
 (ys=[]→Q (.ref a) H)∧(ys≠[]→∀ p,H p=none→Q (.ref p) (upd H p (.tup (xs++ys))))
theorem J7.nil_iff {xs:List V} {us:List Value} (r:J7 xs us):us=[]↔xs=[]:=by
 cases r with
 | nil=>simp
 | cons _ _=>simp
theorem al0:OpR X (binaryOp .Add) (aK4 X.K):=by
 intro pins s σ H x y v u Q I rx ry h
 obtain ⟨a,b,xs,ys,rfl,rfl,ha,hb,hx,hz,q1,q2⟩:=h
 cases rx
 cases ry
 obtain ⟨its,r1,p1,_⟩:=I.tuple ha
 obtain ⟨its2,r2,p2,_⟩:=I.tuple hb
 refine HT.cat_tup p1 p2 (fun z=>hx (r1.nil_iff.mp z)) (fun z=>⟨.ref a,H,I,rfl,q1 (r2.nil_iff.mp z)⟩) (fun z=>?_) (by rw [← r1.length,← r2.length];exact hz)
 refine ⟨.ref s.heap.objs.size,_,I.laid (t':=s.toks) (o:=.tup (xs++ys)) (fun b ob q=>Heap.get?_push_of_some _ q) (Nat.le_refl _) ?_,rfl,q2 (fun w=>z (r2.nil_iff.mpr w)) _ (I.hok.fresh (Nat.le_refl _))⟩
 exact ⟨by rw [List.length_append];exact hz,_,r1.append r2,IsTup.new _ _⟩
end
end L2
namespace L2
open PySem PySem.Spec PyProof.Rows
noncomputable def ixN (n:Nat) (i:Int):Option Nat:=if 0≤i then (if i < n then some i.toNat else none) else if -(n:Int)≤i then some (i + n).toNat else none
noncomputable def atI {α:Type} (xs:List α) (i:Int):Option α:=(ixN xs.length i).bind fun j=>xs[j]?
theorem an8 {n:Nat} {i:Int} {j:Nat} (h:ixN n i=some j):seqIndex? i n=some j∧j < n∧ -(n:Int)≤i∧i < n:=by
 unfold ixN at h
 by_cases h0:0≤i
 ·rw [if_pos h0] at h
  by_cases h1:i < n
  ·rw [if_pos h1] at h
   have e:i.toNat=j:=Option.some.inj h
   exact ⟨by rw [seqIndex_of h0 h1,e],by omega,by omega,h1⟩
  ·rw [if_neg h1] at h;cases h
 ·rw [if_neg h0] at h
  by_cases h1:-(n:Int)≤i
  ·rw [if_pos h1] at h
   have e:(i + n).toNat=j:=Option.some.inj h
   exact ⟨by rw [seqIndex_neg (by omega) h1,e],by omega,h1,by omega⟩
  ·rw [if_neg h1] at h;cases h
theorem Ex {α:Type} {xs:List α} {i:Int} {v:α} (h:atI xs i=some v):∃ j,seqIndex? i xs.length=some j∧xs[j]? =some v∧j < xs.length∧ -(xs.length:Int)≤i∧i < xs.length:=by
 unfold atI at h
 cases e:ixN xs.length i with
 | none=>rw [e] at h;cases h
 | some j =>
  rw [e] at h
  obtain ⟨h1,h2,h3,h4⟩:=an8 e
  exact ⟨j,h1,h,h2,h3,h4⟩
noncomputable def A7 (b:Expr):Prop:=∀ o i,subscripted b false o i=operate [o,i] (getItem o i)
noncomputable def IxR (X:Cx) (r:R2):Prop :=
 ∀ (value slice:Expr) (pins:List (Addr×Obj)) (s:Shared) (σ:St) (H:Hp) (x y:V) (v u:Value) (Q:VK),Inv X pins σ H s→Jv x v→Jv y u→r x y H Q →
  subscripted slice false v u=operate [v,u] (getItem v u)→wpAny (model X.prog X.w) X.A (subscriptTail value slice v u) (EP X pins σ Q) X.xe s
noncomputable def MtR (X:Cx) (id:String) (r:V→List V→Hp→VK→Prop):Prop :=
 ∀ (pins:List (Addr×Obj)) (s:Shared) (σ:St) (H:Hp) (x:V) (xs:List V) (v:Value) (us:List Value) (Q:VK),Inv X pins σ H s→Jv x v→J7 xs us→r x xs H Q →
  wpAny (model X.prog X.w) X.A (call (.builtin id) (v::us)) (EP X pins σ Q) X.xe s
section
variable {X:Cx} {a b:Expr} {ta tb:TE} {pos:Pos}
theorem IxR.or {r r':R2} (h:IxR X r) (h':IxR X r'):IxR X (fun x y H Q=>r x y H Q∨r' x y H Q):=by
 intro value slice pins s σ H x y v u Q I rx ry q hs
 rcases q with q | q
 ·exact h value slice pins s σ H x y v u Q I rx ry q hs
 ·exact h' value slice pins s σ H x y v u Q I rx ry q hs
theorem aL4 {r:R2} (hr:IxR X r) (ha:PE X a ta) (hb:PE X b tb) (hs:A7 b):PE X (.Subscript a b pos) (tOp r ta tb):=by
 intro pins s σ H Q I h
 exact Subscript_ (aG6 ha hb I h fun v u s2 x y H2 I2 rx ry q=>hr a b pins s2 σ H2 x y v u Q I2 rx ry q (hs _ _))
noncomputable def aK2 (K:PySem.W.Frag):R2:=fun x y H Q=>∃ p xs i v,x=.ref p∧y=.int i∧SqL K H p xs∧atI xs i=some v∧Q v H
noncomputable def aK0 (K:PySem.W.Frag):R2:=fun x y H Q=>∃ p xs i v,x=.ref p∧y=.int i∧SqT K H p xs∧atI xs i=some v∧Q v H
noncomputable def aK1:R2:=fun x y H Q=>∃ z i c,x=.str z∧y=.int i∧z.length≤sizeLine∧atI z.cps.toList i=some c∧Q (.str ⟨#[c]⟩) H
theorem an7:IxR X (aK2 X.K):=by
 intro value slice pins s σ H x y v u Q I rx ry h hs
 obtain ⟨p,xs,i,z,rfl,rfl,hq,he,q⟩:=h
 cases rx
 obtain ⟨t,rfl⟩:=ry
 obtain ⟨its,r,pl,hz⟩:=I.list hq
 obtain ⟨j,h1,h2,h3,h4,h5⟩:=Ex he
 obtain ⟨w,ew,rw'⟩:=r.get h2
 have hl:=r.length
 have hn:=kf
 have fin:EP X pins σ Q w s:=⟨z,H,I,rw',q⟩
 by_cases h0:0≤i
 ·have hj:i.toNat=j:=by
   rw [seqIndex_of h0 h5] at h1
   exact Option.some.inj h1
  exact item_listR pl.isList h0 (by omega) (by rw [hj];simpa using ew) fin hs
 ·have hj:(i + (its.toArray.size:Int)).toNat=j:=by
   rw [seqIndex_neg (by omega) h4] at h1
   rw [List.size_toArray,← hl]
   exact Option.some.inj h1
  exact subscriptTail_builtinR (x:=w) pl.isList.typeIs slot_list_getitem.lookup
   (wpAny_getItem_list_neg (Q:=fun r s'=>r=w∧EP X pins σ Q r s') pl.isList (by omega) (by rw [List.size_toArray] <;> omega) (by omega) (by rw [hj];simpa using ew) ⟨rfl,fin⟩) hs
theorem aE1:IxR X (aK0 X.K):=by
 intro value slice pins s σ H x y v u Q I rx ry h hs
 obtain ⟨p,xs,i,z,rfl,rfl,hq,he,q⟩:=h
 cases rx
 obtain ⟨t,rfl⟩:=ry
 obtain ⟨its,r,pl,hz⟩:=I.tuple hq
 obtain ⟨j,h1,h2,h3,h4,h5⟩:=Ex he
 obtain ⟨w,ew,rw'⟩:=r.get h2
 have hl:=r.length
 have hn:=kf
 have fin:EP X pins σ Q w s:=⟨z,H,I,rw',q⟩
 exact subscriptTail_builtinR (x:=w) pl.typeIs slot_tuple_getitem.lookup
  (getItem_tuple (j:=j) (Q:=fun r s'=>r=w∧EP X pins σ Q r s') pl (by omega) (by omega) (by rw [List.size_toArray,← hl];exact h1) (by simpa using ew) ⟨rfl,fin⟩) hs
theorem aE2:IxR X aK1:=by
 intro value slice pins s σ H x y v u Q I rx ry h hs
 obtain ⟨z,i,c,rfl,rfl,hz,he,q⟩:=h
 obtain ⟨t,rfl⟩:=rx
 obtain ⟨t',rfl⟩:=ry
 obtain ⟨j,h1,h2,h3,h4,h5⟩:=Ex he
 have hl:z.cps.toList.length=z.length:=by simp [Str.length]
 rw [hl] at h1 h4 h5
 have hn:=kf
 exact tail_any (typeIs_str s z t) slot_str_getitem.lookup (getItem_str (c:=c) (by
  have e1:decide (i < -(2 ^ 63:Int))=false:=decide_eq_false (by omega)
  have e2:decide (i ≥ 2 ^ 63)=false:=decide_eq_false (by omega)
  rw [e1,e2,Bool.or_false]) (by rw [h1];simpa using h2) ⟨.str ⟨#[c]⟩,H,I.tok _,⟨_,rfl⟩,q⟩) hs
noncomputable def rIx (K:PySem.W.Frag):R2:=fun x y H Q=>aK2 K x y H Q∨aK0 K x y H Q∨aK1 x y H Q
theorem aE3:IxR X (rIx X.K):=an7.or (aE1.or aE2)
theorem Ge (lo hi:Option Int) (n:Nat):(sliceBounds lo hi none n).1=((HT.sIx n 0 lo:Nat):Int)∧(sliceBounds lo hi none n).2.1=((HT.sIx n n hi:Nat):Int)∧(sliceBounds lo hi none n).2.2=1:=by
 refine ⟨?_,?_,rfl⟩
 ·cases lo with
  | none=>simp [sliceBounds,HT.sIx]
  | some i =>
   simp only [sliceBounds,HT.sIx,Option.getD_none,show (1:Int) > 0 by decide,if_true]
   by_cases h:i < 0
   ·simp only [h,if_true] <;> omega
   ·simp only [h,if_false] <;> omega
 ·cases hi with
  | none=>simp [sliceBounds,HT.sIx]
  | some i =>
   simp only [sliceBounds,HT.sIx,Option.getD_none,show (1:Int) > 0 by decide,if_true]
   by_cases h:i < 0
   ·simp only [h,if_true] <;> omega
   ·simp only [h,if_false] <;> omega
theorem gw (its:List Value) (lo hi:Option Int):slicePick its.toArray lo hi none=((its.drop (HT.sIx its.length 0 lo)).take (HT.sIx its.length its.length hi - HT.sIx its.length 0 lo)).toArray:=by
 obtain ⟨h1,h2,h3⟩:=Ge lo hi its.toArray.size
 unfold slicePick
 rw [h1,h2,h3]
 simp only [sliceRange_one,pick_run,List.size_toArray] <;> rfl
noncomputable def rSlL (K:PySem.W.Frag):V→Option Int→Option Int→Hp→VK→Prop:=fun x lo hi H Q=>∃ a xs,x=.ref a∧SqL K H a xs∧∀ p,H p=none→Q (.ref p) (upd H p (.lst (Do xs lo hi)))
theorem ag9:SlR X (rSlL X.K):=by
 intro pins s σ H x v vl vu lo hi sl Q I rx hs pl pu h
 obtain ⟨a,xs,rfl,hx,q⟩:=h
 cases rx
 obtain ⟨its,r,ht,hz⟩:=I.list hx
 have hlen:=r.length
 refine ⟨"list",_,slot_list_getitem.lookup,ht.isList.typeIs,?_⟩
 refine wpAny_getItem_list_slice ht.isList hs pl pu .none (by simp) ?_ (by rw [List.size_toArray] <;> omega)
 rw [gw,← hlen]
 refine ⟨.ref s.heap.objs.size,_,I.laid (t':=s.toks) (o:=.lst (Do xs lo hi)) (fun b ob q=>Heap.get?_push_of_some _ q) (Nat.le_refl _) ?_,rfl,q _ (I.hok.fresh (Nat.le_refl _))⟩
 exact ⟨Nat.le_trans (Wg xs lo hi) hz,_,0,(r.drop (HT.sIx xs.length 0 lo)).take (HT.sIx xs.length xs.length hi - HT.sIx xs.length 0 lo),Heap.get?_push_size _ rfl⟩
noncomputable def tyV (K:PySem.W.Frag) (T:String) (x:V) (H:Hp):Prop:=match x with
 | .str _=>T="str"
 | .int _=>T="int"
 | .ref p=>(T="list"∧∃ xs,SqL K H p xs)∨(T="tuple"∧∃ o,K.lookup p=some o∧o.cls=.type "tuple"∧o.dict=none) ∨
   (T="dict"∧((∃ kvs,H p=some (.dK kvs))∨∃ kvs,H p=some (.dT kvs)))∨(T="set"∧∃ S n,H p=some (.set S n))
 | _=>False
theorem a42 {pins:List (Addr×Obj)} {σ:St} {H:Hp} {s:Shared} {T:String} {x:V} {v:Value} (I:Inv X pins σ H s) (r:Jv x v) (ty:tyV X.K T x H) :
  s.TypeIs v T∧∀ a,v=.ref a→∃ ob,s.heap.get? a=some ob∧ob.dict=none:=by
 cases x with
 | str z =>
  obtain ⟨t,rfl⟩:=r
  cases (show T="str" from ty)
  exact ⟨typeIs_str s z t,fun _ e=>nomatch e⟩
 | int i =>
  obtain ⟨t,rfl⟩:=r
  cases (show T="int" from ty)
  exact ⟨typeIs_int s i t,fun _ e=>nomatch e⟩
 | ref p =>
  cases r
  rcases ty with ⟨rfl,xs,hq⟩ | ⟨rfl,o,hk,hc,hd⟩ | ⟨rfl,hk⟩ | ⟨rfl,S,n,hk⟩
  ·obtain ⟨its,_,pl,_⟩:=I.list hq
   refine ⟨pl.isList.typeIs,fun a e=>?_⟩
   cases e
   obtain ⟨o,n,e,c,hd,_⟩:=pl
   exact ⟨o,e,hd⟩
  ·refine ⟨⟨o,I.kIn p o hk,hc⟩,fun a e=>?_⟩
   cases e
   exact ⟨o,I.kIn _ o hk,hd⟩
  ·have z:∃ o,s.heap.get? p=some o∧o.ExactDict:=by
    rcases hk with ⟨kvs,hk⟩ | ⟨kvs,hk⟩
    ·obtain ⟨_,_,_,_,o,_,_,e,ex,_⟩:=I.hok p _ hk
     exact ⟨o,e,ex⟩
    ·obtain ⟨_,_,_,_,o,_,_,e,ex,_⟩:=I.hok p _ hk
     exact ⟨o,e,ex⟩
   obtain ⟨o,e,ex⟩:=z
   refine ⟨⟨o,e,ex.1⟩,fun a e2=>?_⟩
   cases e2
   exact ⟨o,e,ex.2.1⟩
  ·obtain ⟨o,_,_,_,e,ex,_⟩:=I.hok p _ hk
   refine ⟨⟨o,e,ex.1⟩,fun a e2=>?_⟩
   cases e2
   exact ⟨o,e,ex.2.1⟩
 | _=>exact False.elim ty
noncomputable def tBM0 (K:PySem.W.Frag) (T:String) (r:V→List V→Hp→VK→Prop) (to:TE):TE:=fun σ H Q=>to σ H fun x H1=>tyV K T x H1∧r x [] H1 Q
noncomputable def tBM (K:PySem.W.Frag) (T:String) (r:V→List V→Hp→VK→Prop) (to:TE) (t:TA):TE:=fun σ H Q=>to σ H fun x H1=>tyV K T x H1∧t σ H1 fun xs H2=>r x xs H2 Q
variable {o e:Expr} {es:List Expr} {to:TE} {t:TA} {name:Str} {apos cpos:Pos} {T id:String} {r:V→List V→Hp→VK→Prop}
theorem az4 (pa:PlainAttrs T) (slot:Slot T name id) (hty:typeOf (.builtin id)=pure (.type "method_descriptor")) (hm:MtR X id r) (ho:PE X o to)
  (hbase:attributeBase o name X.env (eval o X.env)=eval o X.env:=by rfl) (hline:(apos.endLine == cpos.line)=true:=by rfl):PE X (.Call (.Attribute o name apos) [] [] cpos) (tBM0 X.K T r to):=by
 intro pins s σ H Q I h
 refine wpAny_Call_method0_late hbase hline (thn (ho pins s σ H _ I h) fun v s1 ⟨x,H1,I1,r1,ty,q1⟩=>?_)
 obtain ⟨h1,h2⟩:=a42 I1 r1 ty
 exact ⟨T,id,pa,slot,hty,h1,h2,Calls.callWith_builtin rfl (PySem.evalArgs_none (hm pins s1 σ H1 x [] v [] Q I1 r1 .nil q1))⟩
theorem as1 (pa:PlainAttrs T) (slot:Slot T name id) (hty:typeOf (.builtin id)=pure (.type "method_descriptor")) (hm:MtR X id r) (ho:PE X o to) (ha:PA X (e::es) t)
  (hbase:attributeBase o name X.env (eval o X.env)=eval o X.env:=by rfl)
  (hfew:((backTo cpos (starEach (e::es) X.env)).all (fun x=> !x.1) && (backToKw cpos (keywordEach [] X.env)).all (fun x=>x.1.isSome)
   && decide ((e::es).length + ([]:List Keyword).length + (if ([]:List Keyword).isEmpty then 0 else 1) < 30))=true:=by rfl)
  (hline:(apos.endLine == cpos.line)=true:=by rfl) (hs:starEach (e::es) X.env=(false,eval e X.env)::starEach es X.env:=by rfl) (hplain:(backTo cpos (starEach es X.env)).any (·.1)=false:=by rfl) :
  PE X (.Call (.Attribute o name apos) (e::es) [] cpos) (tBM X.K T r to t):=by
 intro pins s σ H Q I h
 refine wpAny_Call_method_late hbase hfew hline rfl (thn (ho pins s σ H _ I h) fun v s1 ⟨x,H1,I1,r1,ty,q1⟩=>?_)
 obtain ⟨h1,h2⟩:=a42 I1 r1 ty
 refine ⟨T,id,pa,slot,hty,h1,h2,?_⟩
 have hA:=ha cpos pins s1 σ H1 _ I1 q1
 rw [hs] at hA ⊢
 refine Calls.callWith_builtin (by show (false || (backTo cpos (starEach es X.env)).any (·.1))=false;rw [hplain] <;> rfl) (Calls.evalArgs_plain ?_)
 exact thn hA fun us s2 ⟨vs,H2,I2,r2,q2⟩=>hm pins s2 σ H2 x vs v us Q I2 r1 r2 q2
end
end L2
namespace L2
open PySem PySem.Spec PyProof.Rows
noncomputable def MtM (X:Cx) (id:String) (r:V→List V→Hp→VK→Prop):Prop :=
 ∀ (pins:List (Addr×Obj)) (s:Shared) (σ:St) (H:Hp) (x:V) (xs:List V) (v:Value) (us:List Value) (Q:VK),Inv X pins σ H s→Jv x v→J7 xs us→r x xs H Q →
  wpAny (model X.prog X.w) X.A (call (.builtin id) (v::us)) (EP X pins σ Q) X.xe s
theorem J7.one:∀ {x:V} {us:List Value},J7 [x] us→∃ u,us=[u]∧Jv x u
 | _,_,.cons r .nil=>⟨_,rfl,r⟩
theorem J7.zero:∀ {us:List Value},J7 [] us→us=[]
 | _,.nil=>rfl
theorem J7.dropLast {xs:List V} {us:List Value} (h:J7 xs us):J7 xs.dropLast us.dropLast:=by
 induction h with
 | nil=>exact .nil
 | cons r t ih =>
  cases t with
  | nil=>exact .nil
  | cons q t'=>exact .cons r ih
theorem J7.rep {xs:List V} {us:List Value} (h:J7 xs us):∀ k:Nat,J7 (List.replicate k xs).flatten (List.replicate k us).flatten
 | 0=>.nil
 | k + 1=>by
  rw [List.replicate_succ,List.replicate_succ,List.flatten_cons,List.flatten_cons]
  exact J7.append h (J7.rep h k)
theorem Cl {α:Type} (l:List α):l.eraseIdx (l.length - 1)=l.dropLast:=by
 induction l with
 | nil=>rfl
 | cons a r ih =>
  cases r with
  | nil=>rfl
  | cons b r =>
   have e:(a::b::r).length - 1=((b::r).length - 1) + 1:=by
    have h1:(a::b::r).length=r.length + 2:=rfl
    have h2:(b::r).length=r.length + 1:=rfl
    omega
   rw [e,List.eraseIdx_cons_succ,ih]
   all_goals rfl
theorem Gv (its:List Value):∀ (k:Nat) (acc:List Value),
  List.foldl (fun x1 x2=>x1++x2) acc.toArray (List.replicate k its.toArray)=(acc++(List.replicate k its).flatten).toArray
 | 0,acc=>by simp
 | k + 1,acc=>by
  have e:acc.toArray++its.toArray=(acc++its).toArray:=by simp
  have e2:(acc++its)++(List.replicate k its).flatten=acc++(List.replicate (k + 1) its).flatten:=by
   rw [List.replicate_succ,List.flatten_cons,List.append_assoc]
  rw [← e2,← Gv its k (acc++its),← e,List.replicate_succ,List.foldl_cons]
section
variable {X:Cx} {pins:List (Addr×Obj)} {σ:St} {H:Hp} {s:Shared} {l b:Addr} {xs ys zs:List V}
theorem Inv.lset {its its':List Value} {n:Nat} {f:Array Value→Array Value} {t':Nat} (I:Inv X pins σ H s) (hH:H l=some (.lst xs))
  (e:s.heap.get? l=some { cls:=.type "list",data:=.seq its.toArray n}) (hf:f its.toArray=its'.toArray) (hv:J7 ys its') (hz:ys.length≤sizeLine) :
  Inv X pins σ (upd H l (.lst ys)) { s with heap:=s.heap.update l (Obj.mapSeq f),toks:=t'}:=by
 have q:=PySem.IsL.update e f
 rw [hf] at q
 refine I.write (x:=l) (e:=l) (by rw [hH];exact trivial) (.inl rfl) (fun b' u hb hu=>(Heap.get?_update_other s.heap (Obj.mapSeq f) (Ne.symm hb)).trans hu) ⟨_,q⟩ ?_
 exact ⟨hz,its',_,hv,q⟩
theorem Inv.lnew {its:List Value} {t':Nat} (I:Inv X pins σ H s) (hv:J7 ys its) (hz:ys.length≤sizeLine) :
  Inv X pins σ (upd H s.heap.objs.size (.lst ys)) { s with heap:=s.heap.push { cls:=.type "list",data:=.seq its.toArray},toks:=t'} :=
 I.laid (fun _ _ q=>Heap.get?_push_of_some _ q) (Nat.le_refl _) ⟨hz,its,0,hv,Heap.get?_push_size _ rfl⟩
theorem Inv.fresh (I:Inv X pins σ H s):H s.heap.objs.size=none:=I.hok.fresh (Nat.le_refl _)
theorem Inv.lstM (I:Inv X pins σ H s) (hH:H l=some (.lst xs)):xs.length≤sizeLine∧∃ (its:List Value) (n:Nat),J7 xs its∧xs.length=its.length∧s.heap.get? l=some { cls:=.type "list",data:=.seq its.toArray n}:=by
 obtain ⟨z,its,n,r,e⟩:=I.hok l _ hH
 exact ⟨z,its,n,r,r.length,e⟩
theorem d8 {n:Nat} (h:n≤sizeLine):Builtin.List.listTooLong n=false:=by
 unfold Builtin.List.listTooLong
 exact decide_eq_false (by omega)
end
section
variable {X:Cx}
noncomputable def ah9:V→List V→Hp→VK→Prop:=fun x vs H Q=>∃ l xs y,x=.ref l∧vs=[y]∧H l=some (.lst xs)∧xs.length < sizeLine∧Q .non (upd H l (.lst (xs++[y])))
theorem G9:MtM X "list.append" ah9:=by
 intro pins s σ H x vs v us Q I rx rv h
 obtain ⟨l,xs,y,rfl,rfl,hH,hz,q⟩:=h
 cases rx
 obtain ⟨u,rfl,ru⟩:=rv.one
 obtain ⟨z,its,n,r,hl,e⟩:=I.lstM hH
 refine call_meets F.slot_list_append ⟨_,e,rfl⟩ F.entry_list_append (F.args_list_append_2 _ _) (PySem.list_append l its.toArray n u (by rw [List.size_toArray];omega)) ⟨e,?_⟩
 refine ⟨.non,_,I.lset (its':=its++[u]) hH e (by simp) (r.append (.cons ru .nil)) ?_,rfl,q⟩
 rw [List.length_append,List.length_singleton]
 omega
noncomputable def rPop:V→List V→Hp→VK→Prop:=fun x vs H Q=>∃ l xs y,x=.ref l∧vs=[]∧H l=some (.lst xs)∧xs[xs.length - 1]? =some y∧Q y (upd H l (.lst xs.dropLast))
theorem aC1:MtM X "list.pop" rPop:=by
 intro pins s σ H x vs v us Q I rx rv h
 obtain ⟨l,xs,y,rfl,rfl,hH,hy,q⟩:=h
 cases rx
 have hus:=rv.zero
 subst hus
 obtain ⟨z,its,n,r,hl,e⟩:=I.lstM hH
 obtain ⟨u,hu,ru⟩:=r.get hy
 have hy':its.toArray[its.toArray.size - 1]? =some u:=by
  show its.toArray[its.length - 1]? =some u
  rw [← Array.getElem?_toList,← hl]
  exact hu
 refine call_meets F.slot_list_pop ⟨_,e,rfl⟩ F.entry_list_pop (F.args_list_pop_1 _) (MeetsSeq.list_pop_last l its.toArray n u hy' (by rw [List.size_toArray];omega)) ⟨e,?_⟩
 refine ⟨y,_,I.lset (its':=its.dropLast) hH e ?_ r.dropLast ?_,ru,q⟩
 ·show its.toArray.eraseIdxIfInBounds (its.toArray.size - 1)=its.dropLast.toArray
  rw [List.size_toArray,List.eraseIdxIfInBounds_toArray,Cl]
 ·rw [List.length_dropLast]
  omega
noncomputable def rRep:R2:=fun x y H Q=>∃ l k xs,x=.ref l∧y=.int k∧H l=some (.lst xs)∧ -(2 ^ 63)≤k∧k < 2 ^ 63∧xs.length * k.toNat≤sizeLine ∧
 ∀ p,H p=none→Q (.ref p) (upd H p (.lst (List.replicate k.toNat xs).flatten))
theorem an5 {α:Type} (xs:List α) (k:Nat):(List.replicate k xs).flatten.length=k * xs.length:=by
 induction k with
 | zero=>simp
 | succ k ih=>rw [List.replicate_succ,List.flatten_cons,List.length_append,ih,Nat.succ_mul,Nat.add_comm]
theorem aA9:OpR X (binaryOp .Mult) rRep:=by
 intro pins s σ H x y v u Q I rx ry h
 obtain ⟨l,k,xs,rfl,rfl,hH,h1,h2,hz,q⟩:=h
 cases rx
 obtain ⟨t,rfl⟩:=ry
 obtain ⟨z,its,n,r,hl,e⟩:=I.lstM hH
 have hlen:its.toArray.size * k.toNat≤sizeLine:=by rw [List.size_toArray,← hl];exact hz
 have hcap:¬ its.toArray.size * k.toNat > (2 ^ 63 - 1) / 8:=by
  have:(sizeLine:Nat)≤(2 ^ 63 - 1) / 8:=by decide
  omega
 have hfit:¬ (!Builtin.List.listFitsIndex k)=true:=by
  rw [fitsIndex_both h1 h2]
  exact Bool.false_ne_true
 have hlong:¬ Builtin.List.listTooLong (its.toArray.size * k.toNat)=true:=by
  rw [d8 hlen]
  exact Bool.false_ne_true
 have hnew:List.foldl (fun x1 x2=>x1++x2) #[] (List.replicate (if its.toArray.isEmpty=true then 0 else k.toNat) its.toArray)=(List.replicate k.toNat its).flatten.toArray:=by
  have f0:∀ m:Nat,List.foldl (fun x1 x2=>x1++x2) #[] (List.replicate m its.toArray)=(List.replicate m its).flatten.toArray:=fun m=>by
   have:=Gv its m []
   rw [List.nil_append] at this
   exact this
  rw [f0]
  cases its with
  | nil=>simp
  | cons a r'=>rw [if_neg (by simp)]
 refine wpAny_binaryOp_repeat_ref (T:="list") (U:="int") (by decide) ⟨_,e,rfl⟩ (fun s'=>typeIs_int s' k t) noFill_list_mul F.fills_int_mul F.slot_int_rmul repeat_list F.slot_int_index.lookup
  (call_meets F.slot_int_rmul (typeIs_int s k t) F.entry_int_rmul (F.args_int_rmul_2 _ _) (int___rmul___int_list k t l its.toArray n)
   ⟨e,rfl,⟨_,e,rfl⟩,call_meets F.slot_list_mul ⟨_,e,rfl⟩ F.entry_list_mul (F.args_list_mul_2 _ _) (AutoListH.list___mul___list_int_3 l its.toArray n k t hfit hcap hlong) ⟨e,?_⟩⟩)
 rw [hnew]
 exact ⟨.ref _,_,I.lnew (t':=s.toks) (r.rep k.toNat) (by rw [an5,Nat.mul_comm];exact hz),rfl,q _ I.fresh⟩
end
section
variable {prog:Program} {w:World} {A:Around} {E:Value→Shared→Prop} {s:Shared}
set_option maxRecDepth 100000 in
end
section
variable {X:Cx}
end
end L2
namespace L2
open PySem PySem.Spec PyProof.Rows
section
variable {κ:Type} [DecidableEq κ]
noncomputable def z0 (kvs:List (κ×V)) (k:κ):Option V:=(kvs.find? fun kv=>decide (kv.1=k)).map (·.2)
noncomputable def Zw (kvs:List (κ×V)) (k:κ) (v:V):List (κ×V) :=
 if (kvs.any fun kv=>decide (kv.1=k))=true then kvs.map (fun kv=>if kv.1=k then (kv.1,v) else kv) else kvs++[(k,v)]
theorem xl {p:κ×V} {r:List (κ×V)} {k:κ} (e:p.1=k):z0 (p::r) k=some p.2:=by simp [z0,List.find?_cons,e]
theorem xk {p:κ×V} {r:List (κ×V)} {k:κ} (e:¬ p.1=k):z0 (p::r) k=z0 r k:=by simp [z0,List.find?_cons,e]
theorem xj (k:κ):∀ kvs:List (κ×V),(kvs.any fun kv=>decide (kv.1=k))=(z0 kvs k).isSome
 | []=>rfl
 | p::r=>by
  rw [List.any_cons]
  by_cases e:p.1=k
  ·simp only [xl e,decide_eq_true e,Bool.true_or,Option.isSome_some]
  ·rw [xk e,decide_eq_false e,Bool.false_or];exact xj k r
theorem qp (kvs:List (κ×V)) (k:κ) (v:V):(Zw kvs k v).length≤kvs.length + 1:=by
 unfold Zw
 split
 ·rw [List.length_map];omega
 ·rw [List.length_append,List.length_cons,List.length_nil];omega
theorem a66 {kvs:List (κ×V)} {k:κ} (v:V) (h:z0 kvs k=none):Zw kvs k v=kvs++[(k,v)]:=by
 unfold Zw
 rw [xj,h]
 exact if_neg (by decide)
theorem Qp.isSome_eq {o:Option V} {u:Option Value} (r:Qp o u):o.isSome=u.isSome:=by
 cases o with
 | none=>cases u with
  | none=>rfl
  | some _=>exact (show False from r).elim
 | some _=>cases u with
  | none=>exact (show False from r).elim
  | some _=>rfl
theorem Qp.getD {o:Option V} {u:Option Value} {d:V} {d':Value} (r:Qp o u) (rd:Jv d d'):Jv (o.getD d) (u.getD d'):=by
 cases o with
 | none=>cases u with
  | none=>exact rd
  | some _=>exact (show False from r).elim
 | some _=>cases u with
  | none=>exact (show False from r).elim
  | some _=>exact r
theorem KV.val {kvs:List (κ×V)} {vs:List (κ×Value)} (r:KV kvs vs) (k:κ):Qp (z0 kvs k) (valueAt vs k):=by
 unfold KV at r
 induction r with
 | nil=>exact True.intro
 | @cons p q ps qs h t ih =>
  obtain ⟨h1,h2⟩:=h
  by_cases e:p.1=k
  ·have e':q.1=k:=h1.symm.trans e
   have b:valueAt (q::qs) k=some q.2:=by simp [valueAt,List.find?_cons,e']
   rw [xl e,b];exact h2
  ·have e':¬ q.1=k:=fun z=>e (h1.trans z)
   have b:valueAt (q::qs) k=valueAt qs k:=by simp [valueAt,List.find?_cons,e']
   rw [xk e,b];exact ih
theorem KV.any {kvs:List (κ×V)} {vs:List (κ×Value)} (r:KV kvs vs) (k:κ):(kvs.any fun kv=>decide (kv.1=k))=vs.any fun kv=>decide (kv.1=k):=by
 unfold KV at r
 induction r with
 | nil=>rfl
 | cons h t ih=>rw [List.any_cons,List.any_cons,ih,h.1]
theorem KV.repl {kvs:List (κ×V)} {vs:List (κ×Value)} (r:KV kvs vs) (k:κ) {y:V} {u:Value} (ry:Jv y u) :
  KV (kvs.map fun kv=>if kv.1=k then (kv.1,y) else kv) (vs.map fun kv=>if kv.1=k then (kv.1,u) else kv):=by
 unfold KV at r ⊢
 induction r with
 | nil=>exact .nil
 | @cons p q ps qs h t ih =>
  rw [List.map_cons,List.map_cons]
  refine .cons ?_ ih
  obtain ⟨h1,h2⟩:=h
  by_cases e:p.1=k
  ·rw [if_pos e,if_pos (h1.symm.trans e)];exact ⟨h1,ry⟩
  ·rw [if_neg e,if_neg (fun z=>e (h1.trans z))];exact ⟨h1,h2⟩
theorem KV.put {kvs:List (κ×V)} {vs:List (κ×Value)} (r:KV kvs vs) (k:κ) {y:V} {u:Value} (ry:Jv y u):KV (Zw kvs k y) (stored vs k u):=by
 unfold Zw stored
 rw [r.any k]
 by_cases e:(vs.any fun kv=>decide (kv.1=k))=true
 ·rw [if_pos e,if_pos e];exact r.repl k ry
 ·rw [if_neg e,if_neg e];exact Paired.snoc r ⟨rfl,ry⟩
theorem KV.length {kvs:List (κ×V)} {vs:List (κ×Value)} (r:KV kvs vs):kvs.length=vs.length:=Paired.length r
end
theorem qm {P:Program} {w:World} {k:Key} {u:Value} (r:Jv (kV k) u):(Jn P w).is k u=true:=by
 cases k with
 | inl i=>obtain ⟨t,e⟩:=(show ∃ t,u=Value.int i t from r);subst e;exact dq P w i t
 | inr x=>obtain ⟨t,e⟩:=(show ∃ t,u=Value.str x t from r);subst e;exact du P w x t
theorem Gx {P:Program} {w:World}:∀ {ks:List Key} {us:List Value},J7 (ks.map kV) us→ItemsAre (Jn P w) ks us
 | [],_,r=>by rw [List.map_nil] at r;cases r;exact .nil
 | k::ks,_,r=>by
  rw [List.map_cons] at r
  cases r with
  | cons h t=>exact .cons (qm h) (Gx t)
noncomputable abbrev KT (H:Hp):List (List Key×V)→List (List Key×Addr×Value)→Prop:=Paired fun p q=>p.1=q.1∧H q.2.1=some (.tup (p.1.map kV))∧Jv p.2 q.2.2
theorem KT.val {H:Hp} {kvs:List (List Key×V)} {xs:List (List Key×Addr×Value)} (r:KT H kvs xs) (k:List Key):Qp (z0 kvs k) ((atKey xs k).map (·.2)):=by
 induction r with
 | nil=>exact True.intro
 | @cons p q ps qs h t ih =>
  obtain ⟨h1,_,h2⟩:=h
  by_cases e:p.1=k
  ·have e':q.1=k:=h1.symm.trans e
   have b:atKey (q::qs) k=some q.2:=by simp [atKey,List.find?_cons,e']
   rw [xl e,b];exact h2
  ·have e':¬ q.1=k:=fun z=>e (h1.trans z)
   have b:atKey (q::qs) k=atKey qs k:=by simp [atKey,List.find?_cons,e']
   rw [xk e,b];exact ih
theorem KT.repl {H:Hp} {kvs:List (List Key×V)} {xs:List (List Key×Addr×Value)} (r:KT H kvs xs) (k:List Key) {y:V} {u:Value} (ry:Jv y u) :
  KT H (kvs.map fun kv=>if kv.1=k then (kv.1,y) else kv) (xs.map (putAt k u)):=by
 induction r with
 | nil=>exact .nil
 | @cons p q ps qs h t ih =>
  rw [List.map_cons,List.map_cons]
  refine .cons ?_ ih
  obtain ⟨h1,h2,h3⟩:=h
  unfold putAt
  by_cases e:p.1=k
  ·rw [if_pos e,if_pos (h1.symm.trans e)];exact ⟨h1,h2,ry⟩
  ·rw [if_neg e,if_neg (fun z=>e (h1.trans z))];exact ⟨h1,h2,h3⟩
theorem KT.put {H:Hp} {kvs:List (List Key×V)} {xs:List (List Key×Addr×Value)} (r:KT H kvs xs) (k:List Key) {b:Addr} {y:V} {u:Value} (hb:H b=some (.tup (k.map kV))) (ry:Jv y u) :
  KT H (Zw kvs k y) (storedH xs k b u):=by
 have e:(kvs.any fun kv=>decide (kv.1=k))=(atKey xs k).isSome:=by
  rw [xj,(r.val k).isSome_eq,Option.isSome_map]
 unfold Zw storedH
 rw [e]
 by_cases q:(atKey xs k).isSome=true
 ·rw [if_pos q,if_pos q];exact r.repl k ry
 ·rw [if_neg q,if_neg q];exact Paired.snoc r ⟨rfl,hb,ry⟩
theorem KT.keeps {H H':Hp} {kvs:List (List Key×V)} {xs:List (List Key×Addr×Value)} (r:KT H kvs xs) (ht:∀ b ys,H b=some (.tup ys)→H' b=some (.tup ys)):KT H' kvs xs :=
 Paired.mapP r fun _ _ z=>⟨z.1,ht _ _ z.2.1,z.2.2⟩
section
variable {P:Program} {w:World} {H:Hp} {h:Heap} {a:Addr}
theorem ar8 {u:HO} (ok:HOk P w H h) (e:Rd H a u):U0 P w H h a u:=e.ok ok
theorem Wh {kvs:List (Key×V)} (ok:HOk P w H h) (e:Rd H a (.dK kvs)):kvs.length≤sizeLine∧(a == sysModules)=false∧∃ vs,KV kvs vs∧h.DictOf (Jn P w) a vs :=
 show U0 P w H h a (.dK kvs) from ar8 ok e
theorem au0 {kvs:List (Key×V)} (ok:HOk P w H h) (e:H a=some (.dK kvs)):kvs.length≤sizeLine∧(a == sysModules)=false∧∃ vs,KV kvs vs∧h.DictOf (Jn P w) a vs:=Wh ok (.inl e)
theorem we {ks:List Key} (ok:HOk P w H h) (e:H a=some (.tup (ks.map kV))):(tupleKind (Jn P w)).is h ks a:=by
 obtain ⟨_,its,r,o,h1,h2,n,h3⟩:=(show U0 P w H h a (.tup (ks.map kV)) from ok a _ e)
 exact ⟨o,its.toArray,n,h1,h2,h3,by simpa using Gx r⟩
theorem Km {kvs:List (List Key×V)} (ok:HOk P w H h) (e:Rd H a (.dT kvs)):kvs.length≤sizeLine∧(a == sysModules)=false ∧
  ∃ xs,KT H kvs xs∧h.DictOfH (tupleKind (Jn P w)) a xs:=by
 obtain ⟨z,y,xs,r,o,es,ep,h1,h2,h3,h4,h5⟩:=(show U0 P w H h a (.dT kvs) from ar8 ok e)
 refine ⟨z,y,xs,r,o,es,ep,h1,h2,h3,h4,fun x hx=>?_,h5⟩
 have all:∀ {l:List (List Key×V)} {m:List (List Key×Addr×Value)},KT H l m→∀ x∈m,(tupleKind (Jn P w)).is h x.1 x.2.1:=by
  intro l m q
  induction q with
  | nil=>intro x hx;exact nomatch hx
  | @cons p q ps qs hq t ih =>
   intro x hx
   rcases List.mem_cons.mp hx with e | hx
   ·subst e
    exact we ok (by rw [← hq.1];exact hq.2.1)
   ·exact ih x hx
 exact all r x hx
theorem aQ1 {kvs:List (List Key×V)} (ok:HOk P w H h) (e:H a=some (.dT kvs)):kvs.length≤sizeLine∧(a == sysModules)=false ∧
  ∃ xs,KT H kvs xs∧h.DictOfH (tupleKind (Jn P w)) a xs:=Km ok (.inl e)
end
noncomputable def Zm (H:Hp) (a:Addr) (y:V) (r:Option V):Prop :=
 (∃ kvs k,Rd H a (.dK kvs)∧y=kV k∧r=z0 kvs k)∨∃ kvs k b,Rd H a (.dT kvs)∧y=.ref b∧H b=some (.tup (k.map kV))∧r=z0 kvs k
noncomputable def af9 (H:Hp) (a:Addr) (y v:V) (H':Hp):Prop :=
 (∃ kvs k,H a=some (.dK kvs)∧y=kV k∧kvs.length < sizeLine∧H'=upd H a (.dK (Zw kvs k v))) ∨
 ∃ kvs k b,H a=some (.dT kvs)∧y=.ref b∧H b=some (.tup (k.map kV))∧kvs.length < sizeLine∧H'=upd H a (.dT (Zw kvs k v))
theorem Zm.k {H:Hp} {a:Addr} {kvs:List (Key×V)} {k:Key} (e:H a=some (.dK kvs)):Zm H a (kV k) (z0 kvs k):=.inl ⟨kvs,k,.inl e,rfl,rfl⟩
theorem af9.k {H:Hp} {a:Addr} {kvs:List (Key×V)} {k:Key} {v:V} (e:H a=some (.dK kvs)) (hl:kvs.length < sizeLine):af9 H a (kV k) v (upd H a (.dK (Zw kvs k v))):=.inl ⟨kvs,k,e,rfl,hl,rfl⟩
section
variable {X:Cx} {pins:List (Addr×Obj)} {σ:St} {H:Hp} {s:Shared} {a:Addr} {y v:V} {u r:Value} {o:Option V} {A:Around} {E:Value→Shared→Prop}
theorem Inv.big (I:Inv X pins σ H s):sysModules < s.heap.objs.size:=by
 have h:mainGlobals < s.heap.objs.size:=(I.mod.glob.keeps I.bk).lt
 exact Nat.lt_trans (by decide) h
theorem a16 {Q:Value→Shared→Prop} (hu:A.units + 1 < cLine) (I:Inv X pins σ H s) (g:Zm H a y (some v)) (ry:Jv y u) (h:∀ w' s',Inv X pins σ H s'→Jv v w'→Q w' s') :
  wpAny (model X.prog X.w) A (getItem (.ref a) u) Q E s:=by
 rcases g with ⟨kvs,k,e,ey,l⟩ | ⟨kvs,k,b,e,ey,eb,l⟩
 ·subst ey
  obtain ⟨z,hd,vs,rel,dd⟩:=Wh I.hok e
  obtain ⟨w',hw,rw'⟩:=Qp.some_of (v:=v) (o:=valueAt vs k) (by rw [l];exact rel.val k)
  exact wpAny_getItem_of (qm ry) dd.mapOf hw (h w' _ (I.tok _) rw')
 ·subst ey
  cases (show u=Value.ref b from ry)
  obtain ⟨z,hd,xs,rel,dd⟩:=Km I.hok e
  obtain ⟨w',hw,rw'⟩:=Qp.some_of (v:=v) (o:=(atKey xs k).map (·.2)) (by rw [l];exact rel.val k)
  obtain ⟨p,hp,hp2⟩:=Option.map_eq_some_iff.mp hw
  refine wpAny_getItem_heap (tupleKind_room_in1 hu) (we I.hok eb) dd hp ?_
  rw [hp2]
  exact h w' _ (I.tok _) rw'
theorem d_in {Q:Value→Shared→Prop} (hu:A.units + 1 < cLine) (I:Inv X pins σ H s) (g:Zm H a y o) (ry:Jv y u) (h:∀ s',Inv X pins σ H s'→Q (.bool o.isSome) s') :
  wpAny (model X.prog X.w) A (compareOp .In u (.ref a)) Q E s:=by
 rcases g with ⟨kvs,k,e,ey,l⟩ | ⟨kvs,k,b,e,ey,eb,l⟩
 ·subst ey
  obtain ⟨z,hd,vs,rel,dd⟩:=Wh I.hok e
  refine wpAny_in_of (qm ry) hd dd.mapOf ?_
  rw [← (rel.val k).isSome_eq,← l]
  exact h _ (I.tok _)
 ·subst ey
  cases (show u=Value.ref b from ry)
  obtain ⟨z,hd,xs,rel,dd⟩:=Km I.hok e
  refine wpAny_in_heap (tupleKind_room_in1 hu) (we I.hok eb) hd dd ?_
  have q:=(rel.val k).isSome_eq
  rw [Option.isSome_map] at q
  rw [← q,← l]
  exact h _ (I.tok _)
theorem ap2 {Q:Value→Shared→Prop} (hu:A.units + 1 < cLine) (I:Inv X pins σ H s) (g:Zm H a y o) (ry:Jv y u) (h:∀ s',Inv X pins σ H s'→Q (.bool (!o.isSome)) s') :
  wpAny (model X.prog X.w) A (compareOp .NotIn u (.ref a)) Q E s:=by
 rcases g with ⟨kvs,k,e,ey,l⟩ | ⟨kvs,k,b,e,ey,eb,l⟩
 ·subst ey
  obtain ⟨z,hd,vs,rel,dd⟩:=Wh I.hok e
  refine wpAny_notIn_of (qm ry) hd dd.mapOf ?_
  rw [← (rel.val k).isSome_eq,← l]
  exact h _ (I.tok _)
 ·subst ey
  cases (show u=Value.ref b from ry)
  obtain ⟨z,hd,xs,rel,dd⟩:=Km I.hok e
  refine wpAny_notIn_heap (tupleKind_room_in1 hu) (we I.hok eb) hd dd ?_
  have q:=(rel.val k).isSome_eq
  rw [Option.isSome_map] at q
  rw [← q,← l]
  exact h _ (I.tok _)
theorem E2 {h':Heap} {t':Nat} {ob:HO} (I:Inv X pins σ H s) (mu:Mut (H a)) (hs:Heap.SameBut a s.heap h') (he:∃ q,h'.get? a=some q) (new:U0 X.prog X.w (upd H a ob) h' a ob) :
  Inv X pins σ (upd H a ob) { s with heap:=h',toks:=t'} :=
 I.write (x:=a) (e:=a) mu (.inl rfl) (fun b q hb z=>(hs.2 b hb).trans z) he new
theorem dk_new {P:Program} {w:World} {H':Hp} {h':Heap} {kvs:List (Key×V)} {vs:List (Key×Value)} (z:kvs.length≤sizeLine) (hd:(a == sysModules)=false) (rel:KV kvs vs) (dd:h'.DictOf (Jn P w) a vs) :
  U0 P w H' h' a (.dK kvs):=⟨z,hd,vs,rel,dd⟩
theorem a15 {H':Hp} {Q:Unit→Shared→Prop} (hu:A.units + 1 < cLine) (I:Inv X pins σ H s) (g:af9 H a y v H') (ry:Jv y u) (rv:Jv v r) (h:∀ s',Inv X pins σ H' s'→Q () s') :
  wpAny (model X.prog X.w) A (setItem (.ref a) u r) Q E s:=by
 rcases g with ⟨kvs,k,e,ey,l,eH⟩ | ⟨kvs,k,b,e,ey,eb,l,eH⟩
 ·subst ey eH
  obtain ⟨z,hd,vs,rel,dd⟩:=au0 I.hok e
  have hz:vs.length≤sizeLine:=by rw [← rel.length];exact z
  have hl:(Zw kvs k v).length≤sizeLine:=by have:=qp kvs k v;omega
  refine wpAny_setItem_pairs (hsz:=hz) (qm ry) dd fun h' dd' hs=>h _ ?_
  have he:∃ q,h'.get? a=some q:=let ⟨q,_,_,hq,_⟩:=dd';⟨q,hq⟩
  exact E2 I (by rw [e];exact True.intro) hs he (dk_new hl hd (rel.put k rv) dd')
 ·subst ey eH
  cases (show u=Value.ref b from ry)
  obtain ⟨z,hd,xs,rel,dd⟩:=aQ1 I.hok e
  have hz:xs.length≤sizeLine:=by rw [← Paired.length rel];exact z
  have hl:(Zw kvs k v).length≤sizeLine:=by have:=qp kvs k v;omega
  refine wpAny_setItem_heap (hsz:=hz) (tupleKind_room_in1 hu) (we I.hok eb) dd fun h' dd' hs=>h _ ?_
  obtain ⟨q,es,ep,hq,h2,h3,h4,_,h5⟩:=dd'
  refine E2 I (by rw [e];exact True.intro) hs ⟨q,hq⟩ ⟨hl,hd,_,(rel.put k eb rv).keeps fun c ys ec=>?_,q,es,ep,hq,h2,h3,h4,h5⟩
  rw [jo (aN2 ec e (fun z=>nomatch z))]
  exact ec
end
section
variable {X:Cx} {pins:List (Addr×Obj)} {σ:St} {H:Hp} {s:Shared} {a:Addr} {kvs:List (Key×V)} {k:Key} {u:Value} {A:Around} {E:Value→Shared→Prop}
theorem d_truth {Q:Bool→Shared→Prop} (I:Inv X pins σ H s) (e:Rd H a (.dK kvs)) (h:∀ s',Inv X pins σ H s'→Q (!kvs.isEmpty) s'):wpAny (model X.prog X.w) A (truthy (.ref a)) Q E s:=by
 obtain ⟨z,hd,vs,rel,dd⟩:=Wh I.hok e
 refine wpAny_truthy_dict hd dd (by rw [← rel.length];rw [sizeLine_eq] at z;omega) ?_
 have q:kvs.isEmpty=vs.isEmpty:=by cases rel <;> rfl
 rw [← q]
 exact h _ (I.tok _)
end
noncomputable def aq5 (i:Expr):Prop:=∀ ov iv,subscripted i false ov iv=operate [ov,iv] (getItem ov iv)
theorem bx {prog:Program} {w:World} {A:Around} {E:Value→Shared→Prop} {s:Shared} {env:Env} {value slice:Expr} {pos:Pos} {T id:String} {Q:Value→Shared→Prop}
  (hl:typeLookup (.type T) "__getitem__"=pure (some (.builtin id))) (hs:aq5 slice)
  (h:wpAny (model prog w) A (eval value env) (fun o s₁=>wpAny (model prog w) A (eval slice env) (fun i s₂=>s₂.TypeIs o T∧wpAny (model prog w) A (getItem o i) Q E s₂) E s₁) E s) :
  wpAny (model prog w) A (eval (.Subscript value slice pos) env) Q E s:=by
 refine Subscript_ (wpAny_mono h (fun o s₁ h₁=>wpAny_mono h₁ (fun i s₂ h₂=>?_) fun _ _ x=>x) fun _ _ x=>x)
 obtain ⟨hT,h₂⟩:=h₂
 unfold subscriptTail
 refine wpAny_bind ?_
 rw [getitemInPython_of_ne hT.not_modules]
 refine wpAny_bind (wpAny_specialOf hT hl ?_)
 have fin:wpAny (model prog w) A (subscripted slice false o i) (fun r s₃=>wpAny (model prog w) A (letTemporaryGo value o r >>= fun _=>pure r) Q E s₃) E s₂:=by
  rw [hs o i]
  exact wpAny_operating (wpAny_mono h₂ (fun r s₃ h₃=>wpAny_bind (wpAny_letTemporaryGo (wpAny_pure h₃))) fun _ _ x=>x)
 first
  | exact wpAny_pure (wpAny_bind fin)
  | exact wpAny_bind (wpAny_pure (wpAny_bind fin))
  | exact wpAny_bind fin
theorem Dp {X:Cx} {pins:List (Addr×Obj)} {σ:St} {H:Hp} {s:Shared} {a:Addr} {y:V} {o:Option V} (I:Inv X pins σ H s) (g:Zm H a y o):s.TypeIs (.ref a) "dict":=by
 rcases g with ⟨kvs,k,e,_,_⟩ | ⟨kvs,k,b,e,_,_,_⟩
 ·obtain ⟨_,_,vs,_,dd⟩:=Wh I.hok e
  exact dd.typeIs
 ·obtain ⟨_,_,xs,_,dd⟩:=Km I.hok e
  exact dd.typeIs
noncomputable def aI5 (td ty:TE):TE:=fun σ H Q=>td σ H fun x H1=>ty σ H1 fun y H2=>∃ a v,x=.ref a∧Zm H2 a y (some v)∧Q v H2
noncomputable def tDIn (ty td:TE):TE:=fun σ H Q=>ty σ H fun y H1=>td σ H1 fun x H2=>∃ a o,x=.ref a∧Zm H2 a y o∧Q (.bl o.isSome) H2
noncomputable def ag3 (ty td:TE):TE:=fun σ H Q=>ty σ H fun y H1=>td σ H1 fun x H2=>∃ a o,x=.ref a∧Zm H2 a y o∧Q (.bl (!o.isSome)) H2
noncomputable def aJ7 (td ty tv:TE):TS:=fun D σ H=>tv σ H fun v H1=>td σ H1 fun x H2=>ty σ H2 fun y H3=>∃ a H4,x=.ref a∧af9 H3 a y v H4∧D.nx σ H4
section
variable {X:Cx} {o i e value:Expr} {pos pos' tpos:Pos} {td ty tv:TE}
theorem aj8 (hu:X.A.units + 1 < cLine) (ho:PE X o td) (hi:PE X i ty) (hs:aq5 i):PE X (.Subscript o i pos) (aI5 td ty):=by
 intro pins s σ H Q I h
 refine bx PySem.F.slot_dict_getitem.lookup hs (thn (ho pins s σ H _ I h) fun u s1 ⟨x,H1,I1,rx,q1⟩=>thn (hi pins s1 σ H1 _ I1 q1) fun iv s2 ⟨y,H2,I2,ry,a,v,ex,g,q2⟩=>?_)
 subst ex
 obtain rfl:u=Value.ref a:=rx
 exact ⟨Dp I2 g,a16 hu I2 g ry fun w' s3 I3 rw'=>⟨v,H2,I3,rw',q2⟩⟩
theorem az6 (hu:X.A.units + 1 < cLine) (hi:PE X i ty) (ho:PE X o td):PC X .In i o (tDIn ty td):=by
 intro pins s σ H Q I h
 refine thn (hi pins s σ H _ I h) fun iv s1 ⟨y,H1,I1,ry,q1⟩=>thn (ho pins s1 σ H1 _ I1 q1) fun u s2 ⟨x,H2,I2,rx,a,ov,ex,g,q2⟩=>?_
 subst ex
 obtain rfl:u=Value.ref a:=rx
 exact d_in hu I2 g ry fun s3 I3=>⟨.bl ov.isSome,H2,I3,rfl,q2⟩
theorem Aj (hu:X.A.units + 1 < cLine) (hi:PE X i ty) (ho:PE X o td):PC X .NotIn i o (ag3 ty td):=by
 intro pins s σ H Q I h
 refine thn (hi pins s σ H _ I h) fun iv s1 ⟨y,H1,I1,ry,q1⟩=>thn (ho pins s1 σ H1 _ I1 q1) fun u s2 ⟨x,H2,I2,rx,a,ov,ex,g,q2⟩=>?_
 subst ex
 obtain rfl:u=Value.ref a:=rx
 exact ap2 hu I2 g ry fun s3 I3=>⟨.bl (!ov.isSome),H2,I3,rfl,q2⟩
theorem ai9 (hu:X.A.units + 1 < cLine) (ho:PE X o td) (hi:PE X i ty) (hv:PE X value tv) (hs:swapsWith value (some (.Subscript o i pos')) pos.line X.env=pure false) :
  PS X (.Assign [.Subscript o i pos'] value pos) (aJ7 td ty tv):=by
 intro pins s σ H D I h
 refine wpAny_Assign_Subscript (thn (hv pins s σ H _ I h) fun r s1 ⟨v,H1,I1,rv,q1⟩=>thn (ho pins s1 σ H1 _ I1 q1) fun u s2 ⟨x,H2,I2,rx,q2⟩=>thn (hi pins s2 σ H2 _ I2 q2) fun iv s3 ⟨y,H3,I3,ry,a,H4,ex,g,q3⟩=>?_) hs
 subst ex
 obtain rfl:u=Value.ref a:=rx
 exact a15 hu I3 g ry rv fun s4 I4=>⟨σ,H4,I4,q3⟩
end
theorem Dq {P:Program} {w:World} {H:Hp} (h:Heap) (hb:sysModules < h.objs.size):U0 P w H (h.push { cls:=.type "dict",data:=.dict #[]}) h.objs.size (.dK []) :=
 ⟨Nat.zero_le _,beq_eq_false_iff_ne.mpr (Ne.symm (Nat.ne_of_lt hb)),[],.nil,Heap.DictOf.new h⟩
noncomputable def aw1:TE:=fun _ H Q=>∀ p,H p=none→Q (.ref p) (upd H p (.dK []))
section
variable {X:Cx} {pos:Pos}
theorem a81:PE X (.Dict [] [] pos) aw1:=fun pins s σ H Q I h =>
 wpAny_Dict_empty ⟨.ref s.heap.objs.size,_,I.laid (a:=s.heap.objs.size) (o:=.dK []) (t':=s.toks) (fun _ _ q=>Heap.get?_push_of_some _ q) (Nat.le_refl _) (Dq s.heap I.big),rfl,h _ (I.hok.fresh (Nat.le_refl _))⟩
end
noncomputable def Gf:List (TE×TE)→St→Hp→(List (V×V)→Hp→Prop)→Prop
 | [],_,H,Q=>Q [] H
 | (tk,tv)::r,σ,H,Q=>tk σ H fun x H1=>tv σ H1 fun y H2=>Gf r σ H2 fun ps H3=>Q ((x,y)::ps) H3
noncomputable abbrev VV:List (V×V)→List (Value×Value)→Prop:=Paired fun p q=>Jv p.1 q.1∧Jv p.2 q.2
noncomputable def PPs (X:Cx) (pos:Pos) (keys:List (Option Expr)) (values:List Expr) (trs:List (TE×TE)):Prop :=
 ∀ (pins:List (Addr×Obj)) (s:Shared) (σ:St) (H:Hp) (Q:List (V×V)→Hp→Prop),Inv X pins σ H s→Gf trs σ H Q →
  wpAny (model X.prog X.w) X.A (evalPairs (pairTrees keys values X.env pos)) (fun vs s'=>∃ ps H',Inv X pins σ H' s'∧VV ps vs∧Q ps H') X.xe s
theorem aj0 {X:Cx} {pos:Pos}:PPs X pos [] [] []:=fun pins s σ H Q I h=>pairTrees_nil_walk ⟨[],H,I,.nil,h⟩
theorem Ea {X:Cx} {pos:Pos} {k v:Expr} {ks:List (Option Expr)} {vs:List Expr} {tk tv:TE} {trs:List (TE×TE)} (hk:PE X k tk) (hv:PE X v tv) (hr:PPs X pos ks vs trs) :
  PPs X pos (some k::ks) (v::vs) ((tk,tv)::trs):=fun pins s σ H Q I h =>
 pairTrees_cons_walk (thn (hk pins s σ H _ I h) fun u s1 ⟨x,H1,I1,rx,q1⟩=>thn (hv pins s1 σ H1 _ I1 q1) fun w2 s2 ⟨y,H2,I2,ry,q2⟩ =>
  thn (hr pins s2 σ H2 _ I2 q2) fun ws s3 ⟨ps,H3,I3,rel,q3⟩=>⟨(x,y)::ps,H3,I3,.cons ⟨rx,ry⟩ rel,q3⟩)
noncomputable def qt (kvs more:List (Key×V)):List (Key×V):=more.foldl (fun acc kv=>Zw acc kv.1 kv.2) kvs
theorem KV.merge:∀ {more:List (Key×V)} {rs:List (Key×Value)} {kvs:List (Key×V)} {vs:List (Key×Value)},KV more rs→KV kvs vs→KV (qt kvs more) (merged vs rs):=by
 intro more rs kvs vs r
 unfold KV at r
 induction r generalizing kvs vs with
 | nil=>intro q;exact q
 | @cons p q ps qs h t ih =>
  intro r0
  have e:KV (Zw kvs p.1 p.2) (stored vs q.1 q.2):=by
   have:=r0.put p.1 h.2
   rw [← h.1];exact this
  exact ih e
theorem Qi:∀ (more kvs:List (Key×V)),(qt kvs more).length≤kvs.length + more.length
 | [],kvs=>by show kvs.length≤kvs.length + 0;omega
 | p::r,kvs=>by
  have h1:=Qi r (Zw kvs p.1 p.2)
  have h2:=qp kvs p.1 p.2
  show (qt (Zw kvs p.1 p.2) r).length≤_
  rw [List.length_cons];omega
theorem Kg {P:Program} {w:World}:∀ {kvs:List (Key×V)} {ws:List (Value×Value)},VV (kvs.map fun kv=>(kV kv.1,kv.2)) ws→∃ rs,Carries (Jn P w) ws rs∧KV kvs rs
 | [],_,r=>by rw [List.map_nil] at r;cases r;exact ⟨[],True.intro,.nil⟩
 | p::kvs,_,r=>by
  rw [List.map_cons] at r
  cases r with
  | @cons a b as bs h t =>
   obtain ⟨rs,c,q⟩:=Kg (P:=P) (w:=w) t
   obtain ⟨b1,b2⟩:=b
   exact ⟨(p.1,b2)::rs,⟨qm h.1,rfl,c⟩,.cons ⟨rfl,h.2⟩ q⟩
noncomputable def aI4 (trs:List (TE×TE)):TE:=fun σ H Q=>∀ p,H p=none→Gf trs σ (upd H p (.dK [])) fun ps H2=>H2 p=some (.dK [])∧∃ kvs:List (Key×V),ps=kvs.map (fun kv=>(kV kv.1,kv.2))∧kvs.length≤15∧Q (.ref p) (upd H2 p (.dK (qt [] kvs)))
theorem B9 {X:Cx} {pos:Pos} {keys:List (Option Expr)} {values:List Expr} {trs:List (TE×TE)} (h:PPs X pos keys values trs) (hall:keys.all (·.isSome)=true) (hl:keys.length=values.length) (h0:keys≠[])
  (h15:keys.length≤15):PE X (.Dict keys values pos) (aI4 trs):=by
 intro pins s σ H Q I q
 have hn:=I.hok.fresh (Nat.le_refl s.heap.objs.size)
 have I1:=I.laid (a:=s.heap.objs.size) (o:=.dK []) (h':=s.heap.push { cls:=.type "dict",data:=.dict #[]}) (t':=s.toks) (fun _ _ q=>Heap.get?_push_of_some _ q) (Nat.le_refl _) (Dq s.heap I.big)
 refine wpAny_Dict_walk (knd:=Jn X.prog X.w) hall hl h0 h15 (thn (h pins _ σ _ _ I1 (q _ hn)) fun ws s2 ⟨ps,H2,I2,rel,e,kvs,ep,lk,q2⟩=>?_)
 subst ep
 obtain ⟨rs,c,rk⟩:=Kg (P:=X.prog) (w:=X.w) rel
 obtain ⟨z,hd,vs0,r0,dd⟩:=au0 I2.hok e
 cases r0
 refine ⟨rs,c,dd,fun h' dd' hs=>⟨.ref s.heap.objs.size,_,?_,rfl,q2⟩⟩
 have hz:(qt [] kvs).length≤sizeLine:=by
  have h1:=Qi kvs []
  rw [List.length_nil] at h1
  rw [sizeLine_eq];omega
 have he:∃ q,h'.get? s.heap.objs.size=some q:=let ⟨q,_,_,hq,_⟩:=dd';⟨q,hq⟩
 exact E2 I2 (by rw [e];exact True.intro) hs he (dk_new hz hd (rk.merge .nil) dd')
structure M2 (X:Cx) (o:Expr) (m:Str) (apos:Pos) (e f:Expr) (cpos:Pos):Prop where
 base:attributeBase o m X.env (eval o X.env)=eval o X.env
 few:((backTo cpos (starEach [e,f] X.env)).all (fun x=> !x.1) && (backToKw cpos (keywordEach [] X.env)).all (fun x=>x.1.isSome)
  && decide (([e,f]:List Expr).length + ([]:List Keyword).length + (if ([]:List Keyword).isEmpty then 0 else 1) < 30))=true
 line:(apos.endLine == cpos.line)=true
 trees:backTo cpos (starEach [e,f] X.env)=[(false,eval e X.env),(false,eval f X.env)]
noncomputable def IsD (H:Hp) (a:Addr):Prop:=(∃ kvs,Rd H a (.dK kvs))∨∃ kvs,Rd H a (.dT kvs)
theorem aE4 {X:Cx} {pins:List (Addr×Obj)} {σ:St} {H:Hp} {s:Shared} {a:Addr} (I:Inv X pins σ H s) (d:IsD H a) :
  s.TypeIs (.ref a) "dict"∧(∀ b,Value.ref a=.ref b→∃ ob,s.heap.get? b=some ob∧ob.dict=none)∧(a == sysModules)=false:=by
 rcases d with ⟨kvs,e⟩ | ⟨kvs,e⟩
 ·obtain ⟨_,hd,vs,_,dd⟩:=Wh I.hok e
  refine ⟨dd.typeIs,fun b q=>?_,hd⟩
  cases q
  obtain ⟨ob,_,_,h1,h2,_⟩:=dd
  exact ⟨ob,h1,h2.2.1⟩
 ·obtain ⟨_,hd,xs,_,dd⟩:=Km I.hok e
  refine ⟨dd.typeIs,fun b q=>?_,hd⟩
  cases q
  obtain ⟨ob,_,_,h1,h2,_⟩:=dd
  exact ⟨ob,h1,h2.2.1⟩
section
variable {X:Cx} {pins:List (Addr×Obj)} {σ:St} {H:Hp} {s:Shared} {a:Addr} {y d:V} {u r:Value} {o:Option V} {A:Around} {E:Value→Shared→Prop}
theorem aF9 {Q:Value→Shared→Prop} (hu:A.units + 1 < cLine) (I:Inv X pins σ H s) (g:Zm H a y o) (ry:Jv y u) (rd:Jv d r) (h:∀ w' s',Inv X pins σ H s'→Jv (o.getD d) w'→Q w' s') :
  wpAny (model X.prog X.w) A (call (.builtin "dict.get") [.ref a,u,r]) Q E s:=by
 rcases g with ⟨kvs,k,e,ey,l⟩ | ⟨kvs,k,b,e,ey,eb,l⟩
 ·subst ey
  obtain ⟨z,hd,vs,rel,dd⟩:=Wh I.hok e
  refine call_meetsIn PySem.F.slot_dict_get dd.typeIs PySem.F.entry_dict_get (PySem.F.args_dict_get_3 _ _ _) (meets_dict_get_default (Jn X.prog X.w) a (qm ry) hd r) ⟨_,dd.mapOf,h _ _ (I.tok _) ?_⟩
  rw [l]
  exact (rel.val k).getD rd
 ·subst ey
  cases (show u=Value.ref b from ry)
  obtain ⟨z,hd,xs,rel,dd⟩:=Km I.hok e
  refine call_meetsIn PySem.F.slot_dict_get dd.typeIs PySem.F.entry_dict_get (PySem.F.args_dict_get_3 _ _ _) (meetsH_dict_get_default (tupleKind (Jn X.prog X.w)) a b hd r) ⟨tupleKind_room_in1 hu,k,xs,we I.hok eb,dd,h _ _ (I.tok _) ?_⟩
  rw [l]
  exact (rel.val k).getD rd
end
noncomputable def aw2 (td ty tx:TE):TE:=fun σ H Q=>td σ H fun x H1=>∃ a,x=.ref a∧IsD H1 a∧ty σ H1 fun y H2=>tx σ H2 fun z H3=>∃ o,Zm H3 a y o∧Q (o.getD z) H3
section
variable {X:Cx} {o e f:Expr} {apos cpos:Pos} {td ty tx:TE}
theorem a82 (hu:X.A.units + 1 < cLine) (ho:PE X o td) (he:PE X e ty) (hf:PE X f tx) (m:M2 X o "get" apos e f cpos):PE X (.Call (.Attribute o "get" apos) [e,f] [] cpos) (aw2 td ty tx):=by
 intro pins s σ H Q I h
 refine wpAny_Call_method m.base m.few m.line PySem.F.plainAttrs_dict PySem.F.slot_dict_get PySem.F.type_dict_get (thn (ho pins s σ H _ I h) fun u s1 ⟨x,H1,I1,rx,a,ex,d,q1⟩=>?_)
 subst ex
 obtain rfl:u=Value.ref a:=rx
 obtain ⟨t1,t2,_⟩:=aE4 I1 d
 refine ⟨t1,t2,?_⟩
 rw [m.trees]
 refine Calls.callWith_builtin rfl (Calls.evalArgs_plain (Calls.spliced_cons (thn (he pins s1 σ H1 _ I1 q1) fun iv s2 ⟨y,H2,I2,ry,q2⟩ =>
  Calls.spliced_cons (thn (hf pins s2 σ H2 _ I2 q2) fun fv s3 ⟨z,H3,I3,rz,ov,g,q3⟩=>Calls.spliced_nil ?_))))
 exact aF9 hu I3 g ry rz fun w' s4 I4 rw'=>⟨_,H3,I4,rw',q3⟩
end
section
variable {X:Cx} {pins:List (Addr×Obj)} {σ:St} {H:Hp} {s:Shared} {a:Addr} {kvs:List (Key×V)} {A:Around} {E:Value→Shared→Prop}
end
section
variable {X:Cx} {pins:List (Addr×Obj)} {σ:St} {H:Hp} {s:Shared} {a:Addr} {y:V} {u:Value} {A:Around} {E:Value→Shared→Prop}
end
end L2
namespace Att
open PySem PySem.W PySem.Calls PyProof.Rows
theorem Wb {P:Params} {h:Heap}:∀ (ns:List Int) (vs:List Value),WellAll P h vs (ns.map WData.int)→IntsAre vs ns:=by
 intro ns
 induction ns with
 | nil =>
  intro vs w
  rw [List.map_nil] at w
  cases w
  exact .nil
 | cons n ns ih =>
  intro vs w
  rw [List.map_cons] at w
  cases w with
  | cons a b =>
   cases a
   exact .cons _ _ (ih _ b)
theorem Ap {l:OpenLaw} {n:Nat} (hn:l.most=some n) {P:Params} {h:Heap} {args:List WData} {vals:List Value}
  (hpre:l.row.toRowW.claim.pre args=true) (hwl:WellAll P h vals args) :
  ∃ a vs ns,vals=[Value.ref a]∧args=[WData.list (ns.map WData.int)]∧h.get? a=some { cls:=.type "list",data:=.seq vs.toArray}∧IntsAre vs ns∧ns.length≤n:=by
 have hsh:WShape.hasAll [] args [.list .int]=true:=(pre_splitW hpre).1
 have hc:l.pre.holds [] { args:=args}=true:=(pre_splitW hpre).2
 obtain ⟨d,r,rfl,h1,h2⟩:=hasAllW_cons hsh
 obtain rfl:=hasAllW_nil h2
 obtain ⟨xs,rfl,h3⟩:=hasW_list h1
 obtain ⟨ns,rfl⟩:=items_int h3
 have hlen:ns.length≤n:=by
  unfold OpenLaw.pre at hc
  have h4:(WTm.not (.lt (.lit (.int (n:Int))) (.len (.arg 0)))).holds [] { args:=[.list (ns.map .int)]}=true:=by
   have h4:=(holds_andW hc).1
   rw [hn] at h4
   exact h4
  have h5:=condW_of h4 (w_not (w_lt w_lit (w_len_list (w_arg rfl))))
  rw [List.length_map] at h5
  refine Nat.le_of_not_lt fun q=>?_
  have q':(n:Int) < ((ns.length:Nat):Int):=by omega
  first
   | (rw [decide_eq_true q'] at h5;exact absurd h5 (by decide))
   | (simp at h5;omega)
 cases hwl with
 | cons w1 w2 =>
  cases w2
  cases w1 with
  | list ho hall=>exact ⟨_,_,ns,rfl,rfl,ho,Wb ns _ hall,hlen⟩
theorem Am (l:OpenLaw) (args:List WData):l.row.toRowW.claim.post args (.bool true) args=true :=
 postW_of (r:=l.row.toRowW) (X:=(true == true))
  (show WShape.has [] (.bool true) .bool=true by first | rfl | decide | simp [WShape.has,WShape.arms,WShape.armsAll])
  (show (WTm.eq .res (.lit (.bool true))).value [] { args:=args,res:=some (.bool true),after:=args}=some (.bool (true == true)) from w_eq_bool (w_res rfl) w_lit) rfl
theorem attach_call {l:OpenLaw} {n:Nat} {q:Program} {loose:List Str} {XP:(Str→Option Value)→Heap→Prop} {YP:World→Heap→Prop} {d:DefRec}
  (hn:l.most=some n) (hdf:d.params.defaults=[])
  (call:∀ (w:World) (s₀ s₁:Shared) (mg mb:Str→Option Value) (fa:Addr) (o:Obj) (pm cd doc:Value) (a:Addr) (vs:List Value) (ns:List Int),
   Ground q loose [] XP w s₀ mg mb s₁.heap→YP w s₁.heap →
   s₁.heap.get? fa=some o→o.data=.func (docDef d.name d.params d.body d.scope pm cd doc)→s₁.heap.CodeRec cd d.name→mg d.name=some (.ref fa) →
   s₁.heap.get? a=some { cls:=.type "list",data:=.seq vs.toArray}→IntsAre vs ns→ns.length≤n→s₁.gens= #[] →
   codeAny (model l.prog w) callerA (.call (.ref fa) ⟨[.ref a],[]⟩) (fun r s'=>r=.ok (.ret (.bool true))∧OldK s₁.heap s'.heap∧s'.os=s₁.os∧AllBare s'.gens) s₁) :
  WalkO q loose XP YP l.row.toRowW d [] (fun f vs=>PySem.call f vs):=by
 intro w s₀ s₁ mg mb G Y fa o pm cd doc dV kV ho hd hcd hD hmg hg args vals as hpre hlay hrd hwl hlo
 obtain rfl:dV=.none:=Dflts.none hD hdf
 obtain rfl:kV=.none:=Dflts.noKw hD
 obtain ⟨a,vs,ns,rfl,rfl,hobj,hints,hlen⟩:=Ap hn hpre hwl
 refine enter_call (codeAny_mono (call w s₀ s₁ mg mb fa o pm cd doc a vs ns G Y ho (fd_plain hd) hcd hmg hobj hints hlen hg) fun r s' hq=>?_)
 obtain ⟨rfl,h2,h3,h4⟩:=hq
 exact ⟨.inl ⟨.bool true,.bool true,[],rfl,fun _=>rfl,.bool true,Am l _,fun _=>⟨List.Pairwise.nil,fun _ hm=>(nomatch hm)⟩⟩,h2,h3,h4⟩
section
variable {prog:Program} {w:World} {A:Around} {E:Value→Shared→Prop} {s:Shared} {K:Frag}
end
end Att
namespace L2
open PySem PySem.Spec PyProof.Rows
theorem ge:∀ {vs:List Value} {ns:List Int},IntsAre vs ns→J7 (ns.map V.int) vs
 | _,_,.nil=>.nil
 | _,_,.cons n t h=>.cons ⟨t,rfl⟩ (ge h)
noncomputable def aG9 (H:Hp):Prop:=∀ b,H b=none∨∃ o xs,H b=some (.frz o (.lst xs))
theorem ab6 {P:Program} {w:World} {K:PySem.W.Frag} {mg mb:Str→Option Value} {CX:CXT} {k:Nat} {fa a:Addr} {fd:FuncData} {x:Str} {sp:Sp} {s₁:Shared} {vs:List Value} {ns:List Int}
  (KX:K.In s₁.heap) (hns:s₁.heap.Ns mainGlobals mg) (hb:s₁.heap.Ns builtinsNs mb) (hbb:∀ x:Str,x≠"__name__"→mb x=bootBuiltins x) (hlim:s₁.heap.NoLimit) (hg:s₁.gens= #[])
  (ha:s₁.heap.get? a=some { cls:=.type "list",data:=.seq vs.toArray}) (hi:IntsAre vs ns) (hl:ns.length≤sizeLine) (hr:Room k callerA)
  (F:∀ base:Heap,K.In base→base.Ns mainGlobals mg→FnOk P w K mg base CX k fa fd [x] sp) (hbind:∀ (s:Shared) (u:Value),BindsTo s fd ⟨[u],[]⟩ [(x,u)])
  (hsp:∀ H:Hp,aG9 H→SqL K H a (ns.map V.int)→sp [.ref a] H (fun v _=>v=.bl true) fun _ _ _=>False)
  (hCX:∀ H e s',CX [] H s₁ (fun _ _ _=>False) e s'→False) :
  codeAny (model P w) callerA (.call (.ref fa) ⟨[.ref a],[]⟩) (fun r s'=>r=.ok (.ret (.bool true))∧OldK s₁.heap s'.heap∧s'.os=s₁.os∧AllBare s'.gens) s₁:=by
 have rv:=ge hi
 have lenV:=hi.length
 have core:∀ H:Hp,aG9 H→SqL K H a (ns.map V.int)→HOk P w H s₁.heap→(∀ b,H b≠none→b=a)→(H a≠none→K.lookup a=none) →
   codeAny (model P w) callerA (.call (.ref fa) ⟨[.ref a],[]⟩) (fun r s'=>r=.ok (.ret (.bool true))∧OldK s₁.heap s'.heap∧s'.os=s₁.os∧AllBare s'.gens) s₁:=by
  intro H hO hS hok hA hK
  have base_of:∀ {b:Addr} {o:Obj},s₁.heap.get? b=some o→H b=none→(Fz s₁.heap H).get? b=some o:=fun e n=>ac6 e n
  have noA:∀ {b:Addr} {o:Obj} {es:Array DictEntry} {ep:Nat},s₁.heap.get? b=some o→o.data=.dict es ep→H b=none:=fun {b o es ep} e d=>by
   cases q:H b with
   | none=>rfl
   | some u =>
    have e':b=a:=hA b (by rw [q];simp)
    subst e'
    rw [ha] at e;cases e
    have d':Data.seq vs.toArray _=Data.dict es ep:=d
    cases d'
  have nsK:∀ {b:Addr} {m:Str→Option Value},s₁.heap.Ns b m→(Fz s₁.heap H).Ns b m:=fun {b m} ⟨o,es,ep,e,d,r⟩=>⟨o,es,ep,base_of e (noA e d),d,r⟩
  have hKb:K.In (Fz s₁.heap H):=fun b o e=>base_of (KX b o e) (by
   cases q:H b with
   | none=>rfl
   | some u =>
    have e':b=a:=hA b (by rw [q];simp)
    subst e'
    rw [hK (by rw [q];simp)] at e;cases e)
  have hM:Mod K mg (Fz s₁.heap H):=⟨hKb,nsK hns,⟨mb,nsK hb,hbb⟩,let ⟨mc,h1,h2⟩:=hlim;⟨mc,nsK h1,h2⟩⟩
  have e0:Env0 P w K mg (Fz s₁.heap H) callerA [] s₁ H:=⟨rfl,hM,fun b o e=>am0 e,Nat.le_of_eq (a11 _ _),trivial,fun b hb=>absurd (show b∈([]:List Addr) from hb) (by simp),hok,.of_eq hg⟩
  refine codeAny_mono ((F _ hKb (nsK hns)).run callerA [] s₁ H ⟨[.ref a],[]⟩ [.ref a] [.ref a] _ _ hr e0 (hbind s₁ (.ref a)) (.cons rfl .nil) (hsp H hO hS)) fun r s' h=>?_
  cases r with
  | error e=>exact (hCX H e s' h).elim
  | ok fl =>
   cases fl with
   | next=>exact False.elim h
   | brk=>exact False.elim h
   | cont=>exact False.elim h
   | ret u =>
    obtain ⟨v,H',os,bare,un,hok',r',q⟩:=h
    have q':v=.bl true:=q
    subst q'
    obtain rfl:u=Value.bool true:=r'
    refine ⟨rfl,OldK.of_keep fun b o e=>?_,os,bare⟩
    cases q:H b with
    | none=>exact un.keep b o e q (by intro z;exact absurd (show b∈([]:List Addr) from z) (by simp)) (by simp)
    | some u =>
     rcases hO b with z | ⟨ob,xs,z⟩
     ·rw [q] at z;cases z
     ·have z2:=un.frzs b ob _ z
      obtain ⟨e1,_⟩:=hok b _ z
      obtain ⟨e2,_⟩:=hok' b _ z2
      rw [e] at e1;cases e1
      exact e2
 cases hk:K.lookup a with
 | some o =>
  have e:=KX a o hk
  rw [ha] at e
  cases e
  refine core (fun _=>none) (fun _=>.inl rfl) (.inr ⟨_,vs.toArray,_,hk,rfl,rfl,rfl,by rw [List.size_toArray,lenV];exact hl,by simpa using rv⟩) (fun b u z=>by have z':(none:Option HO)=some u:=z;cases z') (fun b z=>absurd rfl z) fun z=>absurd rfl z
 | none =>
  refine core (fun b=>if b=a then some (.frz { cls:=.type "list",data:=.seq vs.toArray} (.lst (ns.map V.int))) else none) (fun b=>?_) (.inl (.inr ⟨{ cls:=.type "list",data:=.seq vs.toArray},if_pos rfl⟩)) (fun b u z=>?_) (fun b z=>?_) fun _=>hk
  ·by_cases hb:b=a
   ·exact .inr ⟨_,_,if_pos hb⟩
   ·exact .inl (if_neg hb)
  ·by_cases hb:b=a
   ·have z':=(if_pos hb).symm.trans z
    cases z'
    subst hb
    exact ⟨ha,by rw [List.length_map];exact hl,vs,_,rv,ha⟩
   ·have z':=(if_neg hb).symm.trans z
    cases z'
  ·by_cases hb:b=a
   ·exact hb
   ·exact absurd (if_neg hb) z
end L2
namespace L2
open PySem PySem.Spec PyProof.Rows
theorem walk_of {l:PySem.W.OpenLaw} {n k:Nat} {q:Program} {loose:List Str} {XP:(Str→Option Value)→Heap→Prop} {YP:World→Heap→Prop} {d:DefRec} {K:Params→PySem.W.Frag} {CX:World→CXT} {sp:World→Sp} {x:Str}
  (hn:l.most=some n) (hn2:n≤sizeLine) (hdf:d.params.defaults=[]) (hr:Room k callerA)
  (hY:∀ (w:World) (h:Heap),YP w h→(K w.params).In h)
  (F:∀ (w:World) (mg:Str→Option Value) (fa:Addr) (h:Heap),(K w.params).In h→h.Ns mainGlobals mg→mg d.name=some (.ref fa) →
   ∃ fd:FuncData,(∀ (s:Shared) (u:Value),BindsTo s fd ⟨[u],[]⟩ [(x,u)]) ∧
    ∀ base:Heap,(K w.params).In base→base.Ns mainGlobals mg→FnOk l.prog w (K w.params) mg base (CX w) k fa fd [x] (sp w))
  (hsp:∀ (w:World) (H:Hp) (a:Addr) (ns:List Int),ns.length≤n→aG9 H→SqL (K w.params) H a (ns.map V.int)→sp w [.ref a] H (fun v _=>v=.bl true) fun _ _ _=>False)
  (hCX:∀ (w:World) (H:Hp) (s:Shared) (e:Value) (s':Shared),CX w [] H s (fun _ _ _=>False) e s'→False) :
  PySem.W.WalkO q loose XP YP l.row.toRowW d [] (fun f vs=>PySem.call f vs):=by
 refine Att.attach_call hn hdf fun w s₀ s₁ mg mb fa o pm cd doc a vs ns G Y ho hd hcd hmg hobj hints hlen hg=>?_
 have KX:=hY w _ Y
 obtain ⟨fd,hb,hF⟩:=F w mg fa _ KX G.T.g hmg
 exact ab6 KX G.T.g G.T.b G.T.builtins G.T.nolimit hg hobj hints (Nat.le_trans hlen hn2) hr hF hb (fun H hO hS=>hsp w H a ns hlen hO hS) fun H e s'=>hCX w H s₁ e s'
end L2
namespace L2
open PySem PySem.Spec PyProof.Rows
noncomputable def defArgs (s:Stmt):Arguments:=match s with
 | .FunctionDef _ a _ _ _ _ _ _ _ _=>a
 | _=>{ posonlyargs:=[],args:=[],vararg:=none,kwonlyargs:=[],kw_defaults:=[],kwarg:=none,defaults:=[]}
noncomputable def defBody (s:Stmt):List Stmt:=match s with
 | .FunctionDef _ _ b _ _ _ _ _ _ _=>b
 | _=>[]
noncomputable def defScope (s:Stmt):Scope:=match s with
 | .FunctionDef _ _ _ _ _ _ sc _ _ _=>sc
 | _=>{ kind:=.function,names:=[],isGenerator:=false,isCoroutine:=false}
noncomputable abbrev CX0:CXT:=fun _ _ _ _ _ _=>False
noncomputable abbrev E0:XK:=fun _ _ _=>False
theorem a86 {X:Cx}:Wz CX0 X E0:=fun _ _ _ _ _ _ _ h=>h.elim
structure Fun (K:PySem.W.Frag) (x qual:Str) (st:Stmt) (f:Addr) (fd:FuncData):Prop where
 ex:∃ (oc:Value) (od:Option Addr) (kV doc pm:Value) (an:Option Addr) (cdv ct:Value) (osl:Array (Option Value)),
  fd=PySem.W.fnOf x qual (defArgs st) (defBody st) (defScope st) .none kV doc pm an cdv ct∧K.lookup f=some ⟨oc,od,.func fd,osl⟩∧PySem.W.codeIn K cdv qual=true
 kp:PySem.W.keepIn K (.ref f)=true
section
variable {P:Program} {w:World} {K:PySem.W.Frag} {mg:Str→Option Value} {base:Heap}
theorem Fun.ok {x qual:Str} {st:Stmt} {f:Addr} {fd:FuncData} {N ps:List Str} {k:Nat} {sp:Sp} (F:Fun K x qual st f fd) (S:FnScope N ps (defScope st)) (len:∀ vs H Q E,sp vs H Q E→vs.length=ps.length)
  (hbody:∀ (cdv:Value) (A:Around) (outer:List Env) (s:Shared) (H:Hp) (vs:List V) (Q:VK) (E:XK),Room k (A.deeper (envOfC qual (defScope st) s.heap.objs.size f cdv))→sp vs H Q E →
   ∃ t,PSs (Wa CX0 P w K mg base N qual (defScope st) f cdv A outer s H E).nox (defBody st) t∧t { nx:=fun _ H'=>Q .non H',rt:=Q} (start N vs) H):FnOk P w K mg base CX0 (k + 1) f fd ps sp:=by
 obtain ⟨oc,od,kV,doc,pm,an,cdv,ct,osl,rfl,lk,hcd⟩:=F.ex
 refine aP9 lk hcd S len fun A outer s H vs Q E hr hsp=>?_
 obtain ⟨t,h,q⟩:=hbody cdv A outer s H vs Q E hr hsp
 exact ⟨t,h.nox,q⟩
theorem ad6 {x qual:Str} {st:Stmt} {f:Addr} {oc:Value} {od an:Option Addr} {osl:Array (Option Value)} {kV doc pm cdv ct:Value} (l:K.lookup f=some ⟨oc,od,.func (PySem.W.fnOf x qual (defArgs st) (defBody st) (defScope st) .none kV doc pm an cdv ct),osl⟩)
  (c:PySem.W.codeIn K cdv qual=true) (k:PySem.W.keepIn K (.ref f)=true):Fun K x qual st f (PySem.W.fnOf x qual (defArgs st) (defBody st) (defScope st) .none kV doc pm an cdv ct):=⟨⟨oc,od,kV,doc,pm,an,cdv,ct,osl,rfl,l,c⟩,k⟩
end
section
variable {X:Cx}
theorem pv (i:Nat) {x:Str} {pos:Pos} (hN:X.N[i]? =some x:=by rfl) (hv:Vis X.env.scope x:=by first | exact Or.inl rfl | exact Or.inr (Or.inl rfl) | exact Or.inr (Or.inr rfl)) (hd:(x == ("__debug__":Str))=false:=by decide)
  (hcd:(x == ("__classdict__":Str))=false:=by decide):PE X (.Name x pos) (av9 i):=a75 hN hv hd hcd
end
noncomputable def J9 (H H':Hp):Prop:=∀ b o,H b=some o→H' b=some o
theorem J9.refl (H:Hp):J9 H H:=fun _ _ h=>h
theorem J9.trans {H H1 H2:Hp} (a:J9 H H1) (b:J9 H1 H2):J9 H H2:=fun c o h=>b c o (a c o h)
theorem J9.seq {K:PySem.W.Frag} {H H':Hp} {a:Addr} {xs:List V} (e:J9 H H') (h:SqL K H a xs):SqL K H' a xs:=by
 rcases h with (h | ⟨o,h⟩) | h
 ·exact .inl (.inl (e _ _ h))
 ·exact .inl (.inr ⟨o,e _ _ h⟩)
 ·exact .inr h
end L2
set_option Elab.async false
set_option linter.all false
set_option maxRecDepth 100000
set_option maxHeartbeats 4000000
namespace M
open PySem PySem.Spec PyProof.Rows L2
noncomputable abbrev DK:=Sum Int (List Nat)
inductive D where
 | non | bl (b:Bool) | int (i:Int) | str (x:List Nat) | tup (xs:List D) | lst (xs:List D) | dic (ks:List DK) (vs:List D) | ref (k:Nat)
noncomputable def dk:DK→Key
 | .inl i=>.inl i
 | .inr x=>.inr ⟨x.toArray⟩
inductive Cell where
 | lst (ds:List D) | dic (ks:List DK) (vs:List D) | dead
 | exn (c:Str) (j:Nat) | xdc (nm:Str) (d:D) | obj (c:Str) (ns:List Str) (ds:List D)
noncomputable abbrev Mu:=List Cell
structure Exc where
 c:Nat
 d:D
inductive Res (α:Type) where
 | ok (a:α) (μ:Mu)
 | exc (x:Exc) (μ:Mu)
 | bad
noncomputable def Res.bind {α β:Type}:Res α→(α→Mu→Res β)→Res β
 | .ok a μ,f=>f a μ
 | .exc x μ,_=>.exc x μ
 | .bad,_=>.bad
noncomputable def ofO {α:Type} (μ:Mu):Option α→Res α
 | some a=>.ok a μ
 | none=>.bad
@[simp] theorem bind_ok {α β:Type} (a:α) (μ:Mu) (f:α→Mu→Res β):(Res.ok a μ).bind f=f a μ:=rfl
@[simp] theorem bind_exc {α β:Type} (x:Exc) (μ:Mu) (f:α→Mu→Res β):(Res.exc x μ:Res α).bind f=.exc x μ:=rfl
@[simp] theorem bind_bad {α β:Type} (f:α→Mu→Res β):(Res.bad:Res α).bind f=.bad:=rfl
@[simp] theorem ofO_some {α:Type} (μ:Mu) (a:α):ofO μ (some a)=.ok a μ:=rfl
@[simp] theorem ofO_none {α:Type} (μ:Mu):ofO μ (none:Option α)=.bad:=rfl
noncomputable def j8 (μ:Mu):D→D
 | .ref k=>match μ[k]? with
  | some (.lst ds)=>.lst ds
  | some (.dic ks vs)=>.dic ks vs
  | _=>.ref k
 | d=>d
@[simp] theorem deref_non (μ:Mu):j8 μ .non=.non:=rfl
@[simp] theorem deref_bl (μ:Mu) (b:Bool):j8 μ (.bl b)=.bl b:=rfl
@[simp] theorem deref_int (μ:Mu) (i:Int):j8 μ (.int i)=.int i:=rfl
@[simp] theorem deref_str (μ:Mu) (x:List Nat):j8 μ (.str x)=.str x:=rfl
@[simp] theorem deref_tup (μ:Mu) (x:List D):j8 μ (.tup x)=.tup x:=rfl
@[simp] theorem deref_lst (μ:Mu) (x:List D):j8 μ (.lst x)=.lst x:=rfl
@[simp] theorem deref_dic (μ:Mu) (x:List DK) (y:List D):j8 μ (.dic x y)=.dic x y:=rfl
noncomputable abbrev En:=List (Option D)
noncomputable abbrev MX:=En→Mu→Res D
noncomputable abbrev MB:=En→Mu→Res Bool
noncomputable abbrev MAs:=En→Mu→Res (List D)
inductive Out where
 | nx (ρ:En) | rt (d:D) | bk (ρ:En) | ct (ρ:En)
noncomputable abbrev MSt:=En→Mu→Res Out
mutual
noncomputable def Rep (K:PySem.W.Frag) (F:Hp) (α:List Addr):D→V→Prop
 | .non,v=>v=.non
 | .bl b,v=>v=.bl b
 | .int i,v=>v=.int i
 | .str x,v=>v=.str ⟨x.toArray⟩
 | .tup ds,v=>∃ a vs,v=.ref a∧SqT K F a vs∧Reps K F α ds vs
 | .lst ds,v=>∃ a vs,v=.ref a∧SqL K F a vs∧Reps K F α ds vs
 | .dic ks ds,v=>∃ a vs,v=.ref a∧F a=some (.dK ((ks.map dk).zip vs))∧ks.length=ds.length∧Reps K F α ds vs
 | .ref k,v=>∃ a,α[k]? =some a∧v=.ref a
noncomputable def Reps (K:PySem.W.Frag) (F:Hp) (α:List Addr):List D→List V→Prop
 | [],vs=>vs=[]
 | d::ds,vs=>∃ v r,vs=v::r∧Rep K F α d v∧Reps K F α ds r
end
structure Ext (α:List Addr) (F:Hp) (α':List Addr) (F':Hp):Prop where
 fr:J9 F F'
 al:∀ (k:Nat) (a:Addr),α[k]? =some a→α'[k]? =some a
theorem Ext.refl (α:List Addr) (F:Hp):Ext α F α F:=⟨J9.refl F,fun _ _ h=>h⟩
theorem Ext.trans {α α1 α2:List Addr} {F F1 F2:Hp} (a:Ext α F α1 F1) (b:Ext α1 F1 α2 F2):Ext α F α2 F2:=⟨a.fr.trans b.fr,fun k x h=>b.al k x (a.al k x h)⟩
theorem J9.tup {K:PySem.W.Frag} {H H':Hp} {a:Addr} {xs:List V} (e:J9 H H') (h:SqT K H a xs):SqT K H' a xs:=by
 rcases h with (h | ⟨o,h⟩) | h
 ·exact .inl (.inl (e _ _ h))
 ·exact .inl (.inr ⟨o,e _ _ h⟩)
 ·exact .inr h
section
variable {K:PySem.W.Frag} {F F' H H':Hp} {α α':List Addr}
mutual
theorem Rep.mono (e:Ext α F α' F'):∀ {d:D} {v:V},Rep K F α d v→Rep K F' α' d v
 | .non,_,h=>h
 | .bl _,_,h=>h
 | .int _,_,h=>h
 | .str _,_,h=>h
 | .tup ds,v,h=>by
  unfold Rep at h ⊢
  obtain ⟨a,vs,hv,hs,hr⟩:=h
  exact ⟨a,vs,hv,J9.tup e.fr hs,Reps.mono e hr⟩
 | .lst ds,v,h=>by
  unfold Rep at h ⊢
  obtain ⟨a,vs,hv,hs,hr⟩:=h
  exact ⟨a,vs,hv,e.fr.seq hs,Reps.mono e hr⟩
 | .dic ks ds,v,h=>by
  unfold Rep at h ⊢
  obtain ⟨a,vs,hv,hs,hl,hr⟩:=h
  exact ⟨a,vs,hv,e.fr _ _ hs,hl,Reps.mono e hr⟩
 | .ref k,v,h=>by
  unfold Rep at h ⊢
  obtain ⟨a,ha,hv⟩:=h
  exact ⟨a,e.al k a ha,hv⟩
theorem Reps.mono (e:Ext α F α' F'):∀ {ds:List D} {vs:List V},Reps K F α ds vs→Reps K F' α' ds vs
 | [],_,h=>h
 | d::ds,vs,h=>by
  unfold Reps at h ⊢
  obtain ⟨v,r,hv,h1,h2⟩:=h
  exact ⟨v,r,hv,Rep.mono e h1,Reps.mono e h2⟩
end
theorem Reps.length:∀ {ds:List D} {vs:List V},Reps K F α ds vs→ds.length=vs.length
 | [],vs,h=>by unfold Reps at h;subst h;rfl
 | d::ds,vs,h=>by
  unfold Reps at h
  obtain ⟨v,r,hv,_,h2⟩:=h
  subst hv
  simp [Reps.length h2]
theorem Reps.get:∀ {ds:List D} {vs:List V} {i:Nat} {d:D},Reps K F α ds vs→ds[i]? =some d→∃ v,vs[i]? =some v∧Rep K F α d v
 | [],_,_,_,_,e=>by simp at e
 | d::ds,vs,0,d',h,e=>by
  unfold Reps at h
  obtain ⟨v,r,hv,h1,_⟩:=h
  subst hv
  simp at e
  subst e
  exact ⟨v,rfl,h1⟩
 | d::ds,vs,i + 1,d',h,e=>by
  unfold Reps at h
  obtain ⟨v,r,hv,_,h2⟩:=h
  subst hv
  obtain ⟨u,hu,hr⟩:=Reps.get (i:=i) (d:=d') h2 (by simpa using e)
  exact ⟨u,by simpa using hu,hr⟩
theorem Reps.append:∀ {ds es:List D} {vs us:List V},Reps K F α ds vs→Reps K F α es us→Reps K F α (ds++es) (vs++us)
 | [],_,_,_,h,h'=>by unfold Reps at h;subst h;exact h'
 | d::ds,es,vs,us,h,h'=>by
  unfold Reps at h
  obtain ⟨v,r,hv,h1,h2⟩:=h
  subst hv
  show Reps K F α (d::(ds++es)) (v::(r++us))
  unfold Reps
  exact ⟨v,_,rfl,h1,Reps.append h2 h'⟩
theorem jy:Reps K F α [] []:=by unfold Reps;rfl
theorem j4 {d:D} {ds:List D} {v:V} {vs:List V} (h:Rep K F α d v) (h':Reps K F α ds vs):Reps K F α (d::ds) (v::vs):=by unfold Reps;exact ⟨v,vs,rfl,h,h'⟩
theorem Reps.one {d:D} {vs:List V} (h:Reps K F α [d] vs):∃ v,vs=[v]∧Rep K F α d v:=by
 unfold Reps at h
 obtain ⟨v,r,hv,h1,h2⟩:=h
 unfold Reps at h2
 subst h2
 exact ⟨v,hv,h1⟩
theorem Reps.two {d e:D} {vs:List V} (h:Reps K F α [d,e] vs):∃ v u,vs=[v,u]∧Rep K F α d v∧Rep K F α e u:=by
 unfold Reps at h
 obtain ⟨v,r,hv,h1,h2⟩:=h
 obtain ⟨u,hr,h3⟩:=h2.one
 subst hr
 exact ⟨v,u,hv,h1,h3⟩
theorem Reps.take:∀ {ds:List D} {vs:List V} (n:Nat),Reps K F α ds vs→Reps K F α (ds.take n) (vs.take n)
 | _,_,0,_=>by simp;exact jy
 | [],vs,n + 1,h=>by unfold Reps at h;subst h;exact jy
 | d::ds,vs,n + 1,h=>by
  unfold Reps at h
  obtain ⟨v,r,hv,h1,h2⟩:=h
  subst hv
  simp only [List.take_succ_cons]
  exact j4 h1 (Reps.take n h2)
theorem Reps.drop:∀ {ds:List D} {vs:List V} (n:Nat),Reps K F α ds vs→Reps K F α (ds.drop n) (vs.drop n)
 | _,_,0,h=>h
 | [],vs,n + 1,h=>by unfold Reps at h;subst h;exact jy
 | d::ds,vs,n + 1,h=>by
  unfold Reps at h
  obtain ⟨v,r,hv,h1,h2⟩:=h
  subst hv
  exact Reps.drop n h2
end
noncomputable def cA (K:PySem.W.Frag) (x:Str):Addr:=match PySem.W.nsIn K mainGlobals x with
 | some (some (.ref C))=>C
 | _=>0
theorem Qe {K:PySem.W.Frag} {x:Str} {C:Addr} (h:PySem.W.nsIn K mainGlobals x=some (some (.ref C))):cA K x=C:=by unfold cA;rw [h]
noncomputable def excP (a:Addr) (C:Value) (dx:Option Addr):Heap→Prop:=fun h=>∃ vs sl,h.get? a=some ⟨C,dx,.fields vs,sl⟩
noncomputable def Yu (K:PySem.W.Frag) (α:List Addr) (F H:Hp) (a:Addr):Cell→Prop
 | .lst ds=>F a=none∧∃ vs,H a=some (.lst vs)∧Reps K F α ds vs
 | .dic ks ds=>F a=none∧∃ vs,H a=some (.dK ((ks.map dk).zip vs))∧ks.length=ds.length∧Reps K F α ds vs
 | .dead=>True
 | .exn C j=>F a=none∧∃ dx,α[j]? =some dx∧H a=some (.ext (excP a (.ref (cA K C)) (some dx)))
 | .xdc nm d=>F a=none∧∃ v,H a=some (.xd [(nm,v)])∧Rep K F α d v
 | .obj C ns ds=>F a=none∧∃ dx vs,H a=some (.ins (cA K C) dx (ns.zip vs))∧ns.length=ds.length∧Reps K F α ds vs
theorem Yu.live {K:PySem.W.Frag} {α:List Addr} {F H:Hp} {a:Addr} {c:Cell} (h:Yu K α F H a c) (hd:c≠.dead):F a=none∧∃ o,H a=some o:=by
 cases c with
 | dead=>exact absurd rfl hd
 | lst ds=>exact ⟨h.1,let ⟨_,_,z,_⟩:=h;⟨_,z⟩⟩
 | dic ks ds=>exact ⟨h.1,let ⟨_,_,z,_⟩:=h;⟨_,z⟩⟩
 | exn C j=>exact ⟨h.1,let ⟨_,_,_,z⟩:=h;⟨_,z⟩⟩
 | xdc nm d=>exact ⟨h.1,let ⟨_,_,z,_⟩:=h;⟨_,z⟩⟩
 | obj C ns ds=>exact ⟨h.1,let ⟨_,_,_,z,_⟩:=h;⟨_,z⟩⟩
theorem Yu.go {K:PySem.W.Frag} {α α':List Addr} {F H F' H':Hp} {a:Addr} {c:Cell} (h:Yu K α F H a c) (e:Ext α F α' F') (hf:c≠.dead→F' a=F a) (hh:c≠.dead→H' a=H a):Yu K α' F' H' a c:=by
 cases c with
 | dead=>trivial
 | lst ds=>obtain ⟨h1,vs,h2,h3⟩:=h;exact ⟨by rw [hf (by simp)];exact h1,vs,by rw [hh (by simp)];exact h2,h3.mono e⟩
 | dic ks ds=>obtain ⟨h1,vs,h2,hl,h3⟩:=h;exact ⟨by rw [hf (by simp)];exact h1,vs,by rw [hh (by simp)];exact h2,hl,h3.mono e⟩
 | exn C j=>obtain ⟨h1,dx,h2,h3⟩:=h;exact ⟨by rw [hf (by simp)];exact h1,dx,e.al _ _ h2,by rw [hh (by simp)];exact h3⟩
 | xdc nm d=>obtain ⟨h1,v,h2,h3⟩:=h;exact ⟨by rw [hf (by simp)];exact h1,v,by rw [hh (by simp)];exact h2,h3.mono e⟩
 | obj C ns ds=>obtain ⟨h1,dx,vs,h2,hl,h3⟩:=h;exact ⟨by rw [hf (by simp)];exact h1,dx,vs,by rw [hh (by simp)];exact h2,hl,h3.mono e⟩
structure ZS where
 z:Hp
 a0:List Addr
 f0:Hp
noncomputable def ZS.up (Z:ZS) (p:Addr) (o:HO):ZS:={ Z with z:=upd Z.z p o}
theorem z9 {Z:ZS} {p b:Addr} {o:HO} (h:b≠p):(Z.up p o).z b=Z.z b:=jo h
theorem Uo {Z:ZS} {p:Addr} {o:HO}:(Z.up p o).z p=some o:=J4
structure RH (K:PySem.W.Frag) (Z:ZS) (α:List Addr) (F H:Hp) (μ:Mu):Prop where
 sub:J9 F H
 len:α.length=μ.length
 cell:∀ (k:Nat) (a:Addr) (c:Cell),α[k]? =some a→μ[k]? =some c→Yu K α F H a c
 zs:J9 Z.z H
 zf:∀ (a:Addr) (o:HO),Z.z a=some o→F a=none
 zc:∀ (k:Nat) (a:Addr) (c:Cell),α[k]? =some a→μ[k]? =some c→c≠.dead→Z.z a=none
 dis:∀ (j k:Nat) (a:Addr) (c c':Cell),α[j]? =some a→α[k]? =some a→μ[j]? =some c→μ[k]? =some c'→c≠.dead→c'≠.dead→j=k
 ext:Ext Z.a0 Z.f0 α F
structure RS (K:PySem.W.Frag) (Z:ZS) (α:List Addr) (F H:Hp) (σ:L2.St) (ρ:En) (μ:Mu):Prop where
 hp:RH K Z α F H μ
 len:ρ.length=σ.length
 sl:∀ (i:Nat) (d:D),ρ[i]? =some (some d)→∃ v,σ[i]? =some (some v)∧Rep K F α d v
theorem RS.to {K:PySem.W.Frag} {Z:ZS} {α α':List Addr} {F H F' H':Hp} {σ:L2.St} {ρ:En} {μ μ':Mu} (r:RS K Z α F H σ ρ μ) (h:RH K Z α' F' H' μ') (e:Ext α F α' F'):RS K Z α' F' H' σ ρ μ' :=
 ⟨h,r.len,fun i d hd=>let ⟨v,h1,h2⟩:=r.sl i d hd;⟨v,h1,h2.mono e⟩⟩
theorem xf {F H:Hp} {p:Addr} {o:HO} (hs:J9 F H) (hp:H p=none):J9 F (upd F p o):=fun b u e=>by
 have:b≠p:=fun z=>by subst z;rw [hs _ _ e] at hp;cases hp
 rw [jo this];exact e
theorem RH.lay {K:PySem.W.Frag} {Z:ZS} {α:List Addr} {F H:Hp} {μ:Mu} {p:Addr} (o:HO) (r:RH K Z α F H μ) (hp:H p=none):RH K Z α (upd F p o) (upd H p o) μ:=by
 have sF:=xf (o:=o) r.sub hp
 have ex:Ext α F α (upd F p o):=⟨sF,fun _ _ h=>h⟩
 refine ⟨fun b u e=>?_,r.len,fun k a c ha hc=>?_,fun b u e=>?_,fun b u e=>?_,r.zc,r.dis,r.ext.trans ex⟩
 ·by_cases hb:b=p
  ·subst hb;rw [J4] at e ⊢;exact e
  ·rw [jo hb] at e ⊢;exact r.sub b u e
 ·have h:=r.cell k a c ha hc
  have ne:c≠.dead→a≠p:=fun hd=>let ⟨_,_,z⟩:=h.live hd;jf z hp
  exact h.go ex (fun hd=>jo (ne hd)) fun hd=>jo (ne hd)
 ·rw [jo (jf (r.zs b u e) hp)];exact r.zs b u e
 ·rw [jo (jf (r.zs b u e) hp)];exact r.zf b u e
theorem RH.layExt {K:PySem.W.Frag} {Z:ZS} {α:List Addr} {F H:Hp} {μ:Mu} {p:Addr} (o:HO) (r:RH K Z α F H μ) (hp:H p=none):Ext α F α (upd F p o):=⟨xf r.sub hp,fun _ _ h=>h⟩
noncomputable def Pk (K:PySem.W.Frag) (α:List Addr) (F H:Hp):D→V→Prop
 | .lst ds,v=>∃ a vs,v=.ref a∧SqL K H a vs∧Reps K F α ds vs
 | .dic ks ds,v=>∃ a vs,v=.ref a∧H a=some (.dK ((ks.map dk).zip vs))∧ks.length=ds.length∧Reps K F α ds vs
 | d,v=>Rep K F α d v
theorem RH.pk {K:PySem.W.Frag} {Z:ZS} {α:List Addr} {F H:Hp} {μ:Mu} {d:D} {v:V} (r:RH K Z α F H μ) (h:Rep K F α d v):Pk K α F H (j8 μ d) v:=by
 cases d with
 | non=>exact h
 | bl b=>exact h
 | int i=>exact h
 | str x=>exact h
 | tup ds=>exact h
 | lst ds =>
  unfold Rep at h
  obtain ⟨a,vs,hv,hs,hr⟩:=h
  exact ⟨a,vs,hv,r.sub.seq hs,hr⟩
 | dic ks ds =>
  unfold Rep at h
  obtain ⟨a,vs,hv,hs,hl,hr⟩:=h
  exact ⟨a,vs,hv,r.sub _ _ hs,hl,hr⟩
 | ref k =>
  have h0:=h
  unfold Rep at h
  obtain ⟨a,ha,hv⟩:=h
  cases e:μ[k]? with
  | none=>rw [show j8 μ (.ref k)=.ref k by simp only [j8,e]];exact h0
  | some c =>
   have hc:=r.cell k a c ha e
   cases c with
   | lst ds =>
    obtain ⟨_,vs,h2,h3⟩:=hc
    rw [show j8 μ (.ref k)=.lst ds by simp only [j8,e]]
    exact ⟨a,vs,hv,SqL.of h2,h3⟩
   | dic ks ds =>
    obtain ⟨_,vs,h2,hl,h3⟩:=hc
    rw [show j8 μ (.ref k)=.dic ks ds by simp only [j8,e]]
    exact ⟨a,vs,hv,h2,hl,h3⟩
   | _=>rw [show j8 μ (.ref k)=.ref k by simp only [j8,e]];exact h0
structure EXT where
 P:ZS→Exc→Mu→Prop
 mono:∀ (Z:ZS) (p:Addr) (o:HO) (x:Exc) (μ:Mu),Z.z p=none→P Z x μ→P (Z.up p o) x μ
noncomputable def GE (K:PySem.W.Frag) (EX:EXT) (Z:ZS) (α:List Addr) (F:Hp) (Q:VK):Res D→Prop
 | .ok d μ'=>∀ v α' F' H',RH K Z α' F' H' μ'→Ext α F α' F'→Rep K F' α' d v→Q v H'
 | .exc x μ'=>EX.P Z x μ'
 | .bad=>False
noncomputable def GB (K:PySem.W.Frag) (EX:EXT) (Z:ZS) (α:List Addr) (F:Hp) (Q:Bool→Hp→Prop):Res Bool→Prop
 | .ok b μ'=>∀ α' F' H',RH K Z α' F' H' μ'→Ext α F α' F'→Q b H'
 | .exc x μ'=>EX.P Z x μ'
 | .bad=>False
noncomputable def GA (K:PySem.W.Frag) (EX:EXT) (Z:ZS) (α:List Addr) (F:Hp) (Q:List V→Hp→Prop):Res (List D)→Prop
 | .ok ds μ'=>∀ vs α' F' H',RH K Z α' F' H' μ'→Ext α F α' F'→Reps K F' α' ds vs→Q vs H'
 | .exc x μ'=>EX.P Z x μ'
 | .bad=>False
noncomputable def GS (K:PySem.W.Frag) (EX:EXT) (Z:ZS) (α:List Addr) (F:Hp) (N:Ends):Res Out→Prop
 | .ok (.nx ρ') μ'=>∀ σ' α' F' H',RS K Z α' F' H' σ' ρ' μ'→Ext α F α' F'→N.nx σ' H'
 | .ok (.bk ρ') μ'=>∀ σ' α' F' H',RS K Z α' F' H' σ' ρ' μ'→Ext α F α' F'→N.bk σ' H'
 | .ok (.ct ρ') μ'=>∀ σ' α' F' H',RS K Z α' F' H' σ' ρ' μ'→Ext α F α' F'→N.ct σ' H'
 | .ok (.rt d) μ'=>∀ v α' F' H',RH K Z α' F' H' μ'→Ext α F α' F'→Rep K F' α' d v→N.rt v H'
 | .exc x μ'=>EX.P Z x μ'
 | .bad=>False
noncomputable def ME (X:Cx) (EX:EXT) (e:Expr) (m:MX):Prop:=∃ t:TE,PE X e t∧∀ Z α F H σ ρ μ Q,RS X.K Z α F H σ ρ μ→GE X.K EX Z α F Q (m ρ μ)→t σ H Q
noncomputable def MT (X:Cx) (EX:EXT) (e:Expr) (m:MB):Prop:=∃ t:TT,PT X e t∧∀ Z α F H σ ρ μ Q,RS X.K Z α F H σ ρ μ→GB X.K EX Z α F Q (m ρ μ)→t σ H Q
noncomputable def MW (X:Cx) (EX:EXT) (e:Expr) (m:MB):Prop:=∃ t:TT,PW X e t∧∀ Z α F H σ ρ μ Q,RS X.K Z α F H σ ρ μ→GB X.K EX Z α F Q (m ρ μ)→t σ H Q
noncomputable def MA (X:Cx) (EX:EXT) (es:List Expr) (m:MAs):Prop:=∃ t:TA,PA X es t∧(∀ Z α F H σ ρ μ Q,RS X.K Z α F H σ ρ μ→GA X.K EX Z α F Q (m ρ μ)→t σ H Q)∧∀ ρ μ ds μ',m ρ μ=.ok ds μ'→ds.length=es.length
noncomputable def MS (X:Cx) (EX:EXT) (st:Stmt) (m:MSt):Prop:=∃ t:TS,PS X st t∧∀ Z α F H σ ρ μ N,RS X.K Z α F H σ ρ μ→GS X.K EX Z α F N (m ρ μ)→t N σ H
noncomputable def MSs (X:Cx) (EX:EXT) (st:List Stmt) (m:MSt):Prop:=∃ t:TS,PSs X st t∧∀ Z α F H σ ρ μ N,RS X.K Z α F H σ ρ μ→GS X.K EX Z α F N (m ρ μ)→t N σ H
theorem GE.ext {K:PySem.W.Frag} {EX:EXT} {Z:ZS} {α α1:List Addr} {F F1:Hp} {Q:VK} {r:Res D} (e:Ext α F α1 F1) (h:GE K EX Z α F Q r):GE K EX Z α1 F1 Q r:=by
 cases r with
 | ok d μ=>exact fun v α' F' H' R e' q=>h v α' F' H' R (e.trans e') q
 | exc x μ=>exact h
 | bad=>exact h
theorem GB.ext {K:PySem.W.Frag} {EX:EXT} {Z:ZS} {α α1:List Addr} {F F1:Hp} {Q:Bool→Hp→Prop} {r:Res Bool} (e:Ext α F α1 F1) (h:GB K EX Z α F Q r):GB K EX Z α1 F1 Q r:=by
 cases r with
 | ok d μ=>exact fun α' F' H' R e'=>h α' F' H' R (e.trans e')
 | exc x μ=>exact h
 | bad=>exact h
theorem GS.ext {K:PySem.W.Frag} {EX:EXT} {Z:ZS} {α α1:List Addr} {F F1:Hp} {N:Ends} {r:Res Out} (e:Ext α F α1 F1) (h:GS K EX Z α F N r):GS K EX Z α1 F1 N r:=by
 cases r with
 | ok o μ =>
  cases o with
  | nx ρ=>exact fun σ' α' F' H' R e'=>h σ' α' F' H' R (e.trans e')
  | bk ρ=>exact fun σ' α' F' H' R e'=>h σ' α' F' H' R (e.trans e')
  | ct ρ=>exact fun σ' α' F' H' R e'=>h σ' α' F' H' R (e.trans e')
  | rt d=>exact fun v α' F' H' R e' q=>h v α' F' H' R (e.trans e') q
 | exc x μ=>exact h
 | bad=>exact h
theorem GE.step {K:PySem.W.Frag} {EX:EXT} {Z:ZS} {α:List Addr} {F:Hp} {r:Res D} {β:Type} {f:D→Mu→Res β} {G:Res β→Prop} {Q:VK} (h:G (r.bind f)) (hx:∀ x μ,G (.exc x μ)→EX.P Z x μ) (hb:¬ G .bad)
  (hk:∀ d μ' v α' F' H',RH K Z α' F' H' μ'→Ext α F α' F'→Rep K F' α' d v→G (f d μ')→Q v H'):GE K EX Z α F Q r:=by
 cases r with
 | ok d μ=>exact fun v α' F' H' R e q=>hk d μ v α' F' H' R e q h
 | exc x μ=>exact hx _ _ h
 | bad=>exact hb h
theorem GB.step {K:PySem.W.Frag} {EX:EXT} {Z:ZS} {α:List Addr} {F:Hp} {r:Res Bool} {β:Type} {f:Bool→Mu→Res β} {G:Res β→Prop} {Q:Bool→Hp→Prop} (h:G (r.bind f)) (hx:∀ x μ,G (.exc x μ)→EX.P Z x μ) (hb:¬ G .bad)
  (hk:∀ d μ' α' F' H',RH K Z α' F' H' μ'→Ext α F α' F'→G (f d μ')→Q d H'):GB K EX Z α F Q r:=by
 cases r with
 | ok d μ=>exact fun α' F' H' R e=>hk d μ α' F' H' R e h
 | exc x μ=>exact hx _ _ h
 | bad=>exact hb h
theorem GA.step {K:PySem.W.Frag} {EX:EXT} {Z:ZS} {α:List Addr} {F:Hp} {r:Res (List D)} {β:Type} {f:List D→Mu→Res β} {G:Res β→Prop} {Q:List V→Hp→Prop} (h:G (r.bind f)) (hx:∀ x μ,G (.exc x μ)→EX.P Z x μ) (hb:¬ G .bad)
  (hk:∀ d μ' v α' F' H',RH K Z α' F' H' μ'→Ext α F α' F'→Reps K F' α' d v→G (f d μ')→Q v H'):GA K EX Z α F Q r:=by
 cases r with
 | ok d μ=>exact fun v α' F' H' R e q=>hk d μ v α' F' H' R e q h
 | exc x μ=>exact hx _ _ h
 | bad=>exact hb h
theorem GA.stepE {K:PySem.W.Frag} {EX:EXT} {Z:ZS} {α:List Addr} {F:Hp} {r:Res (List D)} {β:Type} {f:List D→Mu→Res β} {G:Res β→Prop} {Q:List V→Hp→Prop} (h:G (r.bind f)) (hx:∀ x μ,G (.exc x μ)→EX.P Z x μ) (hb:¬ G .bad)
  (hk:∀ d μ' v α' F' H',r=.ok d μ'→RH K Z α' F' H' μ'→Ext α F α' F'→Reps K F' α' d v→G (f d μ')→Q v H'):GA K EX Z α F Q r:=by
 cases r with
 | ok d μ=>exact fun v α' F' H' R e q=>hk d μ v α' F' H' rfl R e q h
 | exc x μ=>exact hx _ _ h
 | bad=>exact hb h
end M
set_option Elab.async false
set_option linter.all false
set_option maxRecDepth 100000
set_option maxHeartbeats 4000000
namespace M
open PySem PySem.Spec PyProof.Rows L2
section
variable {X:Cx} {EX:EXT} {e a b c:Expr} {pos:Pos} {m ma mb mc:MX} {es rest:List Expr}
noncomputable def mVar (i:Nat):MX:=fun ρ μ=>match ρ[i]? with
 | some (some d)=>.ok d μ
 | _=>.bad
noncomputable def mC (d:D):MX:=fun _ μ=>.ok d μ
theorem aa9 {i:Nat} {x:Str} (hN:X.N[i]? =some x) (hv:Vis X.env.scope x) (hd:(x == ("__debug__":Str))=false) (hcd:(x == ("__classdict__":Str))=false):ME X EX (.Name x pos) (mVar i):=by
 refine ⟨av9 i,a75 hN hv hd hcd,fun Z α F H σ ρ μ Q R g=>?_⟩
 unfold mVar at g
 cases e:ρ[i]? with
 | none=>rw [e] at g;exact g.elim
 | some o =>
  cases o with
  | none=>rw [e] at g;exact g.elim
  | some d =>
   rw [e] at g
   obtain ⟨v,h1,h2⟩:=R.sl i d e
   exact ⟨v,h1,g v α F H R.hp (Ext.refl _ _) h2⟩
theorem ab3 {v:V} {d:D} (h:PE X e (tC v)) (r:∀ (F:Hp) (α:List Addr),Rep X.K F α d v):ME X EX e (mC d) :=
 ⟨_,h,fun Z α F H σ ρ μ Q R g=>g v α F H R.hp (Ext.refl _ _) (r F α)⟩
theorem me_int {i j}:ME X EX (.Constant (.int i) j pos) (mC (.int i)):=ab3 a79 fun _ _=>by unfold Rep;rfl
theorem X9 {i j}:ME X EX (.Constant (.bool i) j pos) (mC (.bl i)):=ab3 aL5 fun _ _=>by unfold Rep;rfl
theorem zt {j}:ME X EX (.Constant .none j pos) (mC .non):=ab3 az1 fun _ _=>by unfold Rep;rfl
theorem me_str {x:Str} {cs:List Nat} {j} (h:x=⟨cs.toArray⟩):ME X EX (.Constant (.str x) j pos) (mC (.str cs)):=ab3 a76 fun _ _=>by unfold Rep;rw [h]
noncomputable abbrev G2:=D→D→Option D
noncomputable def mBin (g:G2) (ma mb:MX):MX:=fun ρ μ=>(ma ρ μ).bind fun x μ1=>(mb ρ μ1).bind fun y μ2=>ofO μ2 (g (j8 μ2 x) (j8 μ2 y))
noncomputable def y9 (K:PySem.W.Frag) (r:R2) (g:G2):Prop:=∀ Z α F H μ a b c x y Q,RH K Z α F H μ→Pk K α F H a x→Pk K α F H b y→g a b=some c →
 (∀ v F' H',RH K Z α F' H' μ→J9 F F'→Rep K F' α c v→Q v H')→r x y H Q
noncomputable def OpM (X:Cx) (f:Value→Value→Sem Value) (g:G2):Prop:=∃ r,OpR X f r∧y9 X.K r g
noncomputable def Wy (X:Cx) (EX:EXT) (t:TE) (m:MX):Prop:=∀ Z α F H σ ρ μ Q,RS X.K Z α F H σ ρ μ→GE X.K EX Z α F Q (m ρ μ)→t σ H Q
theorem Yd {ta tb:TE} {r:R2} {g:G2} (sa:Wy X EX ta ma) (sb:Wy X EX tb mb) (ho:y9 X.K r g):Wy X EX (tOp r ta tb) (mBin g ma mb):=by
 intro Z α F H σ ρ μ Q R gd
 refine sa Z α F H σ ρ μ _ R (GE.step (G:=GE X.K EX Z α F Q) gd (fun _ _ h=>h) (fun h=>h) fun d1 μ1 v1 α1 F1 H1 R1 e1 p1 g1=>?_)
 refine sb Z α1 F1 H1 σ ρ μ1 _ (R.to R1 e1) (GE.step (G:=GE X.K EX Z α F Q) g1 (fun _ _ h=>h) (fun h=>h) fun d2 μ2 v2 α2 F2 H2 R2 e2 p2 g2=>?_)
 cases hg:g (j8 μ2 d1) (j8 μ2 d2) with
 | none=>rw [hg] at g2;exact g2.elim
 | some c =>
  rw [hg] at g2
  exact ho Z α2 F2 H2 μ2 _ _ c v1 v2 Q R2 (R2.pk (p1.mono e2)) (R2.pk p2) hg fun v F' H' R' sf rp=>g2 v α2 F' H' R' (e1.trans (e2.trans ⟨sf,fun _ _ h=>h⟩)) rp
theorem me_bin {op:Operator} {g:G2} (ho:OpM X (binaryOp op) g) (ha:ME X EX a ma) (hb:ME X EX b mb):ME X EX (.BinOp a op b pos) (mBin g ma mb):=by
 obtain ⟨r,h1,h2⟩:=ho
 obtain ⟨ta,pa,sa⟩:=ha
 obtain ⟨tb,pb,sb⟩:=hb
 exact ⟨_,as0 h1 pa pb,Yd sa sb h2⟩
theorem me_cmp {op:CmpOp} {g:G2} (ho:OpM X (compareOp op) g) (ha:ME X EX a ma) (hb:ME X EX b mb) (hm:behindInMarks op b=false):ME X EX (.Compare a [op] [b] pos) (mBin g ma mb):=by
 obtain ⟨r,h1,h2⟩:=ho
 obtain ⟨ta,pa,sa⟩:=ha
 obtain ⟨tb,pb,sb⟩:=hb
 exact ⟨_,aj9 h1 pa pb hm,Yd sa sb h2⟩
noncomputable def asB (d:D):Option Bool:=match d with
 | .bl b=>some b
 | _=>none
noncomputable def mTest (m:MX):MB:=fun ρ μ=>(m ρ μ).bind fun d μ1=>ofO μ1 (asB d)
noncomputable def aR2 (X:Cx) (EX:EXT) (t:TT) (m:MB):Prop:=∀ Z α F H σ ρ μ Q,RS X.K Z α F H σ ρ μ→GB X.K EX Z α F Q (m ρ μ)→t σ H Q
theorem Yn {t:TE} (h:Wy X EX t m):aR2 X EX (fun σ H Q=>t σ H fun x H'=>∃ k,x=.bl k∧Q k H') (mTest m):=by
 intro Z α F H σ ρ μ Q R g
 refine h Z α F H σ ρ μ _ R (GE.step (G:=GB X.K EX Z α F Q) g (fun _ _ h=>h) (fun h=>h) fun d μ1 v α1 F1 H1 R1 e1 p g1=>?_)
 cases d with
 | bl k=>unfold Rep at p;exact ⟨k,p,g1 α1 F1 H1 R1 e1⟩
 | _=>exact g1.elim
theorem j7 {op:CmpOp} {g:G2} (ho:OpM X (compareOp op) g) (ha:ME X EX a ma) (hb:ME X EX b mb) (hm:behindInMarks op b=false):MT X EX (.Compare a [op] [b] pos) (mTest (mBin g ma mb)):=by
 obtain ⟨r,h1,h2⟩:=ho
 obtain ⟨ta,pa,sa⟩:=ha
 obtain ⟨tb,pb,sb⟩:=hb
 exact ⟨_,ai5 h1 pa pb hm,Yn (Yd sa sb h2)⟩
noncomputable def Ye (g g':G2) (ma mb mc:MX):MX:=fun ρ μ=>(ma ρ μ).bind fun x μ1=>(mb ρ μ1).bind fun y μ2=>(ofO μ2 ((g (j8 μ2 x) (j8 μ2 y)).bind asB)).bind fun k μ3 =>
 match k with
 | true=>(mc ρ μ3).bind fun z μ4=>ofO μ4 (g' (j8 μ4 y) (j8 μ4 z))
 | false=>.ok (.bl false) μ3
theorem K3 {ta tb tc:TE} {r r':R2} {g g':G2} (sa:Wy X EX ta ma) (sb:Wy X EX tb mb) (sc:Wy X EX tc mc) (ho:y9 X.K r g) (ho':y9 X.K r' g') :
  Wy X EX (cx r r' ta tb tc) (Ye g g' ma mb mc):=by
 intro Z α F H σ ρ μ Q R gd
 refine sa Z α F H σ ρ μ _ R (GE.step (G:=GE X.K EX Z α F Q) gd (fun _ _ h=>h) (fun h=>h) fun d1 μ1 v1 α1 F1 H1 R1 e1 p1 g1=>?_)
 refine sb Z α1 F1 H1 σ ρ μ1 _ (R.to R1 e1) (GE.step (G:=GE X.K EX Z α F Q) g1 (fun _ _ h=>h) (fun h=>h) fun d2 μ2 v2 α2 F2 H2 R2 e2 p2 g2=>?_)
 cases hg:g (j8 μ2 d1) (j8 μ2 d2) with
 | none=>rw [hg] at g2;exact g2.elim
 | some c =>
  rw [hg] at g2
  cases c with
  | bl k =>
   refine ho Z α2 F2 H2 μ2 _ _ (.bl k) v1 v2 _ R2 (R2.pk (p1.mono e2)) (R2.pk p2) hg fun v F' H' R' sf rp=>?_
   unfold Rep at rp
   refine ⟨k,rp,?_⟩
   have e3:Ext α2 F2 α2 F':=⟨sf,fun _ _ h=>h⟩
   cases k with
   | false=>exact g2 _ α2 F' H' R' (e1.trans (e2.trans e3)) (by unfold Rep;rfl)
   | true =>
    refine sc Z α2 F' H' σ ρ μ2 _ (R.to R' (e1.trans (e2.trans e3))) (GE.step (G:=GE X.K EX Z α F Q) g2 (fun _ _ h=>h) (fun h=>h) fun d4 μ4 v4 α4 F4 H4 R4 e4 p4 g4=>?_)
    cases hg':g' (j8 μ4 d2) (j8 μ4 d4) with
    | none=>rw [hg'] at g4;exact g4.elim
    | some c' =>
     rw [hg'] at g4
     exact ho' Z α4 F4 H4 μ4 _ _ c' v2 v4 Q R4 (R4.pk (p2.mono (e3.trans e4))) (R4.pk p4) hg' fun v F' H' R' sf rp=>g4 v α4 F' H' R' (e1.trans (e2.trans (e3.trans (e4.trans ⟨sf,fun _ _ h=>h⟩)))) rp
  | _=>exact g2.elim
theorem kq {op op':CmpOp} {g g':G2} (ho:OpM X (compareOp op) g) (ho':OpM X (compareOp op') g') (ha:ME X EX a ma) (hb:ME X EX b mb) (hc:ME X EX c mc)
  (hm:lastMarks [op,op'] [b,c]=false):ME X EX (.Compare a [op,op'] [b,c] pos) (Ye g g' ma mb mc):=by
 obtain ⟨r,h1,h2⟩:=ho
 obtain ⟨r',h1',h2'⟩:=ho'
 obtain ⟨ta,pa,sa⟩:=ha
 obtain ⟨tb,pb,sb⟩:=hb
 obtain ⟨tc,pc,sc⟩:=hc
 exact ⟨_,a83 h1 h1' pa pb pc hm,K3 sa sb sc h2 h2'⟩
theorem aa6 {op op':CmpOp} {g g':G2} (ho:OpM X (compareOp op) g) (ho':OpM X (compareOp op') g') (ha:ME X EX a ma) (hb:ME X EX b mb) (hc:ME X EX c mc)
  (hm:lastMarks [op,op'] [b,c]=false):MT X EX (.Compare a [op,op'] [b,c] pos) (mTest (Ye g g' ma mb mc)):=by
 obtain ⟨r,h1,h2⟩:=ho
 obtain ⟨r',h1',h2'⟩:=ho'
 obtain ⟨ta,pa,sa⟩:=ha
 obtain ⟨tb,pb,sb⟩:=hb
 obtain ⟨tc,pc,sc⟩:=hc
 exact ⟨_,a69 h1 h1' pa pb pc hm,Yn (K3 sa sb sc h2 h2')⟩
noncomputable def isN (d:D):Bool:=match d with
 | .non=>true
 | _=>false
noncomputable def Zh (m:MX):MX:=fun ρ μ=>(m ρ μ).bind fun d μ1=>.ok (.bl (isN d)) μ1
noncomputable def aN5 (m:MX):MX:=fun ρ μ=>(m ρ μ).bind fun d μ1=>.ok (.bl (!isN d)) μ1
theorem an9 {K:PySem.W.Frag} {F:Hp} {α:List Addr} {d:D} {v:V} (h:Rep K F α d v):decide (v=.non)=isN d:=by
 cases d with
 | non=>unfold Rep at h;subst h;rfl
 | bl _=>unfold Rep at h;subst h;rfl
 | int _=>unfold Rep at h;subst h;rfl
 | str _=>unfold Rep at h;subst h;rfl
 | tup _=>unfold Rep at h;obtain ⟨a,vs,h,_⟩:=h;subst h;rfl
 | lst _=>unfold Rep at h;obtain ⟨a,vs,h,_⟩:=h;subst h;rfl
 | dic _ _=>unfold Rep at h;obtain ⟨a,vs,h,_⟩:=h;subst h;rfl
 | ref _=>unfold Rep at h;obtain ⟨a,_,h⟩:=h;subst h;rfl
theorem D5 {t:TE} (h:Wy X EX t m):Wy X EX (aI2 t) (Zh m):=by
 intro Z α F H σ ρ μ Q R g
 refine h Z α F H σ ρ μ _ R (GE.step (G:=GE X.K EX Z α F Q) g (fun _ _ h=>h) (fun h=>h) fun d μ1 v α1 F1 H1 R1 e1 p g1=>?_)
 rw [an9 p]
 exact g1 _ α1 F1 H1 R1 e1 (by unfold Rep;rfl)
theorem aC7 {j pos'} (ha:ME X EX a m):ME X EX (.Compare a [.Is] [.Constant .none j pos'] pos) (Zh m):=by
 obtain ⟨t,p,s⟩:=ha
 exact ⟨_,az3 (a85 p) rfl,D5 s⟩
theorem xv {j pos'} (ha:ME X EX a m):MT X EX (.Compare a [.Is] [.Constant .none j pos'] pos) (mTest (Zh m)):=by
 obtain ⟨t,p,s⟩:=ha
 exact ⟨_,f8 (a85 p) rfl,Yn (D5 s)⟩
noncomputable def Vv (d:D):Option Bool:=match d with
 | .non=>some false
 | .bl b=>some b
 | .int i=>some (i != 0)
 | .str x=>if x.length≤16777216 then some (!x.isEmpty) else none
 | .tup xs=>some (!xs.isEmpty)
 | .lst xs=>some (!xs.isEmpty)
 | .dic ks vs=>some (!vs.isEmpty)
 | .ref _=>none
noncomputable def mTru (m:MX):MB:=fun ρ μ=>(m ρ μ).bind fun d μ1=>ofO μ1 (Vv (j8 μ1 d))
theorem ql {β γ:Type} {l:List β} {r:List γ} (h:l.length=r.length):l.isEmpty=r.isEmpty:=by
 cases l <;> cases r <;> simp_all
theorem av7 {K:PySem.W.Frag} {α:List Addr} {F H:Hp} {d:D} {v:V} {k:Bool} (sub:J9 F H) (h:Pk K α F H d v) (e:Vv d=some k):aG8 K v H k:=by
 cases d with
 | non=>unfold Pk Rep at h;subst h;cases e;rfl
 | bl _=>unfold Pk Rep at h;subst h;cases e;rfl
 | int _=>unfold Pk Rep at h;subst h;cases e;rfl
 | str x =>
  unfold Pk Rep at h
  subst h
  unfold Vv at e
  simp only at e
  split at e
  ·rename_i hl
   cases e
   refine ⟨?_,?_⟩
   ·rw [sizeLine_eq];simpa [Str.length] using hl
   ·cases x with
    | nil=>rfl
    | cons c r=>simp [Str.length];omega
  ·cases e
 | tup xs =>
  unfold Pk Rep at h
  obtain ⟨a,vs,rfl,hs,hr⟩:=h
  cases e
  exact .inr (.inl ⟨vs,J9.tup sub hs,by rw [ql hr.length]⟩)
 | lst xs =>
  unfold Pk at h
  obtain ⟨a,vs,rfl,hs,hr⟩:=h
  cases e
  exact .inl ⟨vs,hs,by rw [ql hr.length]⟩
 | dic ks xs =>
  unfold Pk at h
  obtain ⟨a,vs,rfl,hs,hl,hr⟩:=h
  cases e
  refine .inr (.inr ⟨_,hs,?_⟩)
  congr 1
  refine ql ?_
  have:=hr.length
  simp
  omega
 | ref _=>cases e
theorem Jg (ha:ME X EX a m) (he:∀ whole,isTrue a X.env whole=(do let v ← whole;standAt a.pos;holding [v] (truthy v))):MT X EX a (mTru m):=by
 obtain ⟨t,p,s⟩:=ha
 refine ⟨_,a67 p he,fun Z α F H σ ρ μ Q R g=>?_⟩
 refine s Z α F H σ ρ μ _ R (GE.step (G:=GB X.K EX Z α F Q) g (fun _ _ h=>h) (fun h=>h) fun d μ1 v α1 F1 H1 R1 e1 p g1=>?_)
 cases hk:Vv (j8 μ1 d) with
 | none=>rw [hk] at g1;exact g1.elim
 | some k=>rw [hk] at g1;exact ⟨k,av7 R1.sub (R1.pk p) hk,g1 α1 F1 H1 R1 e1⟩
variable {n na nb:MB}
noncomputable def mAnd (m n:MB):MB:=fun ρ μ=>(m ρ μ).bind fun k μ1=>match k with
 | true=>n ρ μ1
 | false=>.ok false μ1
noncomputable def mOr (m n:MB):MB:=fun ρ μ=>(m ρ μ).bind fun k μ1=>match k with
 | true=>.ok true μ1
 | false=>n ρ μ1
noncomputable def mNot (m:MB):MB:=fun ρ μ=>(m ρ μ).bind fun k μ1=>.ok (!k) μ1
theorem MW.t (h:MW X EX e n):MT X EX e n:=let ⟨t,p,s⟩:=h;⟨t,p.pt,s⟩
theorem Q2 (ha:MT X EX a na):MW X EX (.BoolOp .And [a] pos) na:=let ⟨t,p,s⟩:=ha;⟨t,ai4 p,s⟩
theorem xx (ha:MT X EX a na):MW X EX (.BoolOp .Or [a] pos) na:=let ⟨t,p,s⟩:=ha;⟨t,ax8 p,s⟩
theorem xw (ha:MT X EX a na) (hb:MW X EX (.BoolOp .And (b::rest) pos) nb):MW X EX (.BoolOp .And (a::b::rest) pos) (mAnd na nb):=by
 obtain ⟨ta,pa,sa⟩:=ha
 obtain ⟨tb,pb,sb⟩:=hb
 refine ⟨_,ax9 pa pb,fun Z α F H σ ρ μ Q R g=>?_⟩
 refine sa Z α F H σ ρ μ _ R (GB.step (G:=GB X.K EX Z α F Q) g (fun _ _ h=>h) (fun h=>h) fun k μ1 α1 F1 H1 R1 e1 g1=>?_)
 cases k with
 | true=>exact (if_pos rfl).mpr (sb Z α1 F1 H1 σ ρ μ1 Q (R.to R1 e1) (GB.ext e1 g1))
 | false=>exact g1 α1 F1 H1 R1 e1
theorem Wq (ha:MT X EX a na) (hb:MW X EX (.BoolOp .Or (b::rest) pos) nb):MW X EX (.BoolOp .Or (a::b::rest) pos) (mOr na nb):=by
 obtain ⟨ta,pa,sa⟩:=ha
 obtain ⟨tb,pb,sb⟩:=hb
 refine ⟨_,aK6 pa pb,fun Z α F H σ ρ μ Q R g=>?_⟩
 refine sa Z α F H σ ρ μ _ R (GB.step (G:=GB X.K EX Z α F Q) g (fun _ _ h=>h) (fun h=>h) fun k μ1 α1 F1 H1 R1 e1 g1=>?_)
 cases k with
 | true=>exact g1 α1 F1 H1 R1 e1
 | false=>exact sb Z α1 F1 H1 σ ρ μ1 Q (R.to R1 e1) (GB.ext e1 g1)
theorem zu (ha:MT X EX a na):MT X EX (.UnaryOp .Not a pos) (mNot na):=by
 obtain ⟨ta,pa,sa⟩:=ha
 refine ⟨_,ay0 pa,fun Z α F H σ ρ μ Q R g=>?_⟩
 exact sa Z α F H σ ρ μ _ R (GB.step (G:=GB X.K EX Z α F Q) g (fun _ _ h=>h) (fun h=>h) fun k μ1 α1 F1 H1 R1 e1 g1=>g1 α1 F1 H1 R1 e1)
noncomputable def Ud (ma mb:MX):MX:=fun ρ μ=>(ma ρ μ).bind fun x μ1=>match x with
 | .bl true=>mb ρ μ1
 | .bl false=>.ok (.bl false) μ1
 | _=>.bad
noncomputable def gn (ma mb:MX):MX:=fun ρ μ=>(ma ρ μ).bind fun x μ1=>match x with
 | .bl true=>.ok (.bl true) μ1
 | .bl false=>mb ρ μ1
 | _=>.bad
noncomputable def ko (ma:MX):MX:=fun ρ μ=>(ma ρ μ).bind fun x μ1=>match x with
 | .bl k=>.ok (.bl (!k)) μ1
 | _=>.bad
theorem me_one {op} (h:ME X EX a m):ME X EX (.BoolOp op [a] pos) m:=let ⟨t,p,s⟩:=h;⟨t,ay9 p,s⟩
theorem me_and (ha:ME X EX a ma) (hb:ME X EX (.BoolOp .And (b::rest) pos) mb):ME X EX (.BoolOp .And (a::b::rest) pos) (Ud ma mb):=by
 obtain ⟨ta,pa,sa⟩:=ha
 obtain ⟨tb,pb,sb⟩:=hb
 refine ⟨_,az5 pa pb,fun Z α F H σ ρ μ Q R g=>?_⟩
 refine sa Z α F H σ ρ μ _ R (GE.step (G:=GE X.K EX Z α F Q) g (fun _ _ h=>h) (fun h=>h) fun d μ1 v α1 F1 H1 R1 e1 p g1=>?_)
 cases d with
 | bl k =>
  unfold Rep at p
  refine ⟨k,p,?_⟩
  cases k with
  | true=>exact sb Z α1 F1 H1 σ ρ μ1 Q (R.to R1 e1) (GE.ext e1 g1)
  | false=>exact g1 _ α1 F1 H1 R1 e1 (by unfold Rep;rfl)
 | _=>exact g1.elim
theorem me_or (ha:ME X EX a ma) (hb:ME X EX (.BoolOp .Or (b::rest) pos) mb):ME X EX (.BoolOp .Or (a::b::rest) pos) (gn ma mb):=by
 obtain ⟨ta,pa,sa⟩:=ha
 obtain ⟨tb,pb,sb⟩:=hb
 refine ⟨_,aL3 pa pb,fun Z α F H σ ρ μ Q R g=>?_⟩
 refine sa Z α F H σ ρ μ _ R (GE.step (G:=GE X.K EX Z α F Q) g (fun _ _ h=>h) (fun h=>h) fun d μ1 v α1 F1 H1 R1 e1 p g1=>?_)
 cases d with
 | bl k =>
  unfold Rep at p
  refine ⟨k,p,?_⟩
  cases k with
  | false=>exact sb Z α1 F1 H1 σ ρ μ1 Q (R.to R1 e1) (GE.ext e1 g1)
  | true=>exact g1 _ α1 F1 H1 R1 e1 (by unfold Rep;rfl)
 | _=>exact g1.elim
theorem C8 (ha:ME X EX a ma):ME X EX (.UnaryOp .Not a pos) (ko ma):=by
 obtain ⟨ta,pa,sa⟩:=ha
 refine ⟨_,az0 pa,fun Z α F H σ ρ μ Q R g=>?_⟩
 refine sa Z α F H σ ρ μ _ R (GE.step (G:=GE X.K EX Z α F Q) g (fun _ _ h=>h) (fun h=>h) fun d μ1 v α1 F1 H1 R1 e1 p g1=>?_)
 cases d with
 | bl k=>unfold Rep at p;exact ⟨k,p,g1 _ α1 F1 H1 R1 e1 (by unfold Rep;rfl)⟩
 | _=>exact g1.elim
noncomputable def mIf (n:MB) (ma mb:MX):MX:=fun ρ μ=>(n ρ μ).bind fun k μ1=>match k with
 | true=>ma ρ μ1
 | false=>mb ρ μ1
theorem zw (hc:MT X EX c n) (ha:ME X EX a ma) (hb:ME X EX b mb):ME X EX (.IfExp c a b pos) (mIf n ma mb):=by
 obtain ⟨tc,pc,sc⟩:=hc
 obtain ⟨ta,pa,sa⟩:=ha
 obtain ⟨tb,pb,sb⟩:=hb
 refine ⟨_,a80 pc pa pb,fun Z α F H σ ρ μ Q R g=>?_⟩
 refine sc Z α F H σ ρ μ _ R (GB.step (G:=GE X.K EX Z α F Q) g (fun _ _ h=>h) (fun h=>h) fun k μ1 α1 F1 H1 R1 e1 g1=>?_)
 cases k with
 | true=>exact sa Z α1 F1 H1 σ ρ μ1 Q (R.to R1 e1) (GE.ext e1 g1)
 | false=>exact sb Z α1 F1 H1 σ ρ μ1 Q (R.to R1 e1) (GE.ext e1 g1)
variable {ms:MAs}
noncomputable def mNil:MAs:=fun _ μ=>.ok [] μ
noncomputable def mCons (m:MX) (ms:MAs):MAs:=fun ρ μ=>(m ρ μ).bind fun d μ1=>(ms ρ μ1).bind fun ds μ2=>.ok (d::ds) μ2
theorem ma_nil:MA X EX [] mNil:=⟨_,cg,fun Z α F H σ ρ μ Q R g=>g [] α F H R.hp (Ext.refl _ _) jy,fun ρ μ ds μ' h=>by cases h;rfl⟩
theorem ma_cons (ha:ME X EX e m) (hr:MA X EX es ms) (hs:starEach (e::es) X.env=(false,eval e X.env)::starEach es X.env):MA X EX (e::es) (mCons m ms):=by
 obtain ⟨ta,pa,sa⟩:=ha
 obtain ⟨tr,pr,sr,lr⟩:=hr
 refine ⟨_,vz pa pr hs,fun Z α F H σ ρ μ Q R g=>?_,fun ρ μ ds μ' h=>?_⟩
 rotate_left
 ·unfold mCons at h
  cases e1:m ρ μ with
  | ok d μ1 =>
   rw [e1] at h
   simp only [bind_ok] at h
   cases e2:ms ρ μ1 with
   | ok dr μ2 =>
    rw [e2] at h
    simp only [bind_ok] at h
    cases h
    simp [lr _ _ _ _ e2]
   | exc x μ2=>rw [e2] at h;cases h
   | bad=>rw [e2] at h;cases h
  | exc x μ1=>rw [e1] at h;cases h
  | bad=>rw [e1] at h;cases h
 refine sa Z α F H σ ρ μ _ R (GE.step (G:=GA X.K EX Z α F Q) g (fun _ _ h=>h) (fun h=>h) fun d μ1 v α1 F1 H1 R1 e1 p g1=>?_)
 refine sr Z α1 F1 H1 σ ρ μ1 _ (R.to R1 e1) (GA.step (G:=GA X.K EX Z α F Q) g1 (fun _ _ h=>h) (fun h=>h) fun ds μ2 vs α2 F2 H2 R2 e2 p2 g2=>?_)
 exact g2 (v::vs) α2 F2 H2 R2 (e1.trans e2) (j4 (p.mono e2) p2)
noncomputable def ja (ms:MAs):MX:=fun ρ μ=>(ms ρ μ).bind fun ds μ1=>.ok (.tup ds) μ1
noncomputable def ua (ms:MAs):MX:=fun ρ μ=>(ms ρ μ).bind fun ds μ1=>.ok (.lst ds) μ1
theorem Xx {K:PySem.W.Frag} {Z:ZS} {F H:Hp} {α:List Addr} {μ:Mu} {ds:List D} {vs:List V} {p:Addr} (R:RH K Z α F H μ) (r:Reps K F α ds vs) (hp:H p=none) :
  RH K Z α (upd F p (.tup vs)) (upd H p (.tup vs)) μ∧J9 F (upd F p (.tup vs))∧Rep K (upd F p (.tup vs)) α (.tup ds) (.ref p) :=
 ⟨R.lay _ hp,xf R.sub hp,by unfold Rep;exact ⟨p,vs,rfl,SqT.of J4,r.mono (R.layExt _ hp)⟩⟩
theorem Q7 {K:PySem.W.Frag} {Z:ZS} {F H:Hp} {α:List Addr} {μ:Mu} {ds:List D} {vs:List V} {p:Addr} (R:RH K Z α F H μ) (r:Reps K F α ds vs) (hp:H p=none) :
  RH K Z α (upd F p (.lst vs)) (upd H p (.lst vs)) μ∧J9 F (upd F p (.lst vs))∧Rep K (upd F p (.lst vs)) α (.lst ds) (.ref p) :=
 ⟨R.lay _ hp,xf R.sub hp,by unfold Rep;exact ⟨p,vs,rfl,SqL.of J4,r.mono (R.layExt _ hp)⟩⟩
theorem ju {x1} (h:MA X EX es ms) (hl:es.length≤16777216:=by decide):ME X EX (.Tuple es x1 pos) (ja ms):=by
 obtain ⟨t,p,s,l⟩:=h
 refine ⟨_,ay8 p,fun Z α F H σ ρ μ Q R g=>?_⟩
 refine s Z α F H σ ρ μ _ R (GA.stepE (G:=GE X.K EX Z α F Q) g (fun _ _ h=>h) (fun h=>h) fun ds μ1 vs α1 F1 H1 hm R1 e1 p1 g1=>?_)
 refine ⟨by rw [← p1.length,sizeLine_eq,l _ _ _ _ hm];exact hl,fun q hq=>?_⟩
 obtain ⟨a1,a2,a3⟩:=Xx R1 p1 hq
 exact g1 _ α1 _ _ a1 (e1.trans ⟨a2,fun _ _ h=>h⟩) a3
theorem Ja (h:MA X EX es ms) (hl:es.length≤16777216:=by decide):ME X EX (.List es pos) (ua ms):=by
 obtain ⟨t,p,s,l⟩:=h
 refine ⟨_,cm p,fun Z α F H σ ρ μ Q R g=>?_⟩
 refine s Z α F H σ ρ μ _ R (GA.stepE (G:=GE X.K EX Z α F Q) g (fun _ _ h=>h) (fun h=>h) fun ds μ1 vs α1 F1 H1 hm R1 e1 p1 g1=>?_)
 refine ⟨by rw [← p1.length,sizeLine_eq,l _ _ _ _ hm];exact hl,fun q hq=>?_⟩
 obtain ⟨a1,a2,a3⟩:=Q7 R1 p1 hq
 exact g1 _ α1 _ _ a1 (e1.trans ⟨a2,fun _ _ h=>h⟩) a3
noncomputable def gIdx:G2:=fun a b=>match a,b with
 | .lst ds,.int i=>atI ds i
 | .tup ds,.int i=>atI ds i
 | .str cs,.int i=>if cs.length≤16777216 then (atI cs i).map fun c=>.str [c] else none
 | _,_=>none
theorem Ef {K:PySem.W.Frag} {F:Hp} {α:List Addr} {ds:List D} {vs:List V} {i:Int} {d:D} (r:Reps K F α ds vs) (h:atI ds i=some d):∃ v,atI vs i=some v∧Rep K F α d v:=by
 unfold atI at h ⊢
 rw [← r.length]
 cases e:ixN ds.length i with
 | none=>rw [e] at h;cases h
 | some j=>rw [e] at h;exact r.get h
theorem cr {K:PySem.W.Frag}:y9 K (rIx K) gIdx:=by
 intro Z α F H μ a b c x y Q R ha hb hg k
 cases b with
 | int i =>
  unfold Pk Rep at hb
  subst hb
  cases a with
  | lst ds =>
   obtain ⟨p,vs,rfl,hs,hr⟩:=ha
   obtain ⟨v,h1,h2⟩:=Ef hr hg
   exact .inl ⟨p,vs,i,v,rfl,rfl,hs,h1,k v F H R (J9.refl _) h2⟩
  | tup ds =>
   unfold Pk Rep at ha
   obtain ⟨p,vs,rfl,hs,hr⟩:=ha
   obtain ⟨v,h1,h2⟩:=Ef hr hg
   exact .inr (.inl ⟨p,vs,i,v,rfl,rfl,J9.tup R.sub hs,h1,k v F H R (J9.refl _) h2⟩)
  | str cs =>
   unfold Pk Rep at ha
   subst ha
   simp only [gIdx] at hg
   split at hg
   ·rename_i hl
    cases e:atI cs i with
    | none=>rw [e] at hg;cases hg
    | some c' =>
     rw [e] at hg
     cases hg
     exact .inr (.inr ⟨_,i,c',rfl,rfl,by rw [sizeLine_eq];simpa [Str.length] using hl,by simpa using e,k _ F H R (J9.refl _) (by unfold Rep;rfl)⟩)
   ·cases hg
  | _=>cases hg
 | _=>cases a <;> cases hg
theorem me_idx (ha:ME X EX a ma) (hb:ME X EX b mb) (hs:A7 b):ME X EX (.Subscript a b pos) (mBin gIdx ma mb):=by
 obtain ⟨ta,pa,sa⟩:=ha
 obtain ⟨tb,pb,sb⟩:=hb
 exact ⟨_,aL4 aE3 pa pb hs,Yd sa sb cr⟩
end
end M
set_option Elab.async false
set_option linter.all false
set_option maxRecDepth 100000
set_option maxHeartbeats 4000000
namespace M
open PySem PySem.Spec PyProof.Rows L2
theorem ui {K:PySem.W.Frag} {F:Hp} {α:List Addr} (i:Int):Rep K F α (.int i) (.int i):=by unfold Rep;rfl
theorem Yy {K:PySem.W.Frag} {F:Hp} {α:List Addr} (i:Bool):Rep K F α (.bl i) (.bl i):=by unfold Rep;rfl
theorem f6 {K:PySem.W.Frag} {F:Hp} {α:List Addr}:Rep K F α .non .non:=by unfold Rep;rfl
theorem ah7 {K:PySem.W.Frag} {F:Hp} {α:List Addr} (x:List Nat):Rep K F α (.str x) (.str ⟨x.toArray⟩):=by unfold Rep;rfl
theorem yc {K:PySem.W.Frag} {F H:Hp} {α:List Addr} {i:Int} {v:V} (h:Pk K α F H (.int i) v):v=.int i:=by unfold Pk Rep at h;exact h
theorem ar9 {K:PySem.W.Frag} {F H:Hp} {α:List Addr} {i:Bool} {v:V} (h:Pk K α F H (.bl i) v):v=.bl i:=by unfold Pk Rep at h;exact h
theorem Vh {K:PySem.W.Frag} {F H:Hp} {α:List Addr} {x:List Nat} {v:V} (h:Pk K α F H (.str x) v):v=.str ⟨x.toArray⟩:=by unfold Pk Rep at h;exact h
theorem ay6 {K:PySem.W.Frag} {F H:Hp} {α:List Addr} {v:V} (h:Pk K α F H .non v):v=.non:=by unfold Pk Rep at h;exact h
noncomputable def zq (h:Int→Int→Option Int):G2:=fun a b=>match a,b with
 | .int i,.int j=>(h i j).map .int
 | _,_=>none
noncomputable def Dz (h:Int→Int→Bool):G2:=fun a b=>match a,b with
 | .int i,.int j=>some (.bl (h i j))
 | _,_=>none
section
variable {X:Cx} {EX:EXT}
theorem Vs {K:PySem.W.Frag} {C:Int→Int→Prop} [inst:∀ i j,Decidable (C i j)] {h:Int→Int→Int}:y9 K (rI C fun i j=>.int (h i j)) (zq fun i j=>if C i j then some (h i j) else none):=by
 intro Z α F H μ a b c x y Q R ha hb hg k
 cases a with
 | int i =>
  cases b with
  | int j =>
   have ha:=yc ha
   have hb:=yc hb
   simp only [zq] at hg
   by_cases hc:C i j
   ·rw [if_pos hc] at hg
    cases hg
    exact ⟨i,j,ha,hb,hc,k _ F H R (J9.refl _) (ui _)⟩
   ·rw [if_neg hc] at hg;cases hg
  | _=>cases hg
 | _=>cases hg
theorem xg {K:PySem.W.Frag} {h:Int→Int→Int}:y9 K (rI0 fun i j=>.int (h i j)) (zq fun i j=>some (h i j)):=by
 intro Z α F H μ a b c x y Q R ha hb hg k
 cases a with
 | int i =>
  cases b with
  | int j =>
   have ha:=yc ha
   have hb:=yc hb
   cases hg
   exact ⟨i,j,ha,hb,k _ F H R (J9.refl _) (ui _)⟩
  | _=>cases hg
 | _=>cases hg
theorem v8 {K:PySem.W.Frag} {h:Int→Int→Bool}:y9 K (rI0 fun i j=>.bl (h i j)) (Dz h):=by
 intro Z α F H μ a b c x y Q R ha hb hg k
 cases a with
 | int i =>
  cases b with
  | int j =>
   have ha:=yc ha
   have hb:=yc hb
   cases hg
   exact ⟨i,j,ha,hb,k _ F H R (J9.refl _) (Yy _)⟩
  | _=>cases hg
 | _=>cases hg
noncomputable def gOr (g h:G2):G2:=fun a b=>match g a b with
 | some c=>some c
 | none=>h a b
theorem y9.or {K:PySem.W.Frag} {r r':R2} {g g':G2} (h:y9 K r g) (h':y9 K r' g'):y9 K (fun x y H Q=>r x y H Q∨r' x y H Q) (gOr g g'):=by
 intro Z α F H μ a b c x y Q R ha hb hg k
 unfold gOr at hg
 cases e:g a b with
 | some d=>rw [e] at hg;have hg:d=c:=Option.some.inj hg;subst hg;exact .inl (h Z α F H μ a b _ x y Q R ha hb e k)
 | none=>rw [e] at hg;exact .inr (h' Z α F H μ a b c x y Q R ha hb hg k)
theorem OpM.or {f:Value→Value→Sem Value} {g g':G2} (h:OpM X f g) (h':OpM X f g'):OpM X f (gOr g g'):=by
 obtain ⟨r,a,b⟩:=h
 obtain ⟨r',a',b'⟩:=h'
 exact ⟨_,a.or a',b.or b'⟩
theorem OpM.as {f:Value→Value→Sem Value} {g g':G2} (h:OpM X f g) (e:∀ a b c,g' a b=some c→g a b=some c):OpM X f g':=by
 obtain ⟨r,a,b⟩:=h
 exact ⟨r,a,fun Z α F H μ p q c x y Q R ha hb hg k=>b Z α F H μ p q c x y Q R ha hb (e p q c hg) k⟩
noncomputable def a7:G2:=fun a b=>match a,b with
 | .tup xs,.tup ys=>if decide (xs.length + ys.length≤16777216) && !xs.isEmpty then some (.tup (xs++ys)) else none
 | _,_=>none
noncomputable def ad5:G2:=fun a b=>match a,b with
 | .tup [],.tup ys=>some (.tup ys)
 | _,_=>none
noncomputable def at8:G2:=fun a b=>match a,b with
 | .lst xs,.lst ys=>if xs.length + ys.length≤16777216 then some (.lst (xs++ys)) else none
 | _,_=>none
noncomputable def a8:G2:=fun a b=>match a,b with
 | .str xs,.str ys=>if xs.length + ys.length≤16777216 then some (.str (xs++ys)) else none
 | _,_=>none
noncomputable def Jj:G2:=fun a b=>match a,b with
 | .int i,.int j=>some (.int (i + j))
 | .str xs,.str ys=>if xs.length + ys.length≤16777216 then some (.str (xs++ys)) else none
 | .tup xs,.tup ys=>if xs.length + ys.length≤16777216 then some (.tup (xs++ys)) else none
 | .lst xs,.lst ys=>if xs.length + ys.length≤16777216 then some (.lst (xs++ys)) else none
 | _,_=>none
theorem cv (x y:List Nat):(⟨x.toArray⟩:Str)++(⟨y.toArray⟩:Str)=⟨(x++y).toArray⟩:=by
 show Str.append _ _=_
 unfold Str.append
 simp
theorem al5:OpM X (binaryOp .Add) a8:=by
 refine ⟨_,cf,fun Z α F H μ a b c x y Q R ha hb hg k=>?_⟩
 cases a with
 | str i =>
  cases b with
  | str j =>
   have ha:=Vh ha
   have hb:=Vh hb
   simp only [a8] at hg
   split at hg
   ·rename_i hl
    cases hg
    refine ⟨_,_,ha,hb,by rw [sizeLine_eq];simpa [Str.length] using hl,?_⟩
    rw [cv]
    exact k _ F H R (J9.refl _) (ah7 _)
   ·cases hg
  | _=>cases hg
 | _=>cases hg
theorem al4:OpM X (binaryOp .Add) a7:=by
 refine ⟨_,al0,fun Z α F H μ a b c x y Q R ha hb hg k=>?_⟩
 cases a with
 | tup i =>
  cases b with
  | tup j =>
   have ha0:=ha
   unfold Pk Rep at ha hb
   obtain ⟨p,vs,rfl,hs,hr⟩:=ha
   obtain ⟨p',vs',rfl,hs',hr'⟩:=hb
   simp only [a7] at hg
   split at hg
   ·rename_i hl
    cases hg
    rw [Bool.and_eq_true] at hl
    have h1:=of_decide_eq_true hl.1
    refine ⟨p,p',vs,vs',rfl,rfl,J9.tup R.sub hs,J9.tup R.sub hs',?_,by rw [sizeLine_eq,← hr.length,← hr'.length];exact h1,fun he=>?_,fun _ q hq=>?_⟩
    ·intro he
     subst he
     have:=hr.length
     cases i with
     | nil=>simp at hl
     | cons _ _=>simp at this
    ·subst he
     have:=hr'.length
     cases j with
     | nil=>rw [List.append_nil] at k;exact k _ F H R (J9.refl _) ha0
     | cons _ _=>simp at this
    ·obtain ⟨a1,a2,a3⟩:=Xx R (hr.append hr') hq
     exact k _ _ _ a1 a2 a3
   ·cases hg
  | _=>cases hg
 | _=>cases hg
noncomputable def aK5 (K:PySem.W.Frag):R2:=fun x y H Q=>∃ l b xs zs,x=.ref l∧y=.ref b∧SqL K H l xs∧SqL K H b zs∧xs.length + zs.length≤sizeLine∧∀ p,H p=none→Q (.ref p) (upd H p (.lst (xs++zs)))
theorem al1:OpR X (binaryOp .Add) (aK5 X.K):=by
 intro pins s σ H x y v u Q I rx ry h
 obtain ⟨l,b,xs,zs,rfl,rfl,hH,hB,hz,q⟩:=h
 cases rx
 cases ry
 obtain ⟨its,r,pl,_⟩:=I.list hH
 obtain ⟨its2,r2,pl2,_⟩:=I.list hB
 obtain ⟨m,F⟩:=I.fr
 have e1:=r.length
 have e2:=r2.length
 obtain ⟨⟨cls,dd,data,sl⟩,n,ho,hc,hd,hs⟩:=pl
 obtain ⟨⟨cls2,dd2,data2,sl2⟩,n2,ho2,hc2,hd2,hs2⟩:=pl2
 simp only at hc hd hs hc2 hd2 hs2
 subst hc hd hs hc2 hd2 hs2
 have ea:its.toArray++its2.toArray=(its++its2).toArray:=by simp
 refine concat_meets ⟨_,ho,rfl⟩ ⟨_,ho2,rfl⟩ noFill_list_add seq_list_add PySem.F.slot_list_add PySem.F.entry_list_add (PySem.F.args_list_add_2 _ _) (list_addW l b its.toArray its2.toArray n n2 _ _ sl sl2 (by simp only [List.size_toArray];omega)) ⟨ho,ho2,?_⟩
 rw [ea]
 exact ⟨.ref _,_,I.lnew (t':=s.toks) (r.append r2) (by rw [List.length_append];omega),rfl,q _ I.fresh⟩
theorem a90:OpR X (binaryOp .Add) (fun x y H Q=>∃ a b ys,x=.ref a∧y=.ref b∧SqT X.K H a []∧SqT X.K H b ys∧Q (.ref b) H):=by
 intro pins s σ H x y v u Q I rx ry h
 obtain ⟨a,b,ys,rfl,rfl,ha,hb,q⟩:=h
 cases rx
 cases ry
 obtain ⟨its,r1,p1,_⟩:=I.tuple ha
 obtain ⟨its2,r2,p2,_⟩:=I.tuple hb
 have e1:its.length=0:=r1.length.symm
 obtain rfl:=List.length_eq_zero_iff.mp e1
 obtain ⟨o1,g1,c1,n1,d1⟩:=p1
 obtain ⟨o2,g2,c2,n2,d2⟩:=p2
 obtain ⟨k1,f1,w1,z1⟩:=o1
 obtain ⟨k2,f2,w2,z2⟩:=o2
 dsimp only at c1 d1 c2 d2
 subst c1 d1 c2 d2
 exact concat_meets ⟨_,g1,rfl⟩ ⟨_,g2,rfl⟩ noFill_tuple_add seq_tuple_add PySem.F.slot_tuple_add PySem.F.entry_tuple_add (PySem.F.args_tuple_add_2 _ _)
  (tuple_addW0 a b #[] its2.toArray n1 n2 f1 f2 z1 z2 rfl) ⟨g1,g2,.ref b,H,I,rfl,q⟩
theorem a92:OpM X (binaryOp .Add) ad5:=by
 refine ⟨_,a90,fun Z α F H μ a b c x y Q R ha hb hg k=>?_⟩
 cases a with
 | tup i =>
  cases i with
  | nil =>
   cases b with
   | tup j =>
    have hb0:=hb
    unfold Pk Rep at ha hb
    obtain ⟨p,vs,rfl,hs,hr⟩:=ha
    obtain ⟨p',vs',rfl,hs',hr'⟩:=hb
    cases hg
    have:=hr.length
    cases vs with
    | nil=>exact ⟨p,p',vs',rfl,rfl,J9.tup R.sub hs,J9.tup R.sub hs',k _ F H R (J9.refl _) hb0⟩
    | cons _ _=>simp at this
   | _=>cases hg
  | cons _ _=>cases b <;> cases hg
 | _=>cases hg
theorem al6:OpM X (binaryOp .Add) at8:=by
 refine ⟨_,al1,fun Z α F H μ a b c x y Q R ha hb hg k=>?_⟩
 cases a with
 | lst i =>
  cases b with
  | lst j =>
   unfold Pk at ha hb
   obtain ⟨p,vs,rfl,hs,hr⟩:=ha
   obtain ⟨p',vs',rfl,hs',hr'⟩:=hb
   simp only [at8] at hg
   split at hg
   ·rename_i hl
    cases hg
    refine ⟨p,p',vs,vs',rfl,rfl,hs,hs',by rw [sizeLine_eq,← hr.length,← hr'.length];exact hl,fun q hq=>?_⟩
    obtain ⟨a1,a2,a3⟩:=Q7 R (hr.append hr') hq
    exact k _ _ _ a1 a2 a3
   ·cases hg
  | _=>cases hg
 | _=>cases hg
theorem om_add:OpM X (binaryOp .Add) Jj:=by
 have h0:OpM X (binaryOp .Add) (zq fun i j=>some (i + j)):=⟨_,aB7,xg⟩
 refine OpM.as (OpM.or h0 (OpM.or al5 (OpM.or a92 (OpM.or al4 al6)))) fun a b c h=>?_
 cases a with
 | int i=>cases b with
  | int j=>exact h
  | _=>cases h
 | str i=>cases b with
  | str j=>have h:a8 (.str i) (.str j)=some c:=h;simp only [gOr,zq,h]
  | _=>cases h
 | tup i=>cases b with
  | tup j =>
   cases i with
   | nil =>
    simp only [Jj] at h
    split at h
    ·cases h;rfl
    ·cases h
   | cons i0 ir =>
    simp only [Jj] at h
    split at h
    ·rename_i hl
     cases h
     have e:a7 (.tup (i0::ir)) (.tup j)=some (.tup (i0::ir++j)):=by
      simp only [a7,List.isEmpty_cons,Bool.not_false,Bool.and_true]
      rw [if_pos (by simpa using hl)]
     simp only [gOr,zq,a8,ad5,e]
    ·cases h
  | _=>cases h
 | lst i=>cases b with
  | lst j=>exact h
  | _=>cases h
 | _=>cases h
noncomputable def yu:G2:=zq fun i j=>some (i - j)
theorem Ui:OpM X (binaryOp .Sub) yu:=⟨_,aA6,xg⟩
instance (i j:Int):Decidable (a32 i j):=by unfold a32;infer_instance
instance (i j:Int):Decidable (aq7 i j):=by unfold aq7;infer_instance
noncomputable def Uh:G2:=zq fun i j=>if a32 i j then some (i * j) else none
theorem om_mul:OpM X (binaryOp .Mult) Uh:=⟨_,aB1,Vs⟩
noncomputable def CDv (i j:Int):Prop:=0 < j∧j < 18446744073709551616
instance (i j:Int):Decidable (CDv i j):=by unfold CDv;infer_instance
theorem aB5:OpR X (binaryOp .FloorDiv) (rI CDv fun i j=>.int (i / j)):=opI fun i j _ _ _ _ _ hc q=>by
 have h1:(0:Int) < j:=hc.1
 have h2:j < 18446744073709551616:=hc.2
 refine floordiv_int (by omega) (by rw [Int.fdiv_eq_ediv_of_nonneg i (by omega)];exact q) (.inl (PyProof.noPylong_of_log2 ?_))
 have h3:j.natAbs < 2 ^ 64:=by omega
 have h4:j.natAbs≠0:=by omega
 have:=(Nat.log2_lt h4).mpr h3
 omega
noncomputable def Ug:G2:=zq fun i j=>if CDv i j then some (i / j) else none
theorem om_div:OpM X (binaryOp .FloorDiv) Ug:=⟨_,aB5,Vs⟩
noncomputable def Jp:G2:=zq fun i j=>if 0 < j then some (i % j) else none
theorem om_mod:OpM X (binaryOp .Mod) Jp:=⟨_,aB2,Vs⟩
noncomputable def ao8:G2:=zq fun i j=>some (Builtin.bitAnd i j)
theorem Bx:OpM X (binaryOp .BitAnd) ao8:=⟨_,aB6,xg⟩
noncomputable def aE8:G2:=zq fun i j=>some (Builtin.bitOr i j)
theorem aC0:OpM X (binaryOp .BitOr) aE8:=⟨_,aM4,xg⟩
noncomputable def aE6:G2:=zq fun i j=>some (Builtin.bitXor i j)
theorem al3:OpM X (binaryOp .BitXor) aE6:=⟨_,aA5,xg⟩
noncomputable def ao7:G2:=zq fun i j=>if aq7 i j then some (i * 2 ^ j.toNat) else none
theorem aB9:OpM X (binaryOp .LShift) ao7:=⟨_,aA8,Vs⟩
noncomputable def ao6:G2:=zq fun i j=>if 0≤j then some (i / 2 ^ j.toNat) else none
theorem aB8:OpM X (binaryOp .RShift) ao6:=⟨_,aA7,Vs⟩
noncomputable def gLt:G2:=Dz fun i j=>decide (i < j)
noncomputable def gLe:G2:=Dz fun i j=>decide (i≤j)
noncomputable def gGt:G2:=Dz fun i j=>decide (j < i)
noncomputable def gGe:G2:=Dz fun i j=>decide (j≤i)
theorem om_lt:OpM X (compareOp .Lt) gLt:=⟨_,aM5,v8⟩
theorem Vd:OpM X (compareOp .LtE) gLe:=⟨_,aM6,v8⟩
theorem G6:OpM X (compareOp .Gt) gGt:=⟨_,aM7,v8⟩
theorem om_ge:OpM X (compareOp .GtE) gGe:=⟨_,aM8,v8⟩
end
mutual
noncomputable def jr:D→Bool
 | .non=>true
 | .bl _=>true
 | .int _=>true
 | .str x=>x.all (· < 0x110000)
 | .tup xs=>plainDs xs
 | .lst xs=>plainDs xs
 | .dic _ _=>false
 | .ref _=>false
noncomputable def plainDs:List D→Bool
 | []=>true
 | d::ds=>jr d && plainDs ds
end
mutual
noncomputable def dpt:D→Nat
 | .tup xs=>dpts xs + 1
 | .lst xs=>dpts xs + 1
 | _=>0
noncomputable def dpts:List D→Nat
 | []=>0
 | d::ds=>max (dpt d) (dpts ds)
end
mutual
noncomputable def uv:D→PyData
 | .non=>.none
 | .bl b=>.bool b
 | .int i=>.int i
 | .str x=>.str ⟨x.toArray⟩
 | .tup xs=>.tuple (toPys xs)
 | .lst xs=>.list (toPys xs)
 | .dic _ _=>.none
 | .ref _=>.none
noncomputable def toPys:List D→List PyData
 | []=>[]
 | d::ds=>uv d::toPys ds
end
mutual
noncomputable def eqD:D→D→Bool
 | .non,b=>match b with
  | .non=>true
  | _=>false
 | .bl a,b=>match b with
  | .bl c=>a == c
  | .int j=>(if a then 1 else 0) == j
  | _=>false
 | .int i,b=>match b with
  | .int j=>i == j
  | .bl c=>i == (if c then 1 else 0)
  | _=>false
 | .str x,b=>match b with
  | .str y=>x == y
  | _=>false
 | .tup xs,b=>match b with
  | .tup ys=>eqDs xs ys
  | _=>false
 | .lst xs,b=>match b with
  | .lst ys=>eqDs xs ys
  | _=>false
 | .dic _ _,_=>false
 | .ref _,_=>false
noncomputable def eqDs:List D→List D→Bool
 | [],b=>b.isEmpty
 | x::xs,b=>match b with
  | []=>false
  | y::ys=>eqD x y && eqDs xs ys
end
theorem cw (x y:List Nat):((⟨x.toArray⟩:Str) == (⟨y.toArray⟩:Str))=(x == y):=by
 rw [Bool.eq_iff_iff]
 simp
mutual
theorem Z5:∀ (a b:D),jr a=true→jr b=true→PyData.eqv (uv a) (uv b)=eqD a b
 | .non,b,_,hb=>by cases b <;> first | (simp [jr] at hb;done) | (simp [uv,eqD,PyData.eqv];done)
 | .bl a,b,_,hb=>by cases b <;> first | (simp [jr] at hb;done) | (simp [uv,eqD,PyData.eqv];done)
 | .int a,b,_,hb=>by cases b <;> first | (simp [jr] at hb;done) | (simp [uv,eqD,PyData.eqv];done)
 | .str a,b,_,hb=>by
  cases b with
  | str y=>simp only [uv,eqD,PyData.eqv];exact cw _ _
  | dic _ _=>simp [jr] at hb
  | ref _=>simp [jr] at hb
  | _=>simp [uv,eqD,PyData.eqv]
 | .tup a,b,ha,hb=>by
  cases b with
  | tup b=>simp only [uv,eqD,PyData.eqv];exact eqvs_toPys a b (by simpa [jr] using ha) (by simpa [jr] using hb)
  | dic _ _=>simp [jr] at hb
  | ref _=>simp [jr] at hb
  | _=>simp [uv,eqD,PyData.eqv]
 | .lst a,b,ha,hb=>by
  cases b with
  | lst b=>simp only [uv,eqD,PyData.eqv];exact eqvs_toPys a b (by simpa [jr] using ha) (by simpa [jr] using hb)
  | dic _ _=>simp [jr] at hb
  | ref _=>simp [jr] at hb
  | _=>simp [uv,eqD,PyData.eqv]
 | .dic _ _,_,ha,_=>by simp [jr] at ha
 | .ref _,_,ha,_=>by simp [jr] at ha
theorem eqvs_toPys:∀ (a b:List D),plainDs a=true→plainDs b=true→PyData.eqvAll (toPys a) (toPys b)=eqDs a b
 | [],[],_,_=>by simp [toPys,eqDs,PyData.eqvAll]
 | [],_::_,_,_=>by simp [toPys,eqDs,PyData.eqvAll]
 | _::_,[],_,_=>by simp [toPys,eqDs,PyData.eqvAll]
 | x::xs,y::ys,ha,hb=>by
  simp only [plainDs,Bool.and_eq_true] at ha hb
  simp only [toPys,eqDs,PyData.eqvAll]
  rw [Z5 x y ha.1 hb.1,eqvs_toPys xs ys ha.2 hb.2]
end
mutual
theorem uf:∀ (a:D),jr a=true→(uv a).canLay0=true
 | .non,_=>by simp [uv,PyData.canLay0]
 | .bl _,_=>by simp [uv,PyData.canLay0]
 | .int _,_=>by simp [uv,PyData.canLay0]
 | .str x,h=>by simp only [uv,PyData.canLay0,PyData.strOk];simpa [jr] using h
 | .tup xs,h=>by simp only [uv,PyData.canLay0];exact canLays_toPy xs (by simpa [jr] using h)
 | .lst xs,h=>by simp only [uv,PyData.canLay0];exact canLays_toPy xs (by simpa [jr] using h)
 | .dic _ _,h=>by simp [jr] at h
 | .ref _,h=>by simp [jr] at h
theorem canLays_toPy:∀ (a:List D),plainDs a=true→PyData.canLayAll0 (toPys a)=true
 | [],_=>by simp [toPys,PyData.canLayAll0]
 | x::xs,h=>by
  simp only [plainDs,Bool.and_eq_true] at h
  simp only [toPys,PyData.canLayAll0,uf x h.1,canLays_toPy xs h.2,Bool.and_self]
end
mutual
theorem Ya:∀ (a:D),(uv a).depth=dpt a
 | .non=>by simp [uv,PyData.depth,dpt]
 | .bl _=>by simp [uv,PyData.depth,dpt]
 | .int _=>by simp [uv,PyData.depth,dpt]
 | .str x=>by simp [uv,PyData.depth,dpt]
 | .tup xs=>by simp only [uv,PyData.depth,dpt];rw [depths_toPys xs]
 | .lst xs=>by simp only [uv,PyData.depth,dpt];rw [depths_toPys xs]
 | .dic _ _=>by simp [uv,PyData.depth,dpt]
 | .ref _=>by simp [uv,PyData.depth,dpt]
theorem depths_toPys:∀ (a:List D),PyData.depthAll (toPys a)=dpts a
 | []=>by simp [toPys,PyData.depthAll,dpts]
 | x::xs=>by simp only [toPys,PyData.depthAll,dpts];rw [Ya x,depths_toPys xs]
end
section
variable {X:Cx} {EX:EXT}
mutual
theorem Vj {pins:List (Addr×Obj)} {σ:L2.St} {H F:Hp} {s:Shared} {α:List Addr} (I:Inv X pins σ H s) (sub:J9 F H):∀ (d:D) (v:V) (u:Value),jr d=true→Rep X.K F α d v→Jv v u→∃ as,Reads s.heap u (uv d) as
 | .non,v,u,_,h,r=>by unfold Rep at h;subst h;cases r;exact ⟨_,by rw [uv];exact .none⟩
 | .bl b,v,u,_,h,r=>by unfold Rep at h;subst h;cases r;exact ⟨_,by rw [uv];exact .bool b⟩
 | .int b,v,u,_,h,r=>by unfold Rep at h;subst h;obtain ⟨t,rfl⟩:=r;exact ⟨_,by rw [uv];exact .int b t⟩
 | .str b,v,u,_,h,r=>by unfold Rep at h;subst h;obtain ⟨t,rfl⟩:=r;exact ⟨_,by rw [uv];exact .str _ t⟩
 | .tup ds,v,u,hp,h,r=>by
  unfold Rep at h
  obtain ⟨a,vs,rfl,hs,hr⟩:=h
  cases r
  obtain ⟨its,rv,⟨o,e1,e2,n,e3⟩,_⟩:=I.tuple (J9.tup sub hs)
  obtain ⟨as,q⟩:=readsAll_of I sub ds vs its (by simpa [jr] using hp) hr rv
  exact ⟨_,by rw [uv];exact .tuple e1 e2 e3 (by simpa using q)⟩
 | .lst ds,v,u,hp,h,r=>by
  unfold Rep at h
  obtain ⟨a,vs,rfl,hs,hr⟩:=h
  cases r
  obtain ⟨its,rv,⟨o,n,e1,e2,_,e3⟩,_⟩:=I.list (sub.seq hs)
  obtain ⟨as,q⟩:=readsAll_of I sub ds vs its (by simpa [jr] using hp) hr rv
  exact ⟨_,by rw [uv];exact .list e1 e2 e3 (by simpa using q)⟩
 | .dic _ _,_,_,hp,_,_=>by simp [jr] at hp
 | .ref _,_,_,hp,_,_=>by simp [jr] at hp
theorem readsAll_of {pins:List (Addr×Obj)} {σ:L2.St} {H F:Hp} {s:Shared} {α:List Addr} (I:Inv X pins σ H s) (sub:J9 F H):∀ (ds:List D) (vs:List V) (us:List Value),plainDs ds=true→Reps X.K F α ds vs→J7 vs us→∃ as,ReadsAll s.heap us (toPys ds) as
 | [],vs,us,_,h,r=>by unfold Reps at h;subst h;cases r;exact ⟨_,by rw [toPys];exact .nil⟩
 | d::ds,vs,us,hp,h,r=>by
  unfold Reps at h
  obtain ⟨v,vr,rfl,h1,h2⟩:=h
  cases r with
  | cons r1 r2 =>
   simp only [plainDs,Bool.and_eq_true] at hp
   obtain ⟨as,q1⟩:=Vj I sub d v _ hp.1 h1 r1
   obtain ⟨bs,q2⟩:=readsAll_of I sub ds vr _ hp.2 h2 r2
   exact ⟨_,by rw [toPys];exact .cons q1 q2⟩
end
theorem qw {pins:List (Addr×Obj)} {σ:L2.St} {H F:Hp} {s:Shared} {α:List Addr} (I:Inv X pins σ H s) (sub:J9 F H) {d:D} {v:V} {u:Value} (hp:jr d=true) (h:Pk X.K α F H d v) (r:Jv v u):∃ as,Reads s.heap u (uv d) as:=by
 cases d with
 | lst ds =>
  obtain ⟨a,vs,rfl,hs,hr⟩:=h
  cases r
  obtain ⟨its,rv,⟨o,n,e1,e2,_,e3⟩,_⟩:=I.list hs
  obtain ⟨as,q⟩:=readsAll_of I sub ds vs its (by simpa [jr] using hp) hr rv
  exact ⟨_,by rw [uv];exact .list e1 e2 e3 (by simpa using q)⟩
 | dic _ _=>simp [jr] at hp
 | _=>exact Vj (α:=α) I sub _ v u hp h r
noncomputable def qg (a b:D):Bool:=jr a && jr b && decide (min (dpt a) (dpt b)≤100)
noncomputable def gEq:G2:=fun a b=>if qg a b then some (.bl (eqD a b)) else none
noncomputable def gNe:G2:=fun a b=>if qg a b then some (.bl (!eqD a b)) else none
noncomputable def aK3 (K:PySem.W.Frag) (neg:Bool):R2:=fun x y H Q=>∃ F α a b,J9 F H∧Pk K α F H a x∧Pk K α F H b y∧qg a b=true∧Q (.bl (if neg then !eqD a b else eqD a b)) H
theorem Dm {A:Around} {a b:D} (hu:A.units + 200 < cLine) (h:qg a b=true):A.units + min (uv a).depth (uv b).depth < cLine:=by
 unfold qg at h
 simp only [Bool.and_eq_true,decide_eq_true_eq] at h
 rw [Ya,Ya]
 omega
theorem aB4 (hu:X.A.units + 200 < cLine):OpR X (compareOp .Eq) (aK3 X.K false):=by
 intro pins s σ H x y v u Q I rx ry h
 obtain ⟨F,α,a,b,sub,ha,hb,hc,q⟩:=h
 have hc':=hc
 unfold qg at hc'
 simp only [Bool.and_eq_true] at hc'
 obtain ⟨as,r1⟩:=qw I sub hc'.1.1 ha rx
 obtain ⟨bs,r2⟩:=qw I sub hc'.1.2 hb ry
 refine PySem.SeqAt.compareEq_reads r1 r2 (uf _ hc'.1.1) (uf _ hc'.1.2) (Dm hu hc) ?_
 rw [Z5 _ _ hc'.1.1 hc'.1.2]
 exact ⟨.bl _,H,I,rfl,q⟩
theorem aB0 (hu:X.A.units + 200 < cLine):OpR X (compareOp .NotEq) (aK3 X.K true):=by
 intro pins s σ H x y v u Q I rx ry h
 obtain ⟨F,α,a,b,sub,ha,hb,hc,q⟩:=h
 have hc':=hc
 unfold qg at hc'
 simp only [Bool.and_eq_true] at hc'
 obtain ⟨as,r1⟩:=qw I sub hc'.1.1 ha rx
 obtain ⟨bs,r2⟩:=qw I sub hc'.1.2 hb ry
 refine PySem.SeqAt.compareNe_reads r1 r2 (uf _ hc'.1.1) (uf _ hc'.1.2) (Dm hu hc) ?_
 rw [Z5 _ _ hc'.1.1 hc'.1.2]
 exact ⟨.bl _,H,I,rfl,q⟩
theorem om_eq (hu:X.A.units + 200 < cLine):OpM X (compareOp .Eq) gEq:=by
 refine ⟨_,aB4 hu,fun Z α F H μ a b c x y Q R ha hb hg k=>?_⟩
 unfold gEq at hg
 split at hg
 ·rename_i hc
  cases hg
  exact ⟨F,α,a,b,R.sub,ha,hb,hc,k _ F H R (J9.refl _) (Yy _)⟩
 ·cases hg
theorem Ql (hu:X.A.units + 200 < cLine):OpM X (compareOp .NotEq) gNe:=by
 refine ⟨_,aB0 hu,fun Z α F H μ a b c x y Q R ha hb hg k=>?_⟩
 unfold gNe at hg
 split at hg
 ·rename_i hc
  cases hg
  exact ⟨F,α,a,b,R.sub,ha,hb,hc,k _ F H R (J9.refl _) (Yy _)⟩
 ·cases hg
noncomputable def inD (x:D) (ds:List D):Bool:=ds.any fun y=>eqD y x
noncomputable def Zg (x:D) (ds:List D):Bool:=jr x && plainDs ds && decide (dpt x≤100)
noncomputable def ad3 (neg:Bool):G2:=fun a b=>match b with
 | .lst ds=>if Zg a ds then some (.bl (if neg then !inD a ds else inD a ds)) else none
 | .tup ds=>if Zg a ds then some (.bl (if neg then !inD a ds else inD a ds)) else none
 | _=>none
noncomputable def gIn:G2:=ad3 false
noncomputable def zr:G2:=ad3 true
theorem F9 {pins:List (Addr×Obj)} {σ:L2.St} {H F:Hp} {s:Shared} {α:List Addr} {A:Around} (hu:A.units + 150 < cLine) (I:Inv X pins σ H s) (sub:J9 F H) {x:D} {v:V} {u:Value} (hx:jr x=true) (hd:dpt x≤100)
  (h:Pk X.K α F H x v) (r:Jv v u) (ds:List D) (vs:List V) (us:List Value) (hp:plainDs ds=true) (hr:Reps X.K F α ds vs) (rv:J7 vs us) :
  ∃ e:Value→Bool,(∀ w∈us,SeqAt.EqAt A s w u (e w))∧us.any e=inD x ds:=by
 obtain ⟨bs,rx⟩:=qw I sub hx h r
 have hone:∀ (d:D) (w:Value) (as:List Addr),jr d=true→Reads s.heap w (uv d) as→SeqAt.EqAt A s w u (eqD d x):=fun d w as hd' q=>by
  have:=PySem.SeqAt.eqAt_reads (uv d) (uv x) A s w u as bs q rx (uf _ hd') (uf _ hx) (by rw [Ya,Ya];omega)
  rw [Z5 _ _ hd' hx] at this
  exact this
 classical
 let e:Value→Bool:=fun w=>decide (∃ d as,jr d=true∧Reads s.heap w (uv d) as∧eqD d x=true)
 have he:∀ (d:D) (w:Value) (as:List Addr),jr d=true→Reads s.heap w (uv d) as→e w=eqD d x:=fun d w as hd' q=>by
  cases hq:eqD d x with
  | true=>exact decide_eq_true ⟨d,as,hd',q,hq⟩
  | false =>
   refine decide_eq_false ?_
   rintro ⟨d2,as2,hp2,q2,e2⟩
   have e3:=PySem.SeqAt.Reads.unique (uv d) (uv d2) w as as2 (uf _ hd') q q2
   rw [← Z5 _ _ hp2 hx,← e3,Z5 _ _ hd' hx,hq] at e2
   cases e2
 have all:∀ (ds:List D) (vs:List V) (us:List Value),plainDs ds=true→Reps X.K F α ds vs→J7 vs us→(∀ w∈us,SeqAt.EqAt A s w u (e w))∧us.any e=inD x ds:=by
  intro ds
  induction ds with
  | nil =>
   intro vs us _ hr rv
   unfold Reps at hr
   subst hr
   cases rv
   exact ⟨fun w hw=>(nomatch hw),rfl⟩
  | cons d ds ih =>
   intro vs us hp hr rv
   unfold Reps at hr
   obtain ⟨v1,vr,rfl,h1,h2⟩:=hr
   simp only [plainDs,Bool.and_eq_true] at hp
   cases rv with
   | cons r1 r2 =>
    obtain ⟨as,q1⟩:=Vj I sub d v1 _ hp.1 h1 r1
    obtain ⟨a1,a2⟩:=ih vr _ hp.2 h2 r2
    refine ⟨fun w hw=>?_,?_⟩
    ·rcases List.mem_cons.mp hw with rfl | hw
     ·rw [he d _ as hp.1 q1];exact hone d _ as hp.1 q1
     ·exact a1 w hw
    ·rw [List.any_cons,he d _ as hp.1 q1,a2]
     rfl
 exact ⟨e,(all ds vs us hp hr rv).1,(all ds vs us hp hr rv).2⟩
noncomputable def ax4 (K:PySem.W.Frag) (neg:Bool):R2:=fun x y H Q=>∃ F α a ds p vs,J9 F H∧Pk K α F H a x∧y=.ref p∧(SqL K H p vs∨SqT K H p vs)∧Reps K F α ds vs∧Zg a ds=true∧Q (.bl (if neg then !inD a ds else inD a ds)) H
theorem aB3 (hu:X.A.units + 200 < cLine):OpR X (compareOp .In) (ax4 X.K false):=by
 intro pins s σ H x y v u Q I rx ry h
 obtain ⟨F,α,a,ds,p,vs,sub,ha,rfl,hq,hr,hc,q⟩:=h
 unfold Zg at hc
 simp only [Bool.and_eq_true,decide_eq_true_eq] at hc
 cases ry
 rcases hq with hq | hq
 ·obtain ⟨its,r,pl,hz⟩:=I.list hq
  obtain ⟨e,e1,e2⟩:=F9 (A:=X.A.in1) (by show X.A.units + 1 + 150 < cLine;omega) I sub hc.1.1 hc.2 ha rx ds vs its hc.1.2 hr r
  refine SeqAt.in_listAt e pl.isList (fun w hw=>e1 w (by simpa using hw)) ⟨.bl _,H,I,rfl,?_⟩
  rw [show its.toArray.any e=its.any e by simp,e2]
  exact q
 ·obtain ⟨its,r,pl,hz⟩:=I.tuple hq
  obtain ⟨e,e1,e2⟩:=F9 (A:=X.A.in1) (by show X.A.units + 1 + 150 < cLine;omega) I sub hc.1.1 hc.2 ha rx ds vs its hc.1.2 hr r
  refine SeqAt.in_tupleAt e pl (fun w hw=>e1 w (by simpa using hw)) ⟨.bl _,H,I,rfl,?_⟩
  rw [show its.toArray.any e=its.any e by simp,e2]
  exact q
theorem Af (hu:X.A.units + 200 < cLine):OpR X (compareOp .NotIn) (ax4 X.K true):=by
 intro pins s σ H x y v u Q I rx ry h
 obtain ⟨F,α,a,ds,p,vs,sub,ha,rfl,hq,hr,hc,q⟩:=h
 unfold Zg at hc
 simp only [Bool.and_eq_true,decide_eq_true_eq] at hc
 cases ry
 rcases hq with hq | hq
 ·obtain ⟨its,r,pl,hz⟩:=I.list hq
  obtain ⟨e,e1,e2⟩:=F9 (A:=X.A.in1) (by show X.A.units + 1 + 150 < cLine;omega) I sub hc.1.1 hc.2 ha rx ds vs its hc.1.2 hr r
  refine SeqAt.notIn_listAt e pl.isList (fun w hw=>e1 w (by simpa using hw)) ⟨.bl _,H,I,rfl,?_⟩
  rw [show its.toArray.any e=its.any e by simp,e2]
  exact q
 ·obtain ⟨its,r,pl,hz⟩:=I.tuple hq
  obtain ⟨e,e1,e2⟩:=F9 (A:=X.A.in1) (by show X.A.units + 1 + 150 < cLine;omega) I sub hc.1.1 hc.2 ha rx ds vs its hc.1.2 hr r
  refine SeqAt.notIn_tupleAt e pl (fun w hw=>e1 w (by simpa using hw)) ⟨.bl _,H,I,rfl,?_⟩
  rw [show its.toArray.any e=its.any e by simp,e2]
  exact q
theorem ar4 {K:PySem.W.Frag} (neg:Bool):y9 K (ax4 K neg) (ad3 neg):=by
 intro Z α F H μ a b c x y Q R ha hb hg k
 cases b with
 | lst ds =>
  simp only [ad3] at hg
  split at hg
  ·rename_i hc
   have hg:=Option.some.inj hg
   subst hg
   obtain ⟨p,vs,rfl,hs,hr⟩:=hb
   exact ⟨F,α,a,ds,p,vs,R.sub,ha,rfl,.inl hs,hr,hc,k _ F H R (J9.refl _) (Yy _)⟩
  ·cases hg
 | tup ds =>
  simp only [ad3] at hg
  split at hg
  ·rename_i hc
   have hg:=Option.some.inj hg
   subst hg
   unfold Pk Rep at hb
   obtain ⟨p,vs,rfl,hs,hr⟩:=hb
   exact ⟨F,α,a,ds,p,vs,R.sub,ha,rfl,.inr (J9.tup R.sub hs),hr,hc,k _ F H R (J9.refl _) (Yy _)⟩
  ·cases hg
 | _=>cases hg
theorem Uk (hu:X.A.units + 200 < cLine):OpM X (compareOp .In) gIn:=⟨_,aB3 hu,ar4 false⟩
theorem Ve (hu:X.A.units + 200 < cLine):OpM X (compareOp .NotIn) zr:=⟨_,Af hu,ar4 true⟩
end
end M
set_option Elab.async false
set_option linter.all false
set_option maxRecDepth 100000
set_option maxHeartbeats 4000000
namespace M
open PySem PySem.Spec PyProof.Rows L2
noncomputable def Xw (d:D):Option DK:=match d with
 | .int i=>some (.inl i)
 | .str x=>some (.inr x)
 | _=>none
noncomputable def J2:List DK→List D→DK→Option D
 | k::ks,v::vs,q=>if k=q then some v else J2 ks vs q
 | _,_,_=>none
theorem E1 {a b:DK} (h:dk a=dk b):a=b:=by
 cases a with
 | inl i =>
  cases b with
  | inl j=>exact congrArg _ (Sum.inl.inj h)
  | inr y=>cases h
 | inr x =>
  cases b with
  | inl j=>cases h
  | inr y =>
   have h2:(⟨x.toArray⟩:Str)=⟨y.toArray⟩:=Sum.inr.inj h
   have h3:x.toArray=y.toArray:=by injection h2
   have h4:x=y:=by simpa using congrArg Array.toList h3
   rw [h4]
theorem F7 {K:PySem.W.Frag} {α:List Addr} {F H:Hp} {d:D} {v:V} {k:DK} (h:Pk K α F H d v) (e:Xw d=some k):v=kV (dk k):=by
 cases d with
 | int i=>cases e;exact yc h
 | str x=>cases e;exact Vh h
 | _=>cases e
theorem Z1 {K:PySem.W.Frag} {F:Hp} {α:List Addr}:∀ {ks:List DK} {ds:List D} {vs:List V} {k:DK},Reps K F α ds vs→ks.length=ds.length →
  (∃ d v,J2 ks ds k=some d∧z0 ((ks.map dk).zip vs) (dk k)=some v∧Rep K F α d v)∨(J2 ks ds k=none∧z0 ((ks.map dk).zip vs) (dk k)=none)
 | [],_,_,_,_,_=>.inr ⟨rfl,rfl⟩
 | q::ks,[],vs,k,_,hl=>by simp at hl
 | q::ks,d::ds,vs,k,h,hl=>by
  unfold Reps at h
  obtain ⟨v,vr,rfl,h1,h2⟩:=h
  by_cases e:q=k
  ·subst e
   refine .inl ⟨d,v,by simp [J2],?_,h1⟩
   exact xl (p:=(dk q,v)) rfl
  ·have e2:¬ dk q=dk k:=fun z=>e (E1 z)
   have ih:=Z1 (k:=k) h2 (by simpa using hl)
   rw [show J2 (q::ks) (d::ds) k=J2 ks ds k by simp [J2,e],show z0 (((q::ks).map dk).zip (v::vr)) (dk k)=z0 ((ks.map dk).zip vr) (dk k) from xk (p:=(dk q,v)) e2]
   exact ih
noncomputable def U8:G2:=fun a b=>match a with
 | .dic ks vs=>(Xw b).bind (J2 ks vs)
 | _=>none
noncomputable def xt (neg:Bool):G2:=fun b a=>match a with
 | .dic ks vs=>(Xw b).map fun k=>.bl (if neg then !(J2 ks vs k).isSome else (J2 ks vs k).isSome)
 | _=>none
section
variable {X:Cx} {EX:EXT} {e a b c:Expr} {pos:Pos} {m ma mb mc:MX} {es rest:List Expr}
theorem ag4 {K:PySem.W.Frag}:y9 K (fun x y H Q=>∃ a v,x=.ref a∧Zm H a y (some v)∧Q v H) U8:=by
 intro Z α F H μ a b c x y Q R ha hb hg k
 cases a with
 | dic ks ds =>
  simp only [U8] at hg
  cases hk:Xw b with
  | none=>rw [hk] at hg;cases hg
  | some q =>
   rw [hk] at hg
   have hy:=F7 hb hk
   obtain ⟨p,vs,rfl,hs,hl,hr⟩:=ha
   rcases Z1 (k:=q) hr hl with ⟨d,v,h1,h2,h3⟩ | ⟨h1,h2⟩
   ·have hg:J2 ks ds q=some c:=hg
    rw [h1] at hg
    cases hg
    subst hy
    exact ⟨p,v,rfl,by rw [← h2];exact Zm.k hs,k v F H R (J9.refl _) h3⟩
   ·have hg:J2 ks ds q=some c:=hg
    rw [h1] at hg
    cases hg
 | _=>cases hg
theorem Q4 (hu:X.A.units + 200 < cLine) (ha:ME X EX a ma) (hb:ME X EX b mb) (hs:aq5 b):ME X EX (.Subscript a b pos) (mBin U8 ma mb):=by
 obtain ⟨ta,pa,sa⟩:=ha
 obtain ⟨tb,pb,sb⟩:=hb
 exact ⟨_,aj8 (by omega) pa pb hs,Yd (r:=fun x y H Q=>∃ a v,x=.ref a∧Zm H a y (some v)∧Q v H) sa sb ag4⟩
theorem a48 {K:PySem.W.Frag} (neg:Bool):y9 K (fun y x H Q=>∃ a o,x=.ref a∧Zm H a y o∧Q (.bl (if neg then !o.isSome else o.isSome)) H) (xt neg):=by
 intro Z α F H μ b a c y x Q R hb ha hg k
 cases a with
 | dic ks ds =>
  simp only [xt] at hg
  cases hk:Xw b with
  | none=>rw [hk] at hg;cases hg
  | some q =>
   rw [hk] at hg
   have hg:=Option.some.inj hg
   subst hg
   have hy:=F7 hb hk
   subst hy
   obtain ⟨p,vs,rfl,hs,hl,hr⟩:=ha
   refine ⟨p,_,rfl,Zm.k hs,k _ F H R (J9.refl _) ?_⟩
   show Rep K F α (D.bl (if neg=true then !(J2 ks ds q).isSome else (J2 ks ds q).isSome)) _
   rcases Z1 (k:=q) hr hl with ⟨d,v,h1,h2,h3⟩ | ⟨h1,h2⟩
   ·rw [h1,h2];exact Yy _
   ·rw [h1,h2];exact Yy _
 | _=>cases hg
theorem aa5 (hu:X.A.units + 200 < cLine) (ha:ME X EX a ma) (hb:ME X EX b mb) (hm:behindInMarks .In b=false):MT X EX (.Compare a [.In] [b] pos) (mTest (mBin (xt false) ma mb)):=by
 obtain ⟨ta,pa,sa⟩:=ha
 obtain ⟨tb,pb,sb⟩:=hb
 exact ⟨_,f8 (az6 (by omega) pa pb) hm,Yn (Yd (r:=fun y x H Q=>∃ a o,x=.ref a∧Zm H a y o∧Q (.bl (if false then !o.isSome else o.isSome)) H) sa sb (a48 false))⟩
theorem a01 (hu:X.A.units + 200 < cLine) (ha:ME X EX a ma) (hb:ME X EX b mb) (hm:behindInMarks .NotIn b=false):MT X EX (.Compare a [.NotIn] [b] pos) (mTest (mBin (xt true) ma mb)):=by
 obtain ⟨ta,pa,sa⟩:=ha
 obtain ⟨tb,pb,sb⟩:=hb
 exact ⟨_,f8 (Aj (by omega) pa pb) hm,Yn (Yd (r:=fun y x H Q=>∃ a o,x=.ref a∧Zm H a y o∧Q (.bl (if true then !o.isSome else o.isSome)) H) sa sb (a48 true))⟩
theorem RH.hold {K:PySem.W.Frag} {Z:ZS} {F H:Hp} {α:List Addr} {μ:Mu} {p:Addr} (o:HO) (r:RH K Z α F H μ) (hp:H p=none):RH K (ZS.up Z p o) α F (upd H p o) μ:=by
 have fp:F p=none:=by
  cases e:F p with
  | none=>rfl
  | some u=>rw [r.sub _ _ e] at hp;cases hp
 refine ⟨fun b u e=>?_,r.len,fun k a c ha hc=>?_,fun b u e=>?_,fun b u e=>?_,fun k a c ha hc hd=>?_,r.dis,r.ext⟩
 ·rw [jo (jf (r.sub b u e) hp)];exact r.sub b u e
 ·have h:=r.cell k a c ha hc
  exact h.go (Ext.refl _ _) (fun _=>rfl) fun hd=>let ⟨_,_,z⟩:=h.live hd;jo (jf z hp)
 ·by_cases hb:b=p
  ·subst hb;rw [Uo] at e;rw [J4];exact e
  ·rw [z9 hb] at e;rw [jo hb];exact r.zs b u e
 ·by_cases hb:b=p
  ·subst hb;exact fp
  ·rw [z9 hb] at e;exact r.zf b u e
 ·have h:=r.cell k a c ha hc
  have hz:=r.zc k a c ha hc hd
  obtain ⟨_,_,z⟩:=h.live hd
  rw [z9 (jf z hp)];exact hz
theorem RH.unhold {K:PySem.W.Frag} {Z:ZS} {F H:Hp} {α:List Addr} {μ:Mu} {p:Addr} {o:HO} (o':HO) (r:RH K (ZS.up Z p o) α F H μ) (hz:Z.z p=none):RH K Z α (upd F p o') (upd H p o') μ∧J9 F (upd F p o'):=by
 have fp:F p=none:=r.zf p o Uo
 have sF:J9 F (upd F p o'):=fun b u e=>by rw [jo (jf e fp)];exact e
 have ex:Ext α F α (upd F p o'):=⟨sF,fun _ _ h=>h⟩
 have nc:∀ (k:Nat) (a:Addr) (c:Cell),α[k]? =some a→μ[k]? =some c→c≠.dead→a≠p:=fun k a c ha hc hd z=>by
  have:=r.zc k a c ha hc hd
  rw [z,Uo] at this
  cases this
 refine ⟨⟨fun b u e=>?_,r.len,fun k a c ha hc=>?_,fun b u e=>?_,fun b u e=>?_,fun k a c ha hc hd=>?_,r.dis,r.ext.trans ex⟩,sF⟩
 ·by_cases hb:b=p
  ·subst hb;rw [J4] at e ⊢;exact e
  ·rw [jo hb] at e ⊢;exact r.sub b u e
 ·exact (r.cell k a c ha hc).go ex (fun hd=>jo (nc k a c ha hc hd)) fun hd=>jo (nc k a c ha hc hd)
 ·have hb:b≠p:=jf e hz
  rw [jo hb]
  exact r.zs b u (by rw [z9 hb];exact e)
 ·have hb:b≠p:=jf e hz
  rw [jo hb]
  exact r.zf b u (by rw [z9 hb];exact e)
 ·have ne:=nc k a c ha hc hd
  have:=r.zc k a c ha hc hd
  rw [z9 ne] at this
  exact this
noncomputable def MPs (X:Cx) (EX:EXT) (pos:Pos) (keys:List (Option Expr)) (values:List Expr) (ks:List DK) (ms:MAs):Prop :=
 keys.length=ks.length∧(∃ trs,PPs X pos keys values trs∧∀ Z α F H σ ρ μ Q,RS X.K Z α F H σ ρ μ→GA X.K EX Z α F (fun vs H'=>Q ((ks.map fun k=>kV (dk k)).zip vs) H') (ms ρ μ)→Gf trs σ H Q)∧∀ ρ μ ds μ',ms ρ μ=.ok ds μ'→ds.length=ks.length
theorem vt:MPs X EX pos [] [] [] mNil:=⟨rfl,⟨[],aj0,fun Z α F H σ ρ μ Q R g=>g [] α F H R.hp (Ext.refl _ _) jy⟩,fun ρ μ ds μ' h=>by cases h;rfl⟩
theorem Ue {x:Str} {cs:List Nat} {j:Nat} {p:Pos} {v:Expr} {ks:List (Option Expr)} {vs:List Expr} {kd:List DK} {ms:MAs} (hx:x=⟨cs.toArray⟩) (hv:ME X EX v m) (hr:MPs X EX pos ks vs kd ms) :
  MPs X EX pos (some (.Constant (.str x) j p)::ks) (v::vs) (.inr cs::kd) (mCons m ms):=by
 obtain ⟨tv,pv,sv⟩:=hv
 obtain ⟨hk,⟨trs,pr,sr⟩,lr⟩:=hr
 refine ⟨by simp [hk],⟨_,Ea a76 pv pr,fun Z α F H σ ρ μ Q R g=>?_⟩,fun ρ μ ds μ' h=>?_⟩
 rotate_left
 ·unfold mCons at h
  cases e1:m ρ μ with
  | ok d μ1 =>
   rw [e1] at h
   simp only [bind_ok] at h
   cases e2:ms ρ μ1 with
   | ok dr μ2 =>
    rw [e2] at h
    simp only [bind_ok] at h
    cases h
    simp [lr _ _ _ _ e2]
   | exc x μ2=>rw [e2] at h;cases h
   | bad=>rw [e2] at h;cases h
  | exc x μ1=>rw [e1] at h;cases h
  | bad=>rw [e1] at h;cases h
 show tv σ H _
 refine sv Z α F H σ ρ μ _ R (GE.step (G:=GA X.K EX Z α F fun vs H'=>Q (((Sum.inr cs::kd).map fun k=>kV (dk k)).zip vs) H') g (fun _ _ h=>h) (fun h=>h) fun d μ1 v α1 F1 H1 R1 e1 p1 g1=>?_)
 refine sr Z α1 F1 H1 σ ρ μ1 _ (R.to R1 e1) (GA.step (G:=GA X.K EX Z α F fun vs H'=>Q (((Sum.inr cs::kd).map fun k=>kV (dk k)).zip vs) H') g1 (fun _ _ h=>h) (fun h=>h) fun ds μ2 vs α2 F2 H2 R2 e2 p2 g2=>?_)
 have:=g2 (v::vs) α2 F2 H2 R2 (e1.trans e2) (j4 (p1.mono e2) p2)
 subst hx
 exact this
theorem wt:∀ (more acc:List (Key×V)),((acc++more).map (·.1)).Nodup→qt acc more=acc++more
 | [],acc,_=>by simp [qt]
 | kv::more,acc,h=>by
  have hn:z0 acc kv.1=none:=by
   cases e:z0 acc kv.1 with
   | none=>rfl
   | some v =>
    exfalso
    have hm:kv.1∈acc.map (·.1):=by
     have q:(acc.any fun x=>decide (x.1=kv.1))=true:=by rw [xj,e];rfl
     obtain ⟨p,hp,e⟩:=List.any_eq_true.mp q
     exact List.mem_map.mpr ⟨p,hp,of_decide_eq_true e⟩
    rw [List.map_append,List.nodup_append] at h
    exact h.2.2 _ hm _ (by simp) rfl
  show qt (Zw acc kv.1 kv.2) more=_
  rw [a66 _ hn]
  rw [wt more (acc++[(kv.1,kv.2)]) (by simpa using h)]
  simp
theorem V4 {β γ δ:Type} (f:β→γ):∀ (l:List β) (r:List δ),(l.map f).zip r=(l.zip r).map fun p=>(f p.1,p.2)
 | [],_=>by simp
 | _::_,[]=>by simp
 | a::l,b::r=>by simp only [List.map_cons,List.zip_cons_cons];rw [V4 f l r]
theorem kx:∀ {ks:List DK},ks.Nodup→(ks.map dk).Nodup
 | [],_=>List.nodup_nil
 | k::ks,h=>by
  rw [List.nodup_cons] at h
  rw [List.map_cons,List.nodup_cons]
  refine ⟨fun hm=>?_,kx h.2⟩
  obtain ⟨q,hq,e⟩:=List.mem_map.mp hm
  exact h.1 (E1 e ▸ hq)
noncomputable def an3 (ks:List DK) (ms:MAs):MX:=fun ρ μ=>(ms ρ μ).bind fun ds μ1=>.ok (.dic ks ds) μ1
theorem ab0 {keys:List (Option Expr)} {values:List Expr} {ks:List DK} {ms:MAs} (h:MPs X EX pos keys values ks ms) (nd:ks.Nodup) (hall:keys.all (·.isSome)=true) (hl:keys.length=values.length) (h0:keys≠[]) (h15:keys.length≤15) :
  ME X EX (.Dict keys values pos) (an3 ks ms):=by
 obtain ⟨hk,⟨trs,pp,sp⟩,lp⟩:=h
 refine ⟨_,B9 pp hall hl h0 h15,fun Z α F H σ ρ μ Q R g=>?_⟩
 intro p hp
 have hz:Z.z p=none:=by
  cases e:Z.z p with
  | none=>rfl
  | some u=>rw [R.hp.zs _ _ e] at hp;cases hp
 refine sp (ZS.up Z p (.dK [])) α F (upd H p (.dK [])) σ ρ μ _ ⟨R.hp.hold _ hp,R.len,R.sl⟩ (GA.stepE (G:=GE X.K EX Z α F Q) g (fun _ _ h=>EX.mono _ _ _ _ _ hz h) (fun h=>h) fun ds μ1 vs α1 F1 H1 hm R1 e1 p1 g1=>?_)
 have hlen:=lp _ _ _ _ hm
 have hlen2:=p1.length
 refine ⟨R1.zs _ _ Uo,(ks.map dk).zip vs,?_,?_,?_⟩
 ·show (ks.map fun k=>kV (dk k)).zip vs=((ks.map dk).zip vs).map fun kv=>(kV kv.1,kv.2)
  have:(ks.map fun k=>kV (dk k))=(ks.map dk).map kV:=by simp
  rw [this]
  exact V4 kV _ _
 ·rw [List.length_zip,List.length_map];omega
 ·have nd2:(((ks.map dk).zip vs).map (·.1)).Nodup:=by
   rw [List.map_fst_zip (by simp;omega)]
   exact kx nd
  rw [wt _ [] (by simpa using nd2),List.nil_append]
  obtain ⟨R2,s2⟩:=R1.unhold (.dK ((ks.map dk).zip vs)) hz
  refine g1 _ α1 _ _ R2 (e1.trans ⟨s2,fun _ _ h=>h⟩) ?_
  unfold Rep
  exact ⟨p,vs,rfl,J4,by omega,p1.mono ⟨s2,fun _ _ h=>h⟩⟩
noncomputable abbrev GL:=List D→Option D
noncomputable def Pks (K:PySem.W.Frag) (α:List Addr) (F H:Hp):List D→List V→Prop
 | [],vs=>vs=[]
 | d::ds,vs=>∃ v r,vs=v::r∧Pk K α F H d v∧Pks K α F H ds r
theorem RH.pks {K:PySem.W.Frag} {Z:ZS} {α:List Addr} {F H:Hp} {μ:Mu} (r:RH K Z α F H μ):∀ {ds:List D} {vs:List V},Reps K F α ds vs→Pks K α F H (ds.map (j8 μ)) vs
 | [],vs,h=>by unfold Reps at h;exact h
 | d::ds,vs,h=>by
  unfold Reps at h
  obtain ⟨v,vr,hv,h1,h2⟩:=h
  exact ⟨v,vr,hv,r.pk h1,RH.pks r h2⟩
noncomputable def A6 (K:PySem.W.Frag) (r:List V→Hp→VK→Prop) (g:GL):Prop:=∀ Z α F H μ ds c vs Q,RH K Z α F H μ→Pks K α F H ds vs→g ds=some c →
 (∀ v F' H',RH K Z α F' H' μ→J9 F F'→Rep K F' α c v→Q v H')→r vs H Q
noncomputable def Xf (X:Cx) (f:Value) (g:GL):Prop:=∃ r,qe X f r∧A6 X.K r g
noncomputable def jm (g:GL) (ms:MAs):MX:=fun ρ μ=>(ms ρ μ).bind fun ds μ1=>ofO μ1 (g (ds.map (j8 μ1)))
theorem K4 {t:TA} {ms:MAs} {r:List V→Hp→VK→Prop} {g:GL} (st:∀ Z α F H σ ρ μ Q,RS X.K Z α F H σ ρ μ→GA X.K EX Z α F Q (ms ρ μ)→t σ H Q) (hs:A6 X.K r g):Wy X EX (tCB r t) (jm g ms):=by
 intro Z α F H σ ρ μ Q R gd
 refine st Z α F H σ ρ μ _ R (GA.step (G:=GE X.K EX Z α F Q) gd (fun _ _ h=>h) (fun h=>h) fun ds μ1 vs α1 F1 H1 R1 e1 p1 g1=>?_)
 cases hg:g (ds.map (j8 μ1)) with
 | none=>rw [hg] at g1;exact g1.elim
 | some c =>
  rw [hg] at g1
  exact hs Z α1 F1 H1 μ1 _ c vs Q R1 (R1.pks p1) hg fun v F' H' R' sf rp=>g1 v α1 F' H' R' (e1.trans ⟨sf,fun _ _ h=>h⟩) rp
theorem me_callB {x:Str} {p:Pos} {id:String} {g:GL} {ms:MAs} (hc:Xf X (.builtin id) g) (hg:Gl X x) (hm:X.mg x=none) (hv:bootBuiltins x=some (.builtin id)) (ha:MA X EX (e::es) ms) (hn:x≠"__name__":=by decide) (hdb:(x == ("__debug__":Str))=false:=by decide)
  (he:starEach (e::es) X.env=(false,eval e X.env)::starEach es X.env:=by rfl) (hpl:(backTo pos (starEach es X.env)).any (·.1)=false:=by rfl):ME X EX (.Call (.Name x p) (e::es) [] pos) (jm g ms):=by
 obtain ⟨r,h1,h2⟩:=hc
 obtain ⟨t,pt,st,_⟩:=ha
 exact ⟨_,d3 h1 hg hm hv pt hn hdb he hpl,K4 st h2⟩
theorem Z0 {x:Str} {p:Pos} {T:String} {g:GL} {ms:MAs} (hc:Xf X (.type T) g) (hg:Gl X x) (hm:X.mg x=none) (hv:bootBuiltins x=some (.type T)) (ha:MA X EX (e::es) ms) (hn:x≠"__name__":=by decide) (hdb:(x == ("__debug__":Str))=false:=by decide)
  (he:starEach (e::es) X.env=(false,eval e X.env)::starEach es X.env:=by rfl) (hpl:(backTo pos (starEach es X.env)).any (·.1)=false:=by rfl):ME X EX (.Call (.Name x p) (e::es) [] pos) (jm g ms):=by
 obtain ⟨r,h1,h2⟩:=hc
 obtain ⟨t,pt,st,_⟩:=ha
 exact ⟨_,Ak h1 hg hm hv pt hn hdb he hpl,K4 st h2⟩
noncomputable def uj:GL:=fun ds=>match ds with
 | [.lst xs]=>some (.int xs.length)
 | [.tup xs]=>some (.int xs.length)
 | [.str xs]=>if xs.length≤16777216 then some (.int xs.length) else none
 | _=>none
theorem cm_len:Xf X (.builtin "len") uj:=by
 refine ⟨_,ae7,fun Z α F H μ ds c vs Q R hp hg k=>?_⟩
 match ds,hg with
 | [.lst xs],hg =>
  obtain ⟨v,r,rfl,⟨a,us,rfl,hs,hr⟩,hq⟩:=hp
  have hq:r=[]:=hq
  subst hq
  cases hg
  exact ⟨_,_,rfl,.inl ⟨us,hs,rfl⟩,by rw [← hr.length];exact k _ F H R (J9.refl _) (ui _)⟩
 | [.tup xs],hg =>
  obtain ⟨v,r,rfl,hv,hq⟩:=hp
  have hq:r=[]:=hq
  subst hq
  unfold Pk Rep at hv
  obtain ⟨a,us,rfl,hs,hr⟩:=hv
  cases hg
  exact ⟨_,_,rfl,.inr ⟨us,J9.tup R.sub hs,rfl⟩,by rw [← hr.length];exact k _ F H R (J9.refl _) (ui _)⟩
 | [.str xs],hg =>
  obtain ⟨v,r,rfl,hv,hq⟩:=hp
  have hq:r=[]:=hq
  subst hq
  have hv:=Vh hv
  subst hv
  simp only [uj] at hg
  split at hg
  ·rename_i hl
   cases hg
   refine ⟨_,xs.length,rfl,⟨by rw [sizeLine_eq];simpa [Str.length] using hl,by simp [Str.length]⟩,k _ F H R (J9.refl _) (ui _)⟩
  ·cases hg
noncomputable def ad2:GL:=fun ds=>match ds with
 | [.int i,.int j]=>some (.int (if j > i then j else i))
 | _=>none
noncomputable def aE9:GL:=fun ds=>match ds with
 | [.int i,.int j]=>some (.int (if j < i then j else i))
 | _=>none
theorem aL0 {K:PySem.W.Frag} {α:List Addr} {F H:Hp} {a b:D} {vs:List V} (h:Pks K α F H [a,b] vs):∃ v u,vs=[v,u]∧Pk K α F H a v∧Pk K α F H b u:=by
 obtain ⟨v,r,rfl,h1,u,r',rfl,h2,h3⟩:=h
 have h3:r'=[]:=h3
 subst h3
 exact ⟨v,u,rfl,h1,h2⟩
theorem aL1 {K:PySem.W.Frag} {α:List Addr} {F H:Hp} {a:D} {vs:List V} (h:Pks K α F H [a] vs):∃ v,vs=[v]∧Pk K α F H a v:=by
 obtain ⟨v,r,rfl,h1,h3⟩:=h
 have h3:r=[]:=h3
 subst h3
 exact ⟨v,rfl,h1⟩
theorem aG3 (hc:X.calm=true):Xf X (.builtin "max") ad2:=by
 refine ⟨_,a23 hc,fun Z α F H μ ds c vs Q R hp hg k=>?_⟩
 match ds,hg with
 | [.int i,.int j],hg =>
  obtain ⟨v,u,rfl,h1,h2⟩:=aL0 hp
  rw [yc h1,yc h2]
  cases hg
  exact ⟨i,j,rfl,k _ F H R (J9.refl _) (ui _)⟩
theorem aG2 (hc:X.calm=true):Xf X (.builtin "min") aE9:=by
 refine ⟨_,a22 hc,fun Z α F H μ ds c vs Q R hp hg k=>?_⟩
 match ds,hg with
 | [.int i,.int j],hg =>
  obtain ⟨v,u,rfl,h1,h2⟩:=aL0 hp
  rw [yc h1,yc h2]
  cases hg
  exact ⟨i,j,rfl,k _ F H R (J9.refl _) (ui _)⟩
noncomputable def Wj:GL:=fun ds=>match ds with
 | [.int i]=>some (.int i)
 | [.bl k]=>some (.int (if k then 1 else 0))
 | _=>none
theorem Kj:Xf X (.type "int") Wj:=by
 refine ⟨_,a24,fun Z α F H μ ds c vs Q R hp hg k=>?_⟩
 match ds,hg with
 | [.int i],hg =>
  obtain ⟨v,rfl,h1⟩:=aL1 hp
  rw [yc h1]
  cases hg
  exact .inl ⟨i,rfl,k _ F H R (J9.refl _) (ui _)⟩
 | [.bl i],hg =>
  obtain ⟨v,rfl,h1⟩:=aL1 hp
  rw [ar9 h1]
  cases hg
  exact .inr ⟨i,rfl,k _ F H R (J9.refl _) (ui _)⟩
inductive Ki where
 | int | bool | str | list | tuple
noncomputable def Ki.nm:Ki→String
 | .int=>"int"
 | .bool=>"bool"
 | .str=>"str"
 | .list=>"list"
 | .tuple=>"tuple"
noncomputable def isI (k:Ki) (d:D):Option Bool:=match d,k with
 | .non,_=>some false
 | .bl _,.bool=>some true
 | .bl _,.int=>some true
 | .bl _,_=>some false
 | .int _,.int=>some true
 | .int _,_=>some false
 | .str _,.str=>some true
 | .str _,_=>some false
 | .tup _,.tuple=>some true
 | .tup _,_=>some false
 | .lst _,.list=>some true
 | .lst _,_=>some false
 | .dic _ _,_=>some false
 | .ref _,_=>none
noncomputable def tyD:D→Option String
 | .non=>some "NoneType"
 | .bl _=>some "bool"
 | .int _=>some "int"
 | .str _=>some "str"
 | .tup _=>some "tuple"
 | .lst _=>some "list"
 | .dic _ _=>some "dict"
 | .ref _=>none
theorem ao0 {K:PySem.W.Frag} {k:Ki} {d:D} {b:Bool} {t:String} (h:isI k d=some b) (ht:tyD d=some t):PySem.W.kitOne K (.type t) (.type k.nm)=some b:=by
 cases d <;> cases ht <;> cases k <;> cases h <;> rfl
theorem a09 {pins:List (Addr×Obj)} {σ:L2.St} {H F:Hp} {s:Shared} {α:List Addr} {A:Around} {E:Value→Shared→Prop} {Q:Value→Shared→Prop} {cl:Value} {b:Bool} {d:D} {v:V} {u:Value} {t:String}
  (I:Inv X pins σ H s) (sub:J9 F H) (h:Pk X.K α F H d v) (r:Jv v u) (ht:tyD d=some t) (e:PySem.W.kitOne X.K (.type t) cl=some b) (q:∀ tk,Q (.bool b) { s with toks:=tk}) :
  wpAny (model X.prog X.w) A (call (.builtin "isinstance") [u,cl]) Q E s:=by
 cases d with
 | non=>cases ht;have:=ay6 h;subst this;exact Z2 I r .non e q
 | bl x=>cases ht;have:=ar9 h;subst this;exact Z2 I r (.bl x) e q
 | int x=>cases ht;have:=yc h;subst this;exact Z2 I r (.int x) e q
 | str x=>cases ht;have:=Vh h;subst this;exact Z2 I r (.str _) e q
 | tup x =>
  cases ht
  unfold Pk Rep at h
  obtain ⟨a,vs,rfl,hs,hr⟩:=h
  cases r
  obtain ⟨its,rv,⟨o,h1,h2,_⟩,_⟩:=I.tuple (J9.tup sub hs)
  exact PySem.W.kia_one PySem.W.kitx_tuple I.kIn ⟨o,h1,h2⟩ e (fun z=>nomatch z) q
 | lst x =>
  cases ht
  obtain ⟨a,vs,rfl,hs,hr⟩:=h
  cases r
  obtain ⟨its,rv,⟨o,n,h1,h2,_⟩,_⟩:=I.list hs
  exact PySem.W.kia_one PySem.W.kitx_list I.kIn ⟨o,h1,h2⟩ e (fun z=>nomatch z) q
 | dic ks x =>
  cases ht
  obtain ⟨a,vs,rfl,hs,_⟩:=h
  exact Z2 I r (.dK hs) e q
 | ref x=>cases ht
noncomputable def gm (k:Ki) (m:MX):MX:=fun ρ μ=>(m ρ μ).bind fun d μ1=>ofO μ1 ((isI k (j8 μ1 d)).map .bl)
theorem ae8 (k:Ki):qe X (.builtin "isinstance") (fun xs H Q=>∃ F α d v b,J9 F H∧xs=[v,.ty k.nm]∧Pk X.K α F H d v∧isI k d=some b∧Q (.bl b) H):=by
 intro pins s σ H xs us Q I r h
 obtain ⟨F,α,d,v,b,sub,rfl,hp,hk,q⟩:=h
 obtain ⟨u,w',rfl,h1,h2⟩:=b7 r
 cases h2
 obtain ⟨t,ht⟩:∃ t,tyD d=some t:=by
  cases d <;> first | exact ⟨_,rfl⟩ | (cases hk)
 exact a09 I sub hp h1 ht (ao0 hk ht) fun tk=>⟨.bl b,H,I.tok _,rfl,q⟩
theorem xu {x:Str} {p p2:Pos} (k:Ki) (hx:bootBuiltins x=some (.type k.nm)) (hg:Gl X "isinstance") (hm:X.mg "isinstance"=none) (hg2:Gl X x) (hm2:X.mg x=none) (ha:ME X EX e m) (hn2:x≠"__name__":=by decide) (hd2:(x == ("__debug__":Str))=false:=by decide)
  (hs:starEach [e,.Name x p2] X.env=(false,eval e X.env)::starEach [.Name x p2] X.env:=by rfl) (hs2:starEach [.Name x p2] X.env=[(false,eval (.Name x p2) X.env)]:=by rfl):ME X EX (.Call (.Name "isinstance" p) [e,.Name x p2] [] pos) (gm k m):=by
 obtain ⟨t,pt,st⟩:=ha
 refine ⟨_,d3 (ae8 k) hg hm PyProof.Rows.boot_isinstance (vz pt (vz (ak1 (v:=.ty k.nm) hg2 hm2 hx rfl hn2 hd2) cg hs2) hs) (by decide) (by decide) hs (by rw [hs2];rfl),fun Z α F H σ ρ μ Q R g=>?_⟩
 refine st Z α F H σ ρ μ _ R (GE.step (G:=GE X.K EX Z α F Q) g (fun _ _ h=>h) (fun h=>h) fun d μ1 v α1 F1 H1 R1 e1 p1 g1=>?_)
 cases hk:isI k (j8 μ1 d) with
 | none=>rw [hk] at g1;exact g1.elim
 | some b =>
  rw [hk] at g1
  exact ⟨F1,α1,j8 μ1 d,v,b,R1.sub,rfl,R1.pk p1,hk,g1 _ α1 F1 H1 R1 e1 (Yy _)⟩
end
end M
set_option Elab.async false
set_option linter.all false
set_option maxRecDepth 100000
set_option maxHeartbeats 4000000
namespace M
open PySem PySem.Spec PyProof.Rows L2
noncomputable def NoX:EXT:=⟨fun _ _ _=>False,fun _ _ _ _ _ _ h=>h⟩
noncomputable abbrev Fn:=List D→Mu→Res D
noncomputable def noX {α:Type}:Res α→Res α
 | .exc _ _=>.bad
 | r=>r
@[simp] theorem noX_ok {α:Type} (a:α) (μ:Mu):noX (.ok a μ)=.ok a μ:=rfl
noncomputable def spM (K:PySem.W.Frag) (n:Nat) (φ:Fn):Sp:=fun vs H Q _=>∃ Z α F ds μ,RH K Z α F H μ∧Reps K F α ds vs∧ds.length=n∧GE K NoX Z α F Q (φ ds μ)
noncomputable def mCall (φ:Fn) (ms:MAs):MX:=fun ρ μ=>(ms ρ μ).bind fun ds μ1=>noX (φ ds μ1)
section
variable {X:Cx} {EX:EXT} {e a b c:Expr} {pos:Pos} {m ma mb mc:MX} {es rest:List Expr} {ms:MAs}
theorem GE.noX {K:PySem.W.Frag} {Z:ZS} {α:List Addr} {F:Hp} {Q:VK} {r:Res D} (h:GE K EX Z α F Q (M.noX r)):GE K NoX Z α F Q r:=by
 cases r with
 | ok d μ=>exact h
 | exc x μ=>exact h.elim
 | bad=>exact h
theorem am9 {x:Str} {p:Pos} {k:Nat} {f:Addr} {fd:FuncData} {ps:List Str} {φ:Fn} (F:FnOk X.prog X.w X.K X.mg X.base CX0 k f fd ps (spM X.K ps.length φ)) (hr:Room k X.A) (hg:Gl X x) (hm:X.mg x=some (.ref f)) (hk:PySem.W.keepIn X.K (.ref f)=true) (hb:Xe X.K fd ps [])
  (ha:MA X EX (e::es) ms) (hl:(e::es).length=ps.length) (hdb:(x == ("__debug__":Str))=false:=by decide) (he:starEach (e::es) X.env=(false,eval e X.env)::starEach es X.env:=by rfl) (hpl:(backTo pos (starEach es X.env)).any (·.1)=false:=by rfl) :
  ME X EX (.Call (.Name x p) (e::es) [] pos) (mCall φ ms):=by
 obtain ⟨t,pt,st,lt⟩:=ha
 refine ⟨_,ak0 F hr hg hm hk hb .nil a86 pt hdb he hpl,fun Z α G H σ ρ μ Q R g=>?_⟩
 refine st Z α G H σ ρ μ _ R (GA.stepE (G:=GE X.K EX Z α G Q) g (fun _ _ h=>h) (fun h=>h) fun ds μ1 vs α1 F1 H1 hm1 R1 e1 p1 g1=>?_)
 rw [List.append_nil]
 exact ⟨Z,α1,F1,ds,μ1,R1,p1,(lt _ _ _ _ hm1).trans hl,GE.noX (GE.ext e1 g1)⟩
theorem ab2 {x:Str} {p:Pos} {k:Nat} {f:Addr} {fd:FuncData} {φ:Fn} (F:FnOk X.prog X.w X.K X.mg X.base CX0 k f fd [] (spM X.K 0 φ)) (hr:Room k X.A) (hg:Gl X x) (hm:X.mg x=some (.ref f)) (hk:PySem.W.keepIn X.K (.ref f)=true) (hb:Xe X.K fd [] [])
  (hdb:(x == ("__debug__":Str))=false:=by decide):ME X EX (.Call (.Name x p) [] [] pos) (mCall φ mNil):=by
 refine ⟨_,a84 F hr hg hm hk hb .nil a86 hdb,fun Z α G H σ ρ μ Q R g=>?_⟩
 exact ⟨Z,α,G,[],μ,R.hp,jy,rfl,GE.noX g⟩
variable {st:Stmt} {sts:List Stmt} {n n1 n2:MSt} {t:MB}
noncomputable def jx:MSt:=fun ρ μ=>.ok (.nx ρ) μ
noncomputable def jz (n1 n2:MSt):MSt:=fun ρ μ=>(n1 ρ μ).bind fun o μ1=>match o with
 | .nx ρ1=>n2 ρ1 μ1
 | o=>.ok o μ1
noncomputable def jt (m:MX):MSt:=fun ρ μ=>(m ρ μ).bind fun d μ1=>.ok (.rt d) μ1
noncomputable def aN3:MSt:=fun _ μ=>.ok (.rt .non) μ
noncomputable def um (m:MX):MSt:=fun ρ μ=>(m ρ μ).bind fun _ μ1=>.ok (.nx ρ) μ1
noncomputable def Js (i:Nat) (m:MX):MSt:=fun ρ μ=>(m ρ μ).bind fun d μ1=>.ok (.nx (ρ.set i (some d))) μ1
noncomputable def jl (t:MB) (n1 n2:MSt):MSt:=fun ρ μ=>(t ρ μ).bind fun k μ1=>match k with
 | true=>n1 ρ μ1
 | false=>n2 ρ μ1
theorem j6:MSs X EX [] jx:=⟨_,ai7,fun Z α F H σ ρ μ N R g=>g σ α F H R (Ext.refl _ _)⟩
theorem j3 (h:MS X EX st n):MSs X EX [st] n:=let ⟨t,p,s⟩:=h;⟨t,ai6 p,s⟩
theorem j2 (h1:MS X EX st n1) (h2:MSs X EX sts n2):MSs X EX (st::sts) (jz n1 n2):=by
 obtain ⟨t,p,s⟩:=h1
 obtain ⟨u,q,r⟩:=h2
 refine ⟨_,a70 p q,fun Z α F H σ ρ μ N R g=>?_⟩
 refine s Z α F H σ ρ μ _ R ?_
 unfold jz at g
 cases e:n1 ρ μ with
 | ok o μ1 =>
  rw [e] at g
  cases o with
  | nx ρ1=>exact fun σ' α' F' H' R' e'=>r Z α' F' H' σ' ρ1 μ1 N R' (GS.ext e' g)
  | rt d=>exact g
  | bk ρ1=>exact g
  | ct ρ1=>exact g
 | exc x μ1=>rw [e] at g;exact g
 | bad=>rw [e] at g;exact g
theorem j5 (h:ME X EX e m):MS X EX (.Return (some e) pos) (jt m):=by
 obtain ⟨t,p,s⟩:=h
 refine ⟨_,ay2 p,fun Z α F H σ ρ μ N R g=>?_⟩
 exact s Z α F H σ ρ μ _ R (GE.step (G:=GS X.K EX Z α F N) g (fun _ _ h=>h) (fun h=>h) fun d μ1 v α1 F1 H1 R1 e1 p1 g1=>g1 v α1 F1 H1 R1 e1 p1)
theorem ud (h:ME X EX e m) (hs:swapsWith e none pos.line X.env=pure false:=by rfl):MS X EX (.Expr e pos) (um m):=by
 obtain ⟨t,p,s⟩:=h
 refine ⟨_,ai8 p hs,fun Z α F H σ ρ μ N R g=>?_⟩
 exact s Z α F H σ ρ μ _ R (GE.step (G:=GS X.K EX Z α F N) g (fun _ _ h=>h) (fun h=>h) fun d μ1 v α1 F1 H1 R1 e1 p1 g1=>g1 σ α1 F1 H1 (R.to R1 e1) e1)
theorem RS.set {K:PySem.W.Frag} {Z:ZS} {F H:Hp} {α:List Addr} {σ:L2.St} {ρ:En} {μ:Mu} {d:D} {v:V} (i:Nat) (R:RS K Z α F H σ ρ μ) (p:Rep K F α d v):RS K Z α F H (σ.set i (some v)) (ρ.set i (some d)) μ:=by
 refine ⟨R.hp,by simpa using R.len,fun j e h=>?_⟩
 by_cases hj:j=i
 ·subst hj
  have hl:j < ρ.length:=by
   have:=(List.getElem?_eq_some_iff.mp h).1
   simpa using this
  rw [List.getElem?_set_self hl] at h
  cases h
  exact ⟨v,List.getElem?_set_self (by rw [← R.len];exact hl),p⟩
 ·rw [List.getElem?_set_ne (Ne.symm hj)] at h
  obtain ⟨u,h1,h2⟩:=R.sl j e h
  exact ⟨u,by rw [List.getElem?_set_ne (Ne.symm hj)];exact h1,h2⟩
theorem aC3 {i:Nat} {x:Str} {pos':Pos} (hN:X.N.Nodup) (hi:X.N[i]? =some x) (hx:Loc X.env.scope x) (hf:X.fn x=true∨X.env.scope.names.lookup x=some .local) (h:ME X EX e m) (hs:swapsWith e (some (.Name x pos')) pos.line X.env=pure false:=by rfl) :
  MS X EX (.Assign [.Name x pos'] e pos) (Js i m):=by
 obtain ⟨t,p,s⟩:=h
 refine ⟨_,ay1 hN hi hx p hs hf,fun Z α F H σ ρ μ N R g=>?_⟩
 exact s Z α F H σ ρ μ _ R (GE.step (G:=GS X.K EX Z α F N) g (fun _ _ h=>h) (fun h=>h) fun d μ1 v α1 F1 H1 R1 e1 p1 g1=>g1 _ α1 F1 H1 ((R.to R1 e1).set i p1) e1)
theorem jv {sa sb:List Stmt} (hc:MT X EX c t) (ha:MSs X EX sa n1) (hb:MSs X EX sb n2):MS X EX (.If c sa sb pos) (jl t n1 n2):=by
 obtain ⟨tc,pc,sc⟩:=hc
 obtain ⟨ta,pa,ga⟩:=ha
 obtain ⟨tb,pb,gb⟩:=hb
 refine ⟨_,aK8 pc pa pb,fun Z α F H σ ρ μ N R g=>?_⟩
 refine sc Z α F H σ ρ μ _ R (GB.step (G:=GS X.K EX Z α F N) g (fun _ _ h=>h) (fun h=>h) fun k μ1 α1 F1 H1 R1 e1 g1=>?_)
 cases k with
 | true=>exact ga Z α1 F1 H1 σ ρ μ1 N (R.to R1 e1) (GS.ext e1 g1)
 | false=>exact gb Z α1 F1 H1 σ ρ μ1 N (R.to R1 e1) (GS.ext e1 g1)
noncomputable abbrev MG:=D→En→Option En
noncomputable def MTg (X:Cx) (tg:Expr) (mg:MG):Prop:=∃ g:TG,PG X tg g∧∀ Z α F H σ ρ μ v d ρ' Q,RS X.K Z α F H σ ρ μ→Rep X.K F α d v→mg d ρ=some ρ'→(∀ σ',RS X.K Z α F H σ' ρ' μ→Q σ' H)→g v σ H Q
noncomputable def gN (i:Nat):MG:=fun d ρ=>some (ρ.set i (some d))
theorem Bv {i:Nat} {x:Str} (hN:X.N.Nodup) (hi:X.N[i]? =some x) (hx:Loc X.env.scope x) (hf:X.fn x=true∨X.env.scope.names.lookup x=some .local):MTg X (.Name x pos) (gN i) :=
 ⟨_,aj6 hN hi hx hf,fun Z α F H σ ρ μ v d ρ' Q R p h k=>by cases h;exact k _ (R.set i p)⟩
noncomputable def Jl (tg:MG) (n:MSt):List D→En→Mu→Res Out
 | [],ρ,μ=>.ok (.nx ρ) μ
 | d::ds,ρ,μ=>match tg d ρ with
  | none=>.bad
  | some ρ1=>(n ρ1 μ).bind fun o μ1=>match o with
   | .nx ρ2=>Jl tg n ds ρ2 μ1
   | .ct ρ2=>Jl tg n ds ρ2 μ1
   | .bk ρ2=>.ok (.nx ρ2) μ1
   | .rt d=>.ok (.rt d) μ1
noncomputable abbrev MIt:=En→Mu→Res (List D)
noncomputable def qr (tg:MG) (it:MIt) (n:MSt):MSt:=fun ρ μ=>(it ρ μ).bind fun ds μ1=>Jl tg n ds ρ μ1
noncomputable def zo (K:PySem.W.Frag) (α:List Addr) (F:Hp) (J:It) (ds:List D):Prop :=
 ∀ (Z:ZS) α' F' H' (μ':Mu),RH K Z α' F' H' μ'→Ext α F α' F'→∀ i,(i < ds.length→J.go i H'∧∀ x H2,J.yld i H' x H2→∃ d F2,ds[i]? =some d∧RH K Z α' F2 H2 μ'∧J9 F' F2∧Rep K F2 α' d x)∧(ds.length=i→J.stop i H')
noncomputable def MI (X:Cx) (EX:EXT) (tg e:Expr) (m:MIt):Prop:=∃ wi:TI,PI X tg e wi∧∀ Z α F H σ ρ μ Rr,RS X.K Z α F H σ ρ μ →
 (match m ρ μ with
  | .ok ds μ'=>∀ J α' F' H',RH X.K Z α' F' H' μ'→Ext α F α' F'→zo X.K α' F' J ds→Rr J H'
  | .exc x μ'=>EX.P Z x μ'
  | .bad=>False)→wi σ H Rr
theorem Yx {tg it:Expr} {body:List Stmt} {mi:MIt} {g:MG} (hp:PassesOwn (model X.prog X.w) X.A X.env X.xe) (hc:X.calm=true) (hi:MI X EX tg it mi) (hg:MTg X tg g) (hb:MSs X EX body n)
  (hs:∀ x,foldedSetIterable it X.env x=pure x:=by intro _;rfl):MS X EX (.For tg it body [] pos) (qr g mi n):=by
 obtain ⟨wi,pi,si⟩:=hi
 obtain ⟨tgt,pg,sg⟩:=hg
 obtain ⟨tb,pb,sb⟩:=hb
 refine ⟨_,ay3 hp hc pi pg pb hs,fun Z α F H σ ρ μ N R gd=>?_⟩
 refine si Z α F H σ ρ μ _ R ?_
 unfold qr at gd
 cases hm:mi ρ μ with
 | exc x μ1=>rw [hm] at gd;exact gd
 | bad=>rw [hm] at gd;exact gd
 | ok ds μ1 =>
  rw [hm] at gd
  intro J α1 F1 H1 R1 e1 wk
  let W:Nat→Nat→L2.St→Hp→Prop:=fun i k σ' H'=>k=ds.length - i∧i≤ds.length∧∃ α' F' ρ' μ',RS X.K Z α' F' H' σ' ρ' μ'∧Ext α1 F1 α' F'∧GS X.K EX Z α' F' N (Jl g n (ds.drop i) ρ' μ')
  refine ⟨W,⟨ds.length,rfl,Nat.zero_le _,α1,F1,ρ,μ1,R.to R1 e1,Ext.refl _ _,GS.ext e1 gd⟩,?_⟩
  rintro i k σ2 H2 ⟨rfl,hi2,α2,F2,ρ2,μ2,R2,e2,g2⟩
  obtain ⟨w1,w2⟩:=wk Z α2 F2 H2 μ2 R2.hp e2 i
  by_cases hlt:i < ds.length
  ·obtain ⟨w3,w4⟩:=w1 hlt
   refine .inr ⟨w3,fun σ' H'=>W (i + 1) (ds.length - (i + 1)) σ' H',fun σ' H' h=>⟨_,by omega,h⟩,fun x H3 y=>?_⟩
   obtain ⟨d,F3,hd,R3,s3,p3⟩:=w4 x H3 y
   have e3:Ext α2 F2 α2 F3:=⟨s3,fun _ _ h=>h⟩
   rw [List.drop_eq_getElem_cons hlt] at g2
   have hd':ds[i]=d:=by
    rw [List.getElem?_eq_getElem hlt] at hd
    exact Option.some.inj hd
   rw [hd'] at g2
   have R3':RS X.K Z α2 F3 H3 σ2 ρ2 μ2:=R2.to R3 e3
   simp only [Jl] at g2
   cases ht:g d ρ2 with
   | none=>rw [ht] at g2;exact g2.elim
   | some ρ4 =>
    rw [ht] at g2
    simp only at g2
    refine sg Z α2 F3 H3 σ2 ρ2 μ2 x d ρ4 _ R3' p3 ht fun σ4 R4=>?_
    refine sb Z α2 F3 H3 σ4 ρ4 μ2 _ R4 ?_
    cases hn:n ρ4 μ2 with
    | exc x μ1=>rw [hn] at g2;exact g2
    | bad=>rw [hn] at g2;exact g2
    | ok o μ5 =>
     rw [hn] at g2
     cases o with
     | nx ρ5=>exact fun σ' α' F' H' R' e'=>⟨rfl,hlt,α',F',ρ5,μ5,R',e2.trans (e3.trans e'),GS.ext (e3.trans e') g2⟩
     | ct ρ5=>exact fun σ' α' F' H' R' e'=>⟨rfl,hlt,α',F',ρ5,μ5,R',e2.trans (e3.trans e'),GS.ext (e3.trans e') g2⟩
     | bk ρ5=>exact fun σ' α' F' H' R' e'=>g2 σ' α' F' H' R' (e3.trans e')
     | rt d=>exact fun v α' F' H' R' e' q=>g2 v α' F' H' R' (e3.trans e') q
  ·refine .inl ⟨w2 (by omega),?_⟩
   rw [List.drop_eq_nil_of_le (by omega)] at g2
   exact g2 σ2 α2 F2 H2 R2 (Ext.refl _ _)
noncomputable def yr (n:Nat):List D:=(List.range n).map fun k=>.int (k:Nat)
noncomputable def Yo (ds:List D):Option (List D):=match ds with
 | [.int j]=>if -(2 ^ 62)≤j∧j < 2 ^ 62 then some (yr j.toNat) else none
 | _=>none
noncomputable def uo (m:MX):MIt:=fun ρ μ=>(m ρ μ).bind fun d μ1=>ofO μ1 (Yo [d])
theorem Da {K:PySem.W.Frag} {F:Hp} {α:List Addr} (n:Nat):zo K α F (Itr 0 n) (yr n):=by
 intro Z α' F' H' μ' R e i
 have hl:(yr n).length=n:=by simp [yr]
 refine ⟨fun h=>⟨by rw [hl] at h;exact h,fun x H2 y=>?_⟩,fun h=>by rw [hl] at h;exact Nat.le_of_eq h⟩
 obtain ⟨rfl,rfl⟩:=y
 rw [hl] at h
 refine ⟨.int (i:Nat),F',by simp [yr,h],R,J9.refl _,?_⟩
 rw [Int.zero_add]
 exact ui _
theorem Um {tg:Expr} {p:Pos} (hg:Gl X "range") (hm:X.mg "range"=none) (ha:ME X EX a m) (hs:starEach [a] X.env=[(false,eval a X.env)]:=by rfl):MI X EX tg (.Call (.Name "range" p) [a] [] pos) (uo m):=by
 obtain ⟨t,pt,st⟩:=ha
 refine ⟨_,Al hg hm (vz pt cg hs) hs,fun Z α F H σ ρ μ Rr R g=>?_⟩
 unfold uo at g
 refine st Z α F H σ ρ μ _ R ?_
 cases h1:m ρ μ with
 | exc x μ1=>rw [h1] at g;exact g
 | bad=>rw [h1] at g;exact g
 | ok d μ1 =>
  rw [h1] at g
  intro v α' F' H' R' e' p
  cases d with
  | int j =>
   unfold Rep at p
   subst p
   simp only [bind_ok,Yo] at g
   by_cases hj:-(2 ^ 62)≤j∧j < 2 ^ 62
   ·rw [if_pos hj] at g
    exact ⟨j,rfl,hj.1,hj.2,g _ α' F' H' R' e' (Da _)⟩
   ·rw [if_neg hj] at g;exact g.elim
  | _=>exact g.elim
noncomputable def g0 (d:D):Option (List D):=match d with
 | .lst xs=>some xs
 | _=>none
noncomputable def af4 (d:D):Option (List D):=match d with
 | .tup xs=>some xs
 | _=>none
noncomputable def U3 (m:MX):MIt:=fun ρ μ=>(m ρ μ).bind fun d μ1=>ofO μ1 (g0 d)
noncomputable def aC9 (m:MX):MIt:=fun ρ μ=>(m ρ μ).bind fun d μ1=>ofO μ1 (af4 d)
theorem A9 {K:PySem.W.Frag} {F:Hp} {α:List Addr} {a:Addr} {ds:List D} {vs:List V} (hs:SqL K F a vs) (hr:Reps K F α ds vs):zo K α F (Itl K a) ds:=by
 intro Z α' F' H' μ' R e i
 have hl:=hr.length
 have hq:SqL K H' a vs:=(e.fr.trans R.sub).seq hs
 refine ⟨fun h=>?_,fun h=>⟨vs,hq,by omega⟩⟩
 obtain ⟨v,h1,h2⟩:=hr.get (List.getElem?_eq_getElem h)
 refine ⟨⟨vs,v,hq,h1⟩,fun x H2 y=>?_⟩
 obtain ⟨rfl,y⟩:=y
 have hx:=y vs hq
 rw [h1] at hx
 cases hx
 exact ⟨_,F',List.getElem?_eq_getElem h,R,J9.refl _,h2.mono e⟩
theorem Q3 {tg:Expr} (ha:ME X EX a m):MI X EX tg a (U3 m):=by
 obtain ⟨t,pt,st⟩:=ha
 refine ⟨_,aj4 pt,fun Z α F H σ ρ μ Rr R g=>?_⟩
 unfold U3 at g
 refine st Z α F H σ ρ μ _ R ?_
 cases h1:m ρ μ with
 | exc x μ1=>rw [h1] at g;exact g
 | bad=>rw [h1] at g;exact g
 | ok d μ1 =>
  rw [h1] at g
  intro v α' F' H' R' e' p
  cases d with
  | lst ds =>
   unfold Rep at p
   obtain ⟨b,vs,rfl,hs,hr⟩:=p
   exact ⟨b,rfl,⟨vs,R'.sub.seq hs⟩,g _ α' F' H' R' e' (A9 hs hr)⟩
  | _=>exact g.elim
end
noncomputable def fin (r:Res Out):Res D:=r.bind fun o μ1=>match o with
 | .rt d=>.ok d μ1
 | .nx _=>.ok .non μ1
 | _=>.bad
noncomputable def fnOf (k:Nat) (n:MSt):Fn:=fun ds μ=>fin (n (ds.map some++List.replicate k none) μ)
section
variable {P:Program} {w:World} {K:PySem.W.Frag} {mg:Str→Option Value} {base:Heap}
theorem a61 {Z:ZS} {F H:Hp} {α:List Addr} {μ:Mu} {ds:List D} {vs:List V} (N:List Str) (k:Nat) (hk:N.length - vs.length=k) (R:RH K Z α F H μ) (r:Reps K F α ds vs):RS K Z α F H (start N vs) (ds.map some++List.replicate k none) μ:=by
 have hl:=r.length
 refine ⟨R,by simp [L2.start,hl,hk],fun i d h=>?_⟩
 by_cases hi:i < ds.length
 ·rw [List.getElem?_append_left (by simpa using hi),List.getElem?_map] at h
  cases e:ds[i]? with
  | none=>rw [e] at h;cases h
  | some d' =>
   rw [e] at h
   cases h
   obtain ⟨v,h1,h2⟩:=r.get e
   refine ⟨v,?_,h2⟩
   unfold L2.start
   rw [List.getElem?_append_left (by rw [List.length_map];omega),List.getElem?_map,h1]
   rfl
 ·rw [List.getElem?_append_right (by simp;omega)] at h
  have:=List.getElem?_replicate (a:=(none:Option D)) (n:=k) (i:=i - (ds.map some).length)
  rw [this] at h
  split at h <;> cases h
theorem at9 {x qual:Str} {st:Stmt} {f:Addr} {fd:FuncData} {N ps:List Str} {k j:Nat} {n:MSt} (F:Fun K x qual st f fd) (S:FnScope N ps (defScope st)) (hj:N.length - ps.length=j)
  (hb:∀ (cdv:Value) (A:Around) (outer:List Env) (s:Shared) (H:Hp) (E:XK),Room k (A.deeper (envOfC qual (defScope st) s.heap.objs.size f cdv)) →
   MSs (Wa CX0 P w K mg base N qual (defScope st) f cdv A outer s H E).nox NoX (defBody st) n):FnOk P w K mg base CX0 (k + 1) f fd ps (spM K ps.length (fnOf j n)):=by
 refine F.ok S (fun vs H Q E h=>?_) (fun cdv A outer s H vs Q E hr h=>?_)
 ·obtain ⟨Z,α,G,ds,μ,R,r,hl,_⟩:=h
  rw [← hl,r.length]
 ·obtain ⟨Z,α,G,ds,μ,R,r,hl,g⟩:=h
  obtain ⟨t,p,s'⟩:=hb cdv A outer s H E hr
  refine ⟨t,p,s' Z α G H (start N vs) (ds.map some++List.replicate j none) μ _ (a61 N j (by rw [← r.length,hl];exact hj) R r) ?_⟩
  unfold fnOf fin at g
  cases e:n (ds.map some++List.replicate j none) μ with
  | exc x μ1=>rw [e] at g;exact g
  | bad=>rw [e] at g;exact g
  | ok o μ1 =>
   rw [e] at g
   cases o with
   | rt d=>exact g
   | nx ρ=>exact fun σ' α' F' H' R' e'=>g .non α' F' H' R'.hp e' f6
   | bk ρ=>exact g.elim
   | ct ρ=>exact g.elim
structure Ct (X:Cx) (N G:List Str):Prop where
 hN:X.N=N
 nd:N.Nodup
 loc:∀ x∈N,Loc X.env.scope x∧(x == ("__debug__":Str))=false∧(x == ("__classdict__":Str))=false
 gl:∀ x∈G,Gl X x
 fn:∀ x,X.fn x=true
 calm:X.calm=true
 un:X.A.units + 200 < cLine
theorem Ct.ndX {X:Cx} {N G:List Str} (C:Ct X N G):X.N.Nodup:=by rw [C.hN];exact C.nd
theorem Ct.at {X:Cx} {N G:List Str} (C:Ct X N G) {i:Nat} {x:Str} (h:N[i]? =some x):X.N[i]? =some x:=by rw [C.hN];exact h
theorem mem_at {N:List Str} {i:Nat} {x:Str} (h:N[i]? =some x):x∈N:=List.mem_of_getElem? h
theorem Loc.vis {sc:Scope} {x:Str} (h:Loc sc x):Vis sc x:=h.elim .inl fun z=>.inr (.inl z)
theorem sv {X:Cx} {EX:EXT} {N G:List Str} (C:Ct X N G) (i:Nat) {x:Str} {pos:Pos} (h:N[i]? =some x):ME X EX (.Name x pos) (mVar i) :=
 aa9 (C.at h) (Loc.vis (C.loc x (mem_at h)).1) (C.loc x (mem_at h)).2.1 (C.loc x (mem_at h)).2.2
theorem sa {X:Cx} {EX:EXT} {N G:List Str} (C:Ct X N G) (i:Nat) {x:Str} {pos pos':Pos} {e:Expr} {m:MX} (h:N[i]? =some x) (he:ME X EX e m) (hs:swapsWith e (some (.Name x pos')) pos.line X.env=pure false:=by rfl) :
  MS X EX (.Assign [.Name x pos'] e pos) (Js i m):=aC3 (C.ndX) (C.at h) (C.loc x (mem_at h)).1 (.inl (C.fn x)) he hs
theorem st {X:Cx} {N G:List Str} (C:Ct X N G) (i:Nat) {x:Str} {pos:Pos} (h:N[i]? =some x):MTg X (.Name x pos) (gN i):=Bv (C.ndX) (C.at h) (C.loc x (mem_at h)).1 (.inl (C.fn x))
theorem Ct.g {X:Cx} {N G:List Str} (C:Ct X N G) (j:Nat) {x:Str} (h:G[j]? =some x):Gl X x:=C.gl x (mem_at h)
theorem ae4 {CX:CXT} {N G:List Str} {qual:Str} {sc:Scope} {f:Addr} {cdv:Value} {A:Around} {outer:List Env} {s:Shared} {H:Hp} {E:XK} {k:Nat} (nd:N.Nodup)
  (loc:∀ x∈N,Loc sc x∧(x == ("__debug__":Str))=false∧(x == ("__classdict__":Str))=false) (gl:∀ x∈G,sc.names.lookup x=some .globalImplicit) (hr:Room k (A.deeper (envOfC qual sc s.heap.objs.size f cdv))) :
  Ct (Wa CX P w K mg base N qual sc f cdv A outer s H E).nox N G :=
 ⟨rfl,nd,loc,gl,fun _=>rfl,rfl,by have:=hr.un;show (A.deeper _).units + 200 < cLine;omega⟩
end
end M
set_option Elab.async false
set_option linter.all false
set_option maxRecDepth 100000
set_option maxHeartbeats 4000000
namespace M
open PySem PySem.Spec PyProof.Rows L2
noncomputable def dg (m:MX):MX:=fun ρ μ=>(m ρ μ).bind fun d μ1=>ofO μ1 (match d with
 | .int i=>some (.int (-i))
 | _=>none)
theorem wr {X:Cx} {EX:EXT} {e:Expr} {pos:Pos} {m:MX} (h:ME X EX e m):ME X EX (.UnaryOp .USub e pos) (dg m):=by
 obtain ⟨t,p,s⟩:=h
 refine ⟨_,aL2 av4 p,fun Z α F H σ ρ μ Q R g=>?_⟩
 refine s Z α F H σ ρ μ _ R (GE.step (G:=GE X.K EX Z α F Q) g (fun _ _ h=>h) (fun h=>h) fun d μ1 v α1 F1 H1 R1 e1 p1 g1=>?_)
 cases d with
 | int i=>unfold Rep at p1;exact ⟨i,p1,g1 _ α1 F1 H1 R1 e1 (ui _)⟩
 | _=>exact g1.elim
theorem boot_bool:bootBuiltins "bool"=some (.type "bool"):=by decide +kernel
theorem boot_str:bootBuiltins "str"=some (.type "str"):=by decide +kernel
theorem boot_list:bootBuiltins "list"=some (.type "list"):=by decide +kernel
theorem boot_tuple:bootBuiltins "tuple"=some (.type "tuple"):=by decide +kernel
noncomputable def Uz (K:PySem.W.Frag) (mg:Str→Option Value) (x:Str) (d:D):Prop:=∃ v u,mg x=some u∧Jv v u∧∀ F α,Rep K F α d v
theorem Jf {X:Cx} {EX:EXT} {x:Str} {d:D} {pos:Pos} (c:Uz X.K X.mg x d) (hg:Gl X x) (hd:(x == ("__debug__":Str))=false:=by decide):ME X EX (.Name x pos) (mC d):=by
 obtain ⟨v,u,h1,h2,h3⟩:=c
 exact ab3 (aj7 hg h1 h2 hd) h3
noncomputable def qd (fd:FuncData) (ps:List Str):Prop:=∀ us:List Value,us.length=ps.length→bindArgs fd ⟨us,[]⟩=pure (ps.zip us)
noncomputable def J5 (K:PySem.W.Frag) (mg:Str→Option Value) (x:Str) (st:Stmt) (ps:List Str):Prop:=∃ f fd,mg x=some (.ref f)∧Fun K x x st f fd∧qd fd ps
noncomputable def Jo (P:Program) (w:World) (K:PySem.W.Frag) (mg:Str→Option Value) (base:Heap) (x:Str) (k n:Nat) (φ:Fn):Prop :=
 ∃ f fd ps,mg x=some (.ref f)∧PySem.W.keepIn K (.ref f)=true∧qd fd ps∧ps.length=n∧FnOk P w K mg base CX0 k f fd ps (spM K n φ)
theorem a9 {P:Program} {w:World} {K:PySem.W.Frag} {mg:Str→Option Value} {base:Heap} {x:Str} {st:Stmt} {N ps:List Str} {k j n:Nat} {b:MSt} {f:Addr} {fd:FuncData} (F:Fun K x x st f fd) (S:FnScope N ps (defScope st)) (hj:N.length - ps.length=j) (hn:ps.length=n)
  (hb:∀ (cdv:Value) (A:Around) (outer:List Env) (s:Shared) (H:Hp) (E:XK),Room k (A.deeper (envOfC x (defScope st) s.heap.objs.size f cdv)) →
   MSs (Wa CX0 P w K mg base N x (defScope st) f cdv A outer s H E).nox NoX (defBody st) b):FnOk P w K mg base CX0 (k + 1) f fd ps (spM K n (fnOf j b)):=by
 subst hn
 exact at9 F S hj hb
theorem az {P:Program} {w:World} {K:PySem.W.Frag} {mg:Str→Option Value} {base:Heap} {x:Str} {st:Stmt} {ps:List Str} {k n:Nat} {φ:Fn} (D:J5 K mg x st ps) (hn:ps.length=n)
  (hb:∀ (f:Addr) (fd:FuncData),Fun K x x st f fd→FnOk P w K mg base CX0 k f fd ps (spM K n φ)):Jo P w K mg base x k n φ:=by
 obtain ⟨f,fd,h1,h2,h3⟩:=D
 exact ⟨f,fd,ps,h1,h2.kp,h3,hn,hb f fd h2⟩
theorem aF7 {K:PySem.W.Frag} {mg:Str→Option Value} {h:Heap} {x:Str} {st:Stmt} {ps:List Str} {f:Addr} {oc:Value} {od an:Option Addr} {osl:Array (Option Value)} {kV doc pm cdv ct:Value} (X:K.In h) (G:h.Ns mainGlobals mg)
  (a:PySem.W.nsIn K mainGlobals x=some (some (.ref f))) (l:K.lookup f=some ⟨oc,od,.func (PySem.W.fnOf x x (defArgs st) (defBody st) (defScope st) .none kV doc pm an cdv ct),osl⟩)
  (c:PySem.W.codeIn K cdv x=true) (k:PySem.W.keepIn K (.ref f)=true) (hb:qd (PySem.W.fnOf x x (defArgs st) (defBody st) (defScope st) .none kV doc pm an cdv ct) ps):J5 K mg x st ps :=
 ⟨f,_,PySem.W.mg_of X G a,ad6 (st:=st) l c k,hb⟩
theorem Z9 {K:PySem.W.Frag} {mg:Str→Option Value} {h:Heap} {x:Str} {i:Int} {t:Tok} (X:K.In h) (G:h.Ns mainGlobals mg) (a:PySem.W.nsIn K mainGlobals x=some (some (.int i t))):Uz K mg x (.int i) :=
 ⟨.int i,_,PySem.W.mg_of X G a,⟨t,rfl⟩,fun _ _=>ui i⟩
theorem Yl {K:PySem.W.Frag} {mg:Str→Option Value} {h:Heap} {x:Str} {p:Addr} {od:Option Addr} {its:Array Value} {n:Nat} {sl:Array (Option Value)} {ds:List D} {vs:List V} (X:K.In h) (G:h.Ns mainGlobals mg)
  (a:PySem.W.nsIn K mainGlobals x=some (some (.ref p))) (l:K.lookup p=some ⟨.type "tuple",od,.seq its n,sl⟩) (hz:its.size≤16777216) (hv:J7 vs its.toList) (hr:∀ F α,Reps K F α ds vs):Uz K mg x (.tup ds) :=
 ⟨.ref p,_,PySem.W.mg_of X G a,rfl,fun F α=>by unfold Rep;exact ⟨p,vs,rfl,.inr ⟨_,its,n,l,rfl,rfl,by rw [sizeLine_eq];exact hz,hv⟩,hr F α⟩⟩
theorem G3 {K:PySem.W.Frag} {F:Hp} {α:List Addr}:∀ ns:List Int,Reps K F α (ns.map D.int) (ns.map V.int)
 | []=>jy
 | n::ns=>j4 (ui n) (G3 ns)
theorem me_fn {X:Cx} {EX:EXT} {x:Str} {p pos:Pos} {k n:Nat} {φ:Fn} {e:Expr} {es:List Expr} {ms:MAs} (F:Jo X.prog X.w X.K X.mg X.base x k n φ) (hr:Room k X.A) (hg:Gl X x)
  (ha:MA X EX (e::es) ms) (hl:(e::es).length=n) (hdb:(x == ("__debug__":Str))=false:=by decide) (he:starEach (e::es) X.env=(false,eval e X.env)::starEach es X.env:=by rfl) (hpl:(backTo pos (starEach es X.env)).any (·.1)=false:=by rfl) :
  ME X EX (.Call (.Name x p) (e::es) [] pos) (mCall φ ms):=by
 obtain ⟨f,fd,ps,h1,h2,h3,h4,h5⟩:=F
 subst h4
 exact am9 h5 hr hg h1 h2 (.all h3) ha hl hdb he hpl
theorem aC8 {X:Cx} {EX:EXT} {x:Str} {p pos:Pos} {k:Nat} {φ:Fn} (F:Jo X.prog X.w X.K X.mg X.base x k 0 φ) (hr:Room k X.A) (hg:Gl X x) (hdb:(x == ("__debug__":Str))=false:=by decide):ME X EX (.Call (.Name x p) [] [] pos) (mCall φ mNil):=by
 obtain ⟨f,fd,ps,h1,h2,h3,h4,h5⟩:=F
 obtain rfl:ps=[]:=List.length_eq_zero_iff.mp h4
 exact ab2 h5 hr hg h1 h2 (.all h3) hdb
noncomputable def aD1 (sc:Scope) (N:List Str):Bool:=N.all fun x=>(sc.names.lookup x == some .local || sc.names.lookup x == some .cell) && !(x == ("__debug__":Str)) && !(x == ("__classdict__":Str))
noncomputable def glB (sc:Scope) (N:List Str):Bool:=N.all fun x=>sc.names.lookup x == some .globalImplicit
theorem Cu {sc:Scope} {N:List Str} (h:aD1 sc N=true):∀ x∈N,Loc sc x∧(x == ("__debug__":Str))=false∧(x == ("__classdict__":Str))=false:=fun x hx=>by
 have:=List.all_eq_true.mp h x hx
 simp only [Bool.and_eq_true,Bool.or_eq_true,beq_iff_eq,Bool.not_eq_true'] at this
 exact ⟨this.1.1,this.1.2,this.2⟩
theorem ac8 {sc:Scope} {N:List Str} (h:glB sc N=true):∀ x∈N,sc.names.lookup x=some .globalImplicit:=fun x hx=>by
 have:=List.all_eq_true.mp h x hx
 simpa using this
end M
set_option Elab.async false
set_option linter.all false
set_option maxRecDepth 100000
set_option maxHeartbeats 4000000
namespace M
open PySem PySem.Spec PyProof.Rows L2
section
variable (ρ:En) (μ:Mu) (m ma mb mc:MX) (ms:MAs) (t t1 t2:MB) (n n1 n2:MSt) (x y d:D) (ds:List D) (g g':G2) (gl:GL) (b:Bool) (φ:Fn) (i:Nat) (tg:MG) (it:MIt)
noncomputable def at2 (g:G2) (mb:MX) (ρ:En) (x:D) (μ:Mu):Res D:=(mb ρ μ).bind fun y μ2=>ofO μ2 (g (j8 μ2 x) (j8 μ2 y))
noncomputable def Bj (g:G2) (x y:D) (μ:Mu):Res D:=ofO μ (g (j8 μ x) (j8 μ y))
theorem Dr:mBin g ma mb ρ μ=(ma ρ μ).bind (at2 g mb ρ):=rfl
theorem Kn:at2 g mb ρ x μ=(mb ρ μ).bind (Bj g x):=rfl
theorem Ko:Bj g x y μ=ofO μ (g (j8 μ x) (j8 μ y)):=rfl
theorem Ks (o:D) (r:En):mVar 0 (some o::r) μ=.ok o μ:=rfl
theorem Kt (o:Option D) (r:En) (i:Nat):mVar (i + 1) (o::r) μ=mVar i r μ:=rfl
theorem e_c:mC d ρ μ=.ok d μ:=rfl
noncomputable def as5 (d:D) (μ:Mu):Res Bool:=ofO μ (asB d)
theorem Fo:mTest m ρ μ=(m ρ μ).bind as5:=rfl
theorem vh:as5 (.bl b) μ=.ok b μ:=rfl
noncomputable def aP1 (g g':G2) (mb mc:MX) (ρ:En) (x:D) (μ1:Mu):Res D:=(mb ρ μ1).bind fun y μ2=>(ofO μ2 ((g (j8 μ2 x) (j8 μ2 y)).bind asB)).bind fun k μ3=>match k with
 | true=>(mc ρ μ3).bind fun z μ4=>ofO μ4 (g' (j8 μ4 y) (j8 μ4 z))
 | false=>.ok (.bl false) μ3
noncomputable def aP0 (g g':G2) (mc:MX) (ρ:En) (x y:D) (μ2:Mu):Res D:=(ofO μ2 ((g (j8 μ2 x) (j8 μ2 y)).bind asB)).bind fun k μ3=>match k with
 | true=>(mc ρ μ3).bind fun z μ4=>ofO μ4 (g' (j8 μ4 y) (j8 μ4 z))
 | false=>.ok (.bl false) μ3
noncomputable def aE0 (g':G2) (mc:MX) (ρ:En) (y:D) (k:Bool) (μ3:Mu):Res D:=match k with
 | true=>(mc ρ μ3).bind fun z μ4=>ofO μ4 (g' (j8 μ4 y) (j8 μ4 z))
 | false=>.ok (.bl false) μ3
theorem Ck:Ye g g' ma mb mc ρ μ=(ma ρ μ).bind (aP1 g g' mb mc ρ):=rfl
theorem Gr:aP1 g g' mb mc ρ x μ=(mb ρ μ).bind (aP0 g g' mc ρ x):=rfl
theorem Gs:aP0 g g' mc ρ x y μ=(ofO μ ((g (j8 μ x) (j8 μ y)).bind asB)).bind (aE0 g' mc ρ y):=rfl
theorem ae2:aE0 g' mc ρ y true μ=(mc ρ μ).bind (Bj g' y):=rfl
theorem ag:aE0 g' mc ρ y b μ=if b=true then (mc ρ μ).bind (Bj g' y) else .ok (.bl false) μ:=by cases b <;> rfl
noncomputable def aO6 (d:D) (μ:Mu):Res D:=.ok (.bl (isN d)) μ
noncomputable def as7 (d:D) (μ:Mu):Res D:=.ok (.bl (!isN d)) μ
theorem ai:Zh m ρ μ=(m ρ μ).bind aO6:=rfl
theorem Fj:aN5 m ρ μ=(m ρ μ).bind as7:=rfl
theorem Fb:aO6 d μ=.ok (.bl (isN d)) μ:=rfl
theorem vb:as7 d μ=.ok (.bl (!isN d)) μ:=rfl
noncomputable def aN8 (d:D) (μ:Mu):Res Bool:=ofO μ (Vv (j8 μ d))
theorem aw:mTru m ρ μ=(m ρ μ).bind aN8:=rfl
theorem Fi:aN8 d μ=ofO μ (Vv (j8 μ d)):=rfl
noncomputable def aP2 (n:MB) (ρ:En) (k:Bool) (μ1:Mu):Res Bool:=match k with
 | true=>n ρ μ1
 | false=>.ok false μ1
noncomputable def kOr (n:MB) (ρ:En) (k:Bool) (μ1:Mu):Res Bool:=match k with
 | true=>.ok true μ1
 | false=>n ρ μ1
noncomputable def aO2 (k:Bool) (μ1:Mu):Res Bool:=.ok (!k) μ1
theorem af:mAnd t1 t2 ρ μ=(t1 ρ μ).bind (aP2 t2 ρ):=rfl
theorem ap0:mOr t1 t2 ρ μ=(t1 ρ μ).bind (kOr t2 ρ):=rfl
theorem ar:mNot t ρ μ=(t ρ μ).bind aO2:=rfl
theorem e8:aP2 t ρ b μ=if b=true then t ρ μ else .ok false μ:=by cases b <;> rfl
theorem am:kOr t ρ b μ=if b=true then .ok true μ else t ρ μ:=by cases b <;> rfl
theorem Ff:aO2 b μ=.ok (!b) μ:=rfl
noncomputable def at3 (mb:MX) (ρ:En) (x:D) (μ1:Mu):Res D:=match x with
 | .bl true=>mb ρ μ1
 | .bl false=>.ok (.bl false) μ1
 | _=>.bad
noncomputable def aO1 (mb:MX) (ρ:En) (x:D) (μ1:Mu):Res D:=match x with
 | .bl true=>.ok (.bl true) μ1
 | .bl false=>mb ρ μ1
 | _=>.bad
noncomputable def as6 (x:D) (μ1:Mu):Res D:=match x with
 | .bl k=>.ok (.bl (!k)) μ1
 | _=>.bad
theorem eh:Ud ma mb ρ μ=(ma ρ μ).bind (at3 mb ρ):=rfl
theorem au:gn ma mb ρ μ=(ma ρ μ).bind (aO1 mb ρ):=rfl
theorem Fk:ko ma ρ μ=(ma ρ μ).bind as6:=rfl
theorem V3:at3 mb ρ (.bl b) μ=if b=true then mb ρ μ else .ok (.bl false) μ:=by cases b <;> rfl
theorem Fg:aO1 mb ρ (.bl b) μ=if b=true then .ok (.bl true) μ else mb ρ μ:=by cases b <;> rfl
theorem vc:as6 (.bl b) μ=.ok (.bl (!b)) μ:=rfl
noncomputable def kIf (ma mb:MX) (ρ:En) (k:Bool) (μ1:Mu):Res D:=match k with
 | true=>ma ρ μ1
 | false=>mb ρ μ1
theorem ap1:mIf t ma mb ρ μ=(t ρ μ).bind (kIf ma mb ρ):=rfl
theorem ak:kIf ma mb ρ b μ=if b=true then ma ρ μ else mb ρ μ:=by cases b <;> rfl
noncomputable def ac2 (ms:MAs) (ρ:En) (d:D) (μ1:Mu):Res (List D):=(ms ρ μ1).bind fun ds μ2=>.ok (d::ds) μ2
noncomputable def ac1 (d:D) (ds:List D) (μ2:Mu):Res (List D):=.ok (d::ds) μ2
theorem Du:mNil ρ μ=.ok [] μ:=rfl
theorem W4:mCons m ms ρ μ=(m ρ μ).bind (ac2 ms ρ):=rfl
theorem Qw:ac2 ms ρ d μ=(ms ρ μ).bind (ac1 d):=rfl
theorem Qx:ac1 d ds μ=.ok (d::ds) μ:=rfl
noncomputable def aN7 (ds:List D) (μ1:Mu):Res D:=.ok (.tup ds) μ1
noncomputable def aO4 (ds:List D) (μ1:Mu):Res D:=.ok (.lst ds) μ1
noncomputable def aO9 (ks:List DK) (ds:List D) (μ1:Mu):Res D:=.ok (.dic ks ds) μ1
theorem Dx:ja ms ρ μ=(ms ρ μ).bind aN7:=rfl
theorem ao:ua ms ρ μ=(ms ρ μ).bind aO4:=rfl
theorem Ds (ks:List DK):an3 ks ms ρ μ=(ms ρ μ).bind (aO9 ks):=rfl
theorem Kr:aN7 ds μ=.ok (.tup ds) μ:=rfl
theorem Fd:aO4 ds μ=.ok (.lst ds) μ:=rfl
theorem Kp (ks:List DK):aO9 ks ds μ=.ok (.dic ks ds) μ:=rfl
noncomputable def ac3 (g:GL) (ds:List D) (μ1:Mu):Res D:=ofO μ1 (g (ds.map (j8 μ1)))
theorem Xn:jm gl ms ρ μ=(ms ρ μ).bind (ac3 gl):=rfl
theorem qh:ac3 gl ds μ=ofO μ (gl (ds.map (j8 μ))):=rfl
noncomputable def aO7 (k:Ki) (d:D) (μ1:Mu):Res D:=ofO μ1 ((isI k (j8 μ1 d)).map .bl)
theorem ah (k:Ki):gm k m ρ μ=(m ρ μ).bind (aO7 k):=rfl
theorem Fa (k:Ki):aO7 k d μ=ofO μ ((isI k (j8 μ d)).map .bl):=rfl
noncomputable def as9 (φ:Fn) (ds:List D) (μ1:Mu):Res D:=noX (φ ds μ1)
theorem ei:mCall φ ms ρ μ=(ms ρ μ).bind (as9 φ):=rfl
theorem V2:as9 φ ds μ=noX (φ ds μ):=rfl
noncomputable def aO3 (d:D) (μ1:Mu):Res D:=ofO μ1 (match d with
 | .int i=>some (.int (-i))
 | _=>none)
theorem aq:dg m ρ μ=(m ρ μ).bind aO3:=rfl
theorem Fe (i:Int):aO3 (.int i) μ=.ok (.int (-i)) μ:=rfl
theorem Fm:jx ρ μ=.ok (.nx ρ) μ:=rfl
noncomputable def ab8 (n2:MSt) (o:Out) (μ1:Mu):Res Out:=match o with
 | .nx ρ1=>n2 ρ1 μ1
 | o=>.ok o μ1
theorem Dv:jz n1 n2 ρ μ=(n1 ρ μ).bind (ab8 n2):=rfl
theorem Xq:ab8 n (.nx ρ) μ=n ρ μ:=rfl
theorem vg:ab8 n (.rt d) μ=.ok (.rt d) μ:=rfl
theorem ve:ab8 n (.bk ρ) μ=.ok (.bk ρ) μ:=rfl
theorem vf:ab8 n (.ct ρ) μ=.ok (.ct ρ) μ:=rfl
noncomputable def aO0 (d:D) (μ1:Mu):Res Out:=.ok (.rt d) μ1
theorem av:jt m ρ μ=(m ρ μ).bind aO0:=rfl
theorem Fh:aO0 d μ=.ok (.rt d) μ:=rfl
theorem Fl:aN3 ρ μ=.ok (.rt .non) μ:=rfl
noncomputable def as8 (ρ:En) (d:D) (μ1:Mu):Res Out:=.ok (.nx ρ) μ1
theorem e9:um m ρ μ=(m ρ μ).bind (as8 ρ):=rfl
theorem V1:as8 ρ d μ=.ok (.nx ρ) μ:=rfl
noncomputable def aN9 (i:Nat) (ρ:En) (d:D) (μ1:Mu):Res Out:=.ok (.nx (ρ.set i (some d))) μ1
theorem Dw:Js i m ρ μ=(m ρ μ).bind (aN9 i ρ):=rfl
theorem Kq:aN9 i ρ d μ=.ok (.nx (ρ.set i (some d))) μ:=rfl
noncomputable def aO5 (n1 n2:MSt) (ρ:En) (k:Bool) (μ1:Mu):Res Out:=match k with
 | true=>n1 ρ μ1
 | false=>n2 ρ μ1
theorem aj:jl t n1 n2 ρ μ=(t ρ μ).bind (aO5 n1 n2 ρ):=rfl
theorem Fc:aO5 n1 n2 ρ b μ=if b=true then n1 ρ μ else n2 ρ μ:=by cases b <;> rfl
noncomputable def aO8 (tg:MG) (n:MSt) (ρ:En) (ds:List D) (μ1:Mu):Res Out:=Jl tg n ds ρ μ1
theorem Dt:qr tg it n ρ μ=(it ρ μ).bind (aO8 tg n ρ):=rfl
theorem e7:aO8 tg n ρ ds μ=Jl tg n ds ρ μ:=rfl
noncomputable def Bk (d:D) (μ1:Mu):Res (List D):=ofO μ1 (Yo [d])
theorem qi:uo m ρ μ=(m ρ μ).bind Bk:=rfl
theorem Z6:Bk d μ=ofO μ (Yo [d]):=rfl
noncomputable def ac0 (d:D) (μ1:Mu):Res (List D):=ofO μ1 (g0 d)
noncomputable def ab9 (d:D) (μ1:Mu):Res (List D):=ofO μ1 (af4 d)
theorem Xr:U3 m ρ μ=(m ρ μ).bind ac0:=rfl
theorem vi:aC9 m ρ μ=(m ρ μ).bind ab9:=rfl
theorem Xo:ac0 (.lst ds) μ=.ok ds μ:=rfl
theorem Xp:ab9 (.tup ds) μ=.ok ds μ:=rfl
noncomputable def an6 (o:Out) (μ1:Mu):Res D:=match o with
 | .rt d=>.ok d μ1
 | .nx _=>.ok .non μ1
 | _=>.bad
theorem aQ0 (r:Res Out):fin r=r.bind an6:=by cases r with
 | ok o μ=>cases o <;> rfl
 | exc _ _=>rfl
 | bad=>rfl
theorem va:an6 (.rt d) μ=.ok d μ:=rfl
theorem V0:an6 (.nx ρ) μ=.ok .non μ:=rfl
theorem W3 (k:Nat):fnOf k n ds μ=(n (ds.map some++List.replicate k none) μ).bind an6:=aQ0 _
noncomputable def kTurn (tg:MG) (n:MSt) (ds:List D) (o:Out) (μ1:Mu):Res Out:=match o with
 | .nx ρ2=>Jl tg n ds ρ2 μ1
 | .ct ρ2=>Jl tg n ds ρ2 μ1
 | .bk ρ2=>.ok (.nx ρ2) μ1
 | .rt d=>.ok (.rt d) μ1
theorem Z7 (i:Nat):Jl (gN i) n (d::ds) ρ μ=(n (ρ.set i (some d)) μ).bind (kTurn (gN i) n ds):=by
 simp only [Jl,gN]
 cases n (ρ.set i (some d)) μ with
 | ok o μ=>cases o <;> rfl
 | exc _ _=>rfl
 | bad=>rfl
theorem Fp:kTurn tg n ds (.nx ρ) μ=Jl tg n ds ρ μ:=rfl
end
section
variable (i j:Int) (a b:List Nat) (xs ys:List D) (k l:Bool)
theorem D9:Jj (.int i) (.int j)=some (.int (i + j)):=rfl
theorem Bc:yu (.int i) (.int j)=some (.int (i - j)):=rfl
theorem y0 (h:-18446744073709551616 < i) (h2:i < 18446744073709551616):Uh (.int i) (.int j)=some (.int (i * j)):=by
 simp only [Uh,zq];rw [if_pos (.inl ⟨h,h2⟩)];rfl
theorem qj (h:-18446744073709551616 < j) (h2:j < 18446744073709551616):Uh (.int i) (.int j)=some (.int (i * j)):=by
 simp only [Uh,zq];rw [if_pos (.inr ⟨h,h2⟩)];rfl
theorem Z4 (h:0 < j) (h2:j < 18446744073709551616):Ug (.int i) (.int j)=some (.int (i / j)):=by
 simp only [Ug,zq];rw [if_pos ⟨h,h2⟩];rfl
theorem Y7 (h:0 < j):Jp (.int i) (.int j)=some (.int (i % j)):=by
 simp only [Jp,zq];rw [if_pos h];rfl
theorem a6:ao8 (.int i) (.int j)=some (.int (Builtin.bitAnd i j)):=rfl
theorem ao5:aE8 (.int i) (.int j)=some (.int (Builtin.bitOr i j)):=rfl
theorem Bd:aE6 (.int i) (.int j)=some (.int (Builtin.bitXor i j)):=rfl
theorem g_shl (h:0≤j) (h1:j≤1000000) (h2:i.natAbs < 18446744073709551616):ao7 (.int i) (.int j)=some (.int (i * 2 ^ j.toNat)):=by
 simp only [ao7,zq];rw [if_pos ⟨h,h1,h2⟩];rfl
theorem g_shr (h:0≤j):ao6 (.int i) (.int j)=some (.int (i / 2 ^ j.toNat)):=by
 simp only [ao6,zq];rw [if_pos h];rfl
theorem D7:gLt (.int i) (.int j)=some (.bl (decide (i < j))):=rfl
theorem D8:gLe (.int i) (.int j)=some (.bl (decide (i≤j))):=rfl
theorem Cp:gGt (.int i) (.int j)=some (.bl (decide (j < i))):=rfl
theorem Fu:gGe (.int i) (.int j)=some (.bl (decide (j≤i))):=rfl
theorem Z3:gEq (.int i) (.int j)=some (.bl (i == j)):=by
 unfold gEq;rw [if_pos (by rfl)];simp [eqD]
theorem K9:gNe (.int i) (.int j)=some (.bl (!(i == j))):=by
 unfold gNe;rw [if_pos (by rfl)];simp [eqD]
theorem Ba:gEq (.bl k) (.bl l)=some (.bl (k == l)):=by
 unfold gEq;rw [if_pos (by rfl)];simp [eqD]
noncomputable def okS (a:List Nat):Bool:=a.all (· < 0x110000)
theorem at6 (ha:okS a=true) (hb:okS b=true):gEq (.str a) (.str b)=some (.bl (a == b)):=by
 unfold okS at ha hb
 unfold gEq qg;simp only [jr,dpt,ha,hb];simp [eqD]
theorem at5 (ha:okS a=true) (hb:okS b=true):gNe (.str a) (.str b)=some (.bl (!(a == b))):=by
 unfold okS at ha hb
 unfold gNe qg;simp only [jr,dpt,ha,hb];simp [eqD]
theorem Fv:gIdx (.lst xs) (.int i)=atI xs i:=rfl
theorem Ky:gIdx (.tup xs) (.int i)=atI xs i:=rfl
theorem Fx:uj [.lst xs]=some (.int xs.length):=rfl
theorem Fy:uj [.tup xs]=some (.int xs.length):=rfl
theorem D6:ad2 [.int i,.int j]=some (.int (if j > i then j else i)):=rfl
theorem Bb:aE9 [.int i,.int j]=some (.int (if j < i then j else i)):=rfl
theorem Kz:Wj [.bl k]=some (.int (if k then 1 else 0)):=rfl
theorem Fw:Wj [.int i]=some (.int i):=rfl
theorem Qv {β:Type} {xs:List β} {i:Int} (h0:0≤i):atI xs i=xs[i.toNat]?:=by
 unfold atI ixN
 rw [if_pos h0]
 by_cases h:i < xs.length
 ·rw [if_pos h];rfl
 ·rw [if_neg h]
  simp only [Option.bind_none]
  symm
  rw [List.getElem?_eq_none_iff]
  omega
theorem We (n:Nat) (h:n < 4611686018427387904):Yo [.int (n:Nat)]=some (yr n):=by
 simp only [Yo]
 have h1:(-(2 ^ 62):Int)= -4611686018427387904:=by decide
 have h2:(2 ^ 62:Int)=4611686018427387904:=by decide
 rw [h2,if_pos (by constructor <;> omega),Int.toNat_natCast]
end
end M
set_option Elab.async false
set_option linter.all false
set_option maxRecDepth 100000
set_option maxHeartbeats 4000000
namespace M
open PySem PySem.Spec PyProof.Rows L2
noncomputable def closL (env:Env):List (Str×NameKind)→List (Str×Addr)→List (Str×Addr)
 | [],acc=>acc
 | p::r,acc=>closL env r (if (p.2 == .free)=true then (p.1,(env.cells.lookup p.1).getD 0)::acc else acc)
theorem Ci {env:Env} {scope:Scope} (h:∀ p∈scope.names,p.2=.free→∃ c,env.cells.lookup p.1=some c):closureFor scope env=pure (closL env scope.names []):=by
 simp only [closureFor]
 generalize ([]:List (Str×Addr))=acc
 generalize scope.names=l at h
 induction l generalizing acc with
 | nil=>rfl
 | cons p r ih =>
  obtain ⟨n,k⟩:=p
  rw [List.forIn_cons]
  by_cases hk:(k == NameKind.free)=true
  ·obtain ⟨c,hc⟩:=h (n,k) List.mem_cons_self (by simpa using hk)
   have hc':cellOf env n=pure c:=by unfold cellOf;rw [hc]
   simp only [hk,if_true,hc',pure_bind,closL]
   rw [hc]
   exact ih _ (fun p hp=>h p (List.mem_cons_of_mem _ hp))
  ·simp only [hk,if_false,pure_bind,closL]
   exact ih _ (fun p hp=>h p (List.mem_cons_of_mem _ hp))
theorem Gp {env:Env}:∀ (l:List (Str×NameKind)) (acc:List (Str×Addr)),(∀ p∈l,p.2=.free→∃ c,env.cells.lookup p.1=some c)→(∀ p∈acc,env.cells.lookup p.1=some p.2)→∀ p∈closL env l acc,env.cells.lookup p.1=some p.2
 | [],_,_,ha=>ha
 | q::r,acc,h,ha=>by
  refine Gp r _ (fun p hp=>h p (List.mem_cons_of_mem _ hp)) ?_
  by_cases hk:(q.2 == NameKind.free)=true
  ·rw [if_pos hk]
   intro p hp
   rcases List.mem_cons.mp hp with rfl | hp
   ·obtain ⟨c,hc⟩:=h q List.mem_cons_self (by simpa using hk)
    simp [hc]
   ·exact ha p hp
  ·rw [if_neg hk];exact ha
theorem Zs {β:Type} {l:List (Str×β)} {x:Str} {c:β} (h:l.lookup x=some c):(x,c)∈l:=by
 induction l with
 | nil=>cases h
 | cons p r ih =>
  obtain ⟨n,k⟩:=p
  rw [List.lookup_cons] at h
  by_cases e:x=n
  ·subst e
   simp at h
   subst h
   exact List.mem_cons_self
  ·have e':(x == n)=false:=by simpa using e
   rw [e'] at h
   exact List.mem_cons_of_mem _ (ih h)
theorem C7 {β:Type} {l:List (Str×β)} {x:Str} {c:β} (h:(x,c)∈l):∃ c',l.lookup x=some c':=by
 induction l with
 | nil=>cases h
 | cons p r ih =>
  obtain ⟨n,k⟩:=p
  rw [List.lookup_cons]
  by_cases e:x=n
  ·subst e;exact ⟨k,by simp⟩
  ·rcases List.mem_cons.mp h with h | h
   ·cases h;exact absurd rfl e
   ·obtain ⟨c',hc⟩:=ih h
    have e':(x == n)=false:=by simpa using e
    exact ⟨c',by rw [e'];exact hc⟩
theorem Go {env:Env}:∀ (l:List (Str×NameKind)) (acc:List (Str×Addr)) (p:Str×Addr),p∈acc→p∈closL env l acc
 | [],_,_,h=>h
 | q::r,acc,p,h=>by
  refine Go r _ p ?_
  split
  ·exact List.mem_cons_of_mem _ h
  ·exact h
theorem W6 {env:Env}:∀ (l:List (Str×NameKind)) (acc:List (Str×Addr)) (x:Str),(x,NameKind.free)∈l→∃ c,(closL env l acc).lookup x=some c
 | [],_,_,h=>nomatch h
 | q::r,acc,x,h=>by
  rcases List.mem_cons.mp h with rfl | h
  ·exact C7 (Go r _ (x,(env.cells.lookup x).getD 0) (by simp))
  ·exact W6 r _ x h
structure CompScope (scope:Scope) (env:Env):Prop where
 kind:scope.kind=.function
 nocell:∀ y∈scope.names,y.2≠.cell
 loc:∀ y∈scope.names,y.2=.local→scope.names.lookup y.1=some .local
 cap:∀ y∈scope.names,y.2=.free→env.kindOf y.1=some .cell∨env.kindOf y.1=some .free
noncomputable abbrev E4 (scope:Scope) (env:Env):List (Str×Addr):=closL env scope.names []
theorem f7 {scope:Scope} {env:Env} {x:Str} (hn:∀ y∈scope.names,y.2≠.cell) (h:(relabel scope env).names.lookup x=some .cell∨(relabel scope env).names.lookup x=some .free):(x,NameKind.free)∈scope.names:=by
 have:∃ k,(x,k)∈(relabel scope env).names∧(k=.cell∨k=.free):=by
  rcases h with h | h
  ·exact ⟨_,Zs h,.inl rfl⟩
  ·exact ⟨_,Zs h,.inr rfl⟩
 obtain ⟨k,hm,hk⟩:=this
 unfold relabel at hm
 obtain ⟨⟨n,k'⟩,hq,e⟩:=List.mem_map.mp hm
 simp only at e
 split at e
 ·rename_i hc
  simp only [Bool.and_eq_true,beq_iff_eq] at hc
  cases e
  rw [hc.1.1] at hq
  exact hq
 ·cases e
  rcases hk with rfl | rfl
  ·exact absurd rfl (hn _ hq)
  ·exact hq
noncomputable abbrev NoE:Value→Shared→Prop:=fun _ _=>False
theorem E3 {prog:Program} {w:World} {A:Around} {R:Result→Shared→Prop} {s:Shared} {elt target iter:Expr} {ifs:List Expr} {scope:Scope} {pos:Pos} {it acc:Value} {env:Env} (I:Nat→Shared→Prop)
  (turn:∀ n s,I n s→wpAny (model prog w) A (pyNext it) (fun r s₁=>match r with
   | none=>R (.ok .next) s₁
   | some v=>wpAny (model prog w) A (letOwnedTupleGo target it v) (fun _ s₁'=>wpAny (model prog w) A (assign target env v) (fun _ s₂ =>
     wpAny (model prog w) A (forIn ifs true fun c r=>if r=true then do let ok ← isTrue c env (eval c env);pure (ForInStep.yield ok) else pure (ForInStep.yield r)) (fun ok s₃ =>
      if ok=true then wpAny (model prog w) A (eval elt env) (fun x s₄ =>
       wpAny (model prog w) A (call (.builtin "list.append") [acc,x]) (fun _ s₅=>∃ m,m < n∧I m s₅) NoE s₄) NoE s₃
      else ∃ m,m < n∧I m s₃) NoE s₂) NoE s₁') NoE s₁) NoE s)
  (n:Nat) (h:I n s):codeAny (model prog w) A (.compLoop (.ListComp elt [⟨target,iter,ifs,0⟩] scope pos) 0 it acc env) R s:=by
 refine codeAny_loop rfl I (fun n s hI=>?_) n h
 show wpAny _ A ((compTurn (.ListComp elt [⟨target,iter,ifs,0⟩] scope pos) 0 it acc env).onRaise (fun x=>do noteFrame x env;theTreesLotGoes x)) _ _ s
 refine wpAny_noted ?_
 rw [compTurn_list]
 refine wpAny_bind (wpAny_standAt (wpAny_bind (wpAny_mono (turn n s hI) (fun r s₁ h₁=>?_) fun _ _ h'=>h'.elim)))
 cases r with
 | none=>exact wpAny_pure h₁
 | some v =>
  refine wpAny_bind (wpAny_mono h₁ (fun _ s₁' h₁'=>?_) fun _ _ h'=>h'.elim)
  refine wpAny_bind (wpAny_mono h₁' (fun _ s₂ h₂=>wpAny_bind (wpAny_mono h₂ (fun ok s₃ h₃=>?_) fun _ _ h'=>h'.elim)) fun _ _ h'=>h'.elim)
  cases ok with
  | false=>exact wpAny_pure ⟨rfl,h₃⟩
  | true =>
   exact wpAny_bind (wpAny_bind (wpAny_mono h₃ (fun x s₄ h₄=>wpAny_bind (wpAny_mono h₄ (fun _ s₅ h₅=>wpAny_pure (wpAny_pure ⟨rfl,h₅⟩)) fun _ _ h'=>h'.elim)) fun _ _ h'=>h'.elim))
noncomputable def Yv (X:Cx) (N':List Str) (scope:Scope) (C:Addr) (s:Shared) (H:Hp) (ex:List Addr):Cx :=
 { X with N:=N',s₀:=s,H₀:=H,env:=compEnvC scope (E4 scope X.env) C X.env,outer:=X.stack,ex:=ex,fn:=fun _=>false,pn:=[],xe:=NoE}
section
variable {X:Cx} {EX:EXT} {pins:List (Addr×Obj)} {σ:L2.St} {H:Hp} {s:Shared} {scope:Scope} {C:Addr} {ex:List Addr} {N':List Str}
theorem CompScope.had (cs:CompScope scope X.env) (ok:X.Ok):∀ p∈scope.names,p.2=.free→∃ c,X.env.cells.lookup p.1=some c:=fun p hp hk=>ok.has p.1 (cs.cap p hp hk)
theorem Yk (cs:CompScope scope X.env) (ok:X.Ok) {x:Str} {c:Addr} (h:(E4 scope X.env).lookup x=some c):X.env.cells.lookup x=some c :=
 Gp scope.names [] (cs.had ok) (fun _ z=>nomatch z) (x,c) (Zs h)
theorem a20 (I:Inv X pins σ H s) (cs:CompScope scope X.env) (hC:s.heap.objs.size≤C) (hex:∀ b∈ex,qf X pins H b∧∃ o,s.heap.get? b=some o):(Yv X N' scope C s H ex).Ok:=by
 refine ⟨I.ok.mod,cs.kind,I.ok.glob,I.ok.blt,hC,fun x y c h1 h2=>I.ok.inj x y c (Yk cs I.ok h1) (Yk cs I.ok h2),fun x h=>?_,fun x c h=>(by cases h),I.ok.hd,I.ok.frames,.inl rfl,fun b hb=>⟨?_,fun x c h=>?_⟩,I.bs,Nat.le_trans I.ok.bsz I.sz,fun b o e hb=>?_,fun b hb hf=>?_,I.stack,I.stkFree⟩
 ·exact W6 scope.names [] x (f7 cs.nocell h)
 ·obtain ⟨o,e⟩:=(hex b hb).2
  exact Nat.ne_of_lt (Nat.lt_of_lt_of_le (Heap.lt_size e) hC)
 ·exact (hex b hb).1.2.2.2.2.1 x c (Yk cs I.ok h)
 ·rcases (hex b hb).1.2.2.2.1 with z | z
  ·exact I.ok.noex b o e z
  ·exact absurd (Nat.lt_of_lt_of_le (Heap.lt_size e) (Nat.le_trans I.ok.bsz z)) (Nat.lt_irrefl _)
 ·rcases List.mem_cons.mp (I.stkSub b hf) with z | z
  ·exact (hex b hb).1.2.1 z
  ·exact (hex b hb).1.2.2.1 z
theorem X5 {env:Env} {scope:Scope} {x:Str} (h:scope.names.lookup x=some .free):(relabel scope env).names.lookup x=some .cell∨(relabel scope env).names.lookup x=some .free:=by
 unfold relabel
 generalize scope.names=l at h
 simp only
 induction l with
 | nil=>cases h
 | cons p r ih =>
  obtain ⟨n,k⟩:=p
  rw [List.lookup_cons] at h
  simp only [List.map_cons]
  by_cases e:(x == n)=true
  ·rw [e] at h
   cases h
   split
   ·left;rw [List.lookup_cons,e]
   ·right;rw [List.lookup_cons,e]
  ·have e':(x == n)=false:=by simpa using e
   rw [e'] at h
   have:=ih h
   split
   ·rw [List.lookup_cons,e'];exact this
   ·rw [List.lookup_cons,e'];exact this
structure Caps (X:Cx) (scope:Scope) (T caps:List Str) (ix:List Nat):Prop where
 len:ix.length=caps.length
 at':∀ (j:Nat) (x:Str) (i:Nat),caps[j]? =some x→ix[j]? =some i→X.N[i]? =some x∧scope.names.lookup x=some .free
noncomputable def blk {β:Type} (k:Nat) (ix:List Nat) (σ:List (Option β)):List (Option β):=List.replicate k none++ix.map fun i=>(σ[i]?).getD none
theorem Cj {T caps:List Str} {ix:List Nat} (I:Inv X pins σ H s) (cs:CompScope scope X.env) (cp:Caps X scope T caps ix) {h':Heap} {tk:Nat} (hC:C=s.heap.objs.size) (hex:∀ b∈ex,qf X pins H b∧∃ o,s.heap.get? b=some o)
  (hn:h'.Ns C fun _=>none) (hk:∀ b o,s.heap.get? b=some o→h'.get? b=some o) :
  Inv (Yv X (T++caps) scope C s H ex) [] (blk T.length ix σ) H { s with heap:=h',toks:=tk}:=by
 have ok:=a20 (N':=T++caps) (C:=C) I cs (by rw [hC];exact Nat.le_refl _) hex
 refine ⟨ok,rfl,I.bare,Un.kept hk,⟨_,hn,fun i x v e1 e2 e3=>?_⟩,fun x c e=>?_,?_,fun x c e=>I.freeC x c (Yk cs I.ok e),fun p hp=>(by simp [Yv] at hp),I.hok.kept hk,by simp [blk,Yv,cp.len]⟩
 ·have e1:(T++caps)[i]? =some x:=e1
  unfold blk at e2
  by_cases hi:i < T.length
  ·rw [List.getElem?_append_left (by simpa using hi),List.getElem?_replicate] at e2
   split at e2 <;> cases e2
  ·rw [List.getElem?_append_right (by simp;omega)] at e2
   rw [List.getElem?_append_right (by omega)] at e1
   simp only [List.length_replicate,List.getElem?_map] at e2
   cases q:ix[i - T.length]? with
   | none=>rw [q] at e2;cases e2
   | some j =>
    rw [q] at e2
    obtain ⟨hN,hl⟩:=cp.at' _ x j e1 q
    have e2:(σ[j]?).getD none=some v:=by simpa using e2
    have hσ:σ[j]? =some (some v):=by
     cases z:σ[j]? with
     | none=>rw [z] at e2;cases e2
     | some o=>rw [z] at e2;simp at e2;rw [e2]
    have hm:(x,NameKind.free)∈scope.names:=Zs hl
    have hkind:=cs.cap (x,.free) hm rfl
    obtain ⟨m,hns,hloc⟩:=I.loc
    obtain ⟨u,ru,look⟩:=hloc j x v hN hσ (hkind.elim (fun z=>.inr (.inl z)) fun z=>.inr (.inr z))
    refine ⟨u,ru,.inr ⟨X5 hl,?_⟩⟩
    rcases look with ⟨z,_⟩ | ⟨_,c,hc,hcell⟩
    ·rcases hkind with y | y
     ·rw [z] at y;cases y
     ·rw [z] at y;cases y
    ·obtain ⟨c',hc'⟩:=W6 (env:=X.env) scope.names [] x hm
     have:=Yk cs I.ok hc'
     rw [hc] at this
     cases this
     obtain ⟨o,ho,hd⟩:=hcell
     exact ⟨c,hc',o,hk _ _ ho,hd⟩
 ·obtain ⟨v,o,ho,hd⟩:=I.cell x c (Yk cs I.ok e)
  exact ⟨v,o,hk _ _ ho,hd⟩
 ·show H C=none
  rw [hC]
  exact I.fresh
theorem a19 {T caps:List Str} {σ':L2.St} {H1 H':Hp} {s2 s3 s':Shared} {D:Addr} {o:HO} (I2:Inv X pins σ H1 s2) (hD:s2.heap.objs.size≤D) (h3:s3.os=s2.os) (hk:∀ b u,s2.heap.get? b=some u→s3.heap.get? b=some u)
  (hex:∀ b∈ex,qf X pins H1 b) (I':Inv (Yv X (T++caps) scope C s3 (upd H1 D o) ex) [] σ' H' s'):Inv X pins σ H' s':=by
 have hos:s'.os=s2.os:=I'.os.trans h3
 have u0:Un (frs X.stack) ex H1 (upd H1 D o) s2.heap s3.heap:=Un.laid hk hD (I2.hok.fresh hD)
 have u:Un (frs X.stack) ex H1 H' s2.heap s'.heap:=u0.trans I'.base
 exact I2.call' hos u I'.hok I'.bare fun b hb=>⟨(hex b hb).2.2.2.1,(hex b hb).2.1,(hex b hb).2.2.2.2.1,(hex b hb).2.2.2.2.2⟩
end
end M
set_option Elab.async false
set_option linter.all false
set_option maxRecDepth 100000
set_option maxHeartbeats 4000000
namespace M
open PySem PySem.Spec PyProof.Rows L2
noncomputable def J6 (tg:MG) (t:MB) (m:MX):List D→En→Mu→List D→Res (List D)
 | [],_,μ,acc=>.ok acc μ
 | d::ds,ρ,μ,acc=>match tg d ρ with
  | none=>.bad
  | some ρ1=>(noX (t ρ1 μ)).bind fun k μ1=>if k=true then (noX (m ρ1 μ1)).bind fun x μ2=>J6 tg t m ds ρ1 μ2 (acc++[x]) else J6 tg t m ds ρ1 μ1 acc
noncomputable def ug (k:Nat) (ix:List Nat) (tg:MG) (it:MIt) (t:MB) (m:MX):MX:=fun ρ μ=>(it ρ μ).bind fun ds μ1=>if ds.length≤16777216 then (J6 tg t m ds (blk k ix ρ) μ1 []).bind fun xs μ2=>.ok (.lst xs) μ2 else .bad
noncomputable def mTT:MB:=fun _ μ=>.ok true μ
noncomputable def aH1 (X:Cx) (ifs:List Expr) (t:MB):Prop:=∀ pins s Z α F H σ ρ μ Q,Inv X pins σ H s→RS X.K Z α F H σ ρ μ→GB X.K NoX Z α F Q (t ρ μ) →
 wpAny (model X.prog X.w) X.A (forIn ifs true fun c r=>if r=true then do let ok ← isTrue c X.env (eval c X.env);pure (ForInStep.yield ok) else pure (ForInStep.yield r)) (TP X pins σ Q) X.xe s
theorem mifs_nil {X:Cx}:aH1 X [] mTT:=fun pins s Z α F H σ ρ μ Q I R g=>wpAny_tests_nil ⟨H,I,g α F H R.hp (Ext.refl _ _)⟩
theorem ax3 {K:PySem.W.Frag} {Z:ZS} {F H:Hp} {α:List Addr} {σ:L2.St} {ρ:En} {μ:Mu} (k:Nat) (ix:List Nat) (R:RS K Z α F H σ ρ μ):RS K Z α F H (blk k ix σ) (blk k ix ρ) μ:=by
 refine ⟨R.hp,by simp [blk],fun i d h=>?_⟩
 unfold blk at h ⊢
 by_cases hi:i < k
 ·rw [List.getElem?_append_left (by simpa using hi),List.getElem?_replicate] at h
  split at h <;> cases h
 ·rw [List.getElem?_append_right (by simp;omega)] at h ⊢
  simp only [List.length_replicate,List.getElem?_map] at h ⊢
  cases q:ix[i - k]? with
  | none=>rw [q] at h;cases h
  | some j =>
   rw [q] at h
   have e2:(ρ[j]?).getD none=some d:=by simpa using h
   have hρ:ρ[j]? =some (some d):=by
    cases z:ρ[j]? with
    | none=>rw [z] at e2;cases e2
    | some o=>rw [z] at e2;simp at e2;rw [e2]
   obtain ⟨v,h1,h2⟩:=R.sl j d hρ
   exact ⟨v,by simp [h1],h2⟩
theorem RH.rehold {K:PySem.W.Frag} {Z:ZS} {F H:Hp} {α:List Addr} {μ:Mu} {p:Addr} {o:HO} (o':HO) (r:RH K (ZS.up Z p o) α F H μ):RH K (ZS.up Z p o') α F (upd H p o') μ:=by
 have fp:F p=none:=r.zf p o Uo
 have nc:∀ (k:Nat) (a:Addr) (c:Cell),α[k]? =some a→μ[k]? =some c→c≠.dead→a≠p:=fun k a c ha hc hd z=>by
  have:=r.zc k a c ha hc hd
  rw [z,Uo] at this
  cases this
 refine ⟨fun b u e=>?_,r.len,fun k a c ha hc=>?_,fun b u e=>?_,fun b u e=>?_,fun k a c ha hc hd=>?_,r.dis,r.ext⟩
 ·rw [jo (jf e fp)];exact r.sub b u e
 ·exact (r.cell k a c ha hc).go (Ext.refl _ _) (fun _=>rfl) fun hd=>jo (nc k a c ha hc hd)
 ·by_cases hb:b=p
  ·subst hb;rw [Uo] at e;rw [J4];exact e
  ·rw [z9 hb] at e;rw [jo hb];exact r.zs b u (by rw [z9 hb];exact e)
 ·by_cases hb:b=p
  ·subst hb;exact fp
  ·rw [z9 hb] at e;exact r.zf b u (by rw [z9 hb];exact e)
 ·have:=r.zc k a c ha hc hd
  rw [z9 (nc k a c ha hc hd)] at this ⊢
  exact this
theorem av3 {H:Hp} {p:Addr} {o:HO} (h:H p=some o):upd H p o=H:=by
 funext b
 unfold upd
 split
 ·rename_i e;rw [e,h]
 ·rfl
section
variable {X:Cx} {EX:EXT} {elt tg iter:Expr} {ifs:List Expr} {scope:Scope} {pos:Pos} {T caps:List Str} {ix:List Nat} {g:MG} {t:MB} {m:MX}
noncomputable def Blk (X:Cx) (scope:Scope) (N':List Str) (tg:Expr) (ifs:List Expr) (elt:Expr) (g:MG) (t:MB) (m:MX):Prop :=
 ∀ C s H ex,MTg (Yv X N' scope C s H ex) tg g∧aH1 (Yv X N' scope C s H ex) ifs t∧ME (Yv X N' scope C s H ex) NoX elt m
inductive CSt (Y:Cx) (Z:ZS) (D':Addr) (fp:List Addr) (tn:Nat→Heap→Prop) (α:List Addr) (F:Hp) (g:MG) (t:MB) (m:MX) (ds:List D) (G:Res (List D)→Prop):Nat→Shared→Prop
 | mk {i:Nat} {σ':L2.St} {H':Hp} {α':List Addr} {F':Hp} {ρ':En} {μ':Mu} {xs:List D} {vs:List V} {s':Shared}:i≤ds.length→xs.length≤i→Inv Y [] σ' H' s'→tn i s'.heap→(∀ b∈fp,H' b=none)→RS Y.K (ZS.up Z D' (.lst vs)) α' F' H' σ' ρ' μ'→Ext α F α' F'→Reps Y.K F' α' xs vs→G (J6 g t m (ds.drop i) ρ' μ' xs)→CSt Y Z D' fp tn α F g t m ds G (ds.length + 1 - i) s'
theorem a17 {Y:Cx} {Rr:Result→Shared→Prop} {s:Shared} {σ:L2.St} {Z:ZS} {H F:Hp} {α:List Addr} {ρ:En} {μ:Mu} {ds:List D} {J:It} {fp:List Addr} {it D':Addr} {tn:Nat→Heap→Prop} {G:Res (List D)→Prop} (hxe:Y.xe=NoE) (hcalm:Y.calm=true)
  (hgt:MTg Y tg g) (hif:aH1 Y ifs t) (he:ME Y NoX elt m) (Tn:Turn Y.prog Y.w Y.K tg J fp it tn) (stat:∀ H',(∀ b∈fp,H' b=none)→∀ b∈fp,qf Y [] H' b) (I:Inv Y [] σ H s) (ht0:tn 0 s.heap) (hf0:∀ b∈fp,H b=none)
  (R:RS Y.K (ZS.up Z D' (.lst [])) α F H σ ρ μ) (wk:zo Y.K α F J ds) (hds:ds.length≤16777216) (hG:G (J6 g t m ds ρ μ [])) (hbad:¬ G .bad)
  (hR:∀ (σ':L2.St) (H':Hp) (s':Shared) (α':List Addr) (F':Hp) (xs:List D) (vs:List V) (μ':Mu),Inv Y [] σ' H' s'→RH Y.K (ZS.up Z D' (.lst vs)) α' F' H' μ'→Ext α F α' F'→Reps Y.K F' α' xs vs→G (.ok xs μ')→Rr (.ok .next) s') :
  codeAny (model Y.prog Y.w) Y.A (.compLoop (.ListComp elt [⟨tg,iter,ifs,0⟩] scope pos) 0 (.ref it) (.ref D') Y.env) Rr s:=by
 obtain ⟨tgt,pg,sg⟩:=hgt
 obtain ⟨te,pe,se⟩:=he
 have nox:∀ {α:Type} {tr:Sem α} {Q:α→Shared→Prop} {s:Shared},wpAny (model Y.prog Y.w) Y.A tr Q Y.xe s→wpAny (model Y.prog Y.w) Y.A tr Q NoE s:=fun h=>by rw [hxe] at h;exact h
 refine E3 (CSt Y Z D' fp tn α F g t m ds G) ?_ (ds.length + 1) (.mk (i:=0) (xs:=[]) (vs:=[]) (Nat.zero_le _) (Nat.zero_le _) I ht0 hf0 R (Ext.refl _ _) jy hG)
 rintro n s1 (@⟨i,σ1,H1,α1,F1,ρ1,μ1,xs,vs,_,hi,hxl,I1,t1,f1,R1,e1,r1,g1⟩)
 obtain ⟨w1,w2⟩:=wk _ α1 F1 H1 μ1 R1.hp e1 i
 by_cases hlt:i < ds.length
 ·obtain ⟨w3,w4⟩:=w1 hlt
  refine wpAny_mono (Tn.item Y rfl rfl rfl hcalm i [] s1 σ1 H1 NoE I1 (stat H1 f1) t1 w3) (fun r s2 h2=>?_) fun _ _ z=>z
  obtain ⟨u,rfl,h2⟩:=h2
  refine wpAny_mono h2 (fun _ s3 h3=>?_) fun _ _ z=>z
  obtain ⟨x,H3,I3,rx,yl,t3,f3⟩:=h3
  obtain ⟨d,F3,hd,R3,sf3,p3⟩:=w4 x H3 yl
  have e3:Ext α1 F1 α1 F3:=⟨sf3,fun _ _ h=>h⟩
  rw [List.drop_eq_getElem_cons hlt] at g1
  have hd':ds[i]=d:=by
   rw [List.getElem?_eq_getElem hlt] at hd
   exact Option.some.inj hd
  rw [hd'] at g1
  simp only [J6] at g1
  cases ht:g d ρ1 with
  | none=>rw [ht] at g1;exact absurd g1 hbad
  | some ρ4 =>
   rw [ht] at g1
   simp only at g1
   have I3':=I3.pinned (stat H3 f3) (Tn.obj _ _ t3)
   have R3':RS Y.K (ZS.up Z D' (.lst vs)) α1 F3 H3 σ1 ρ1 μ1:=R1.to R3 e3
   refine wpAny_mono (nox (pg _ s3 σ1 H3 x u (fun σ4 H4=>H4=H3∧RS Y.K (ZS.up Z D' (.lst vs)) α1 F3 H3 σ4 ρ4 μ1) I3' rx (sg _ α1 F3 H3 σ1 ρ1 μ1 x d ρ4 _ R3' p3 ht fun σ4 R4=>⟨rfl,R4⟩))) (fun _ s4 h4=>?_) fun _ _ z=>z
   obtain ⟨σ4,H4,I4,rfl,R4⟩:=h4
   have back:∀ {σ5:L2.St} {H5:Hp} {s5:Shared},Inv Y ([]++Vg fp s3.heap) σ5 H5 s5→Inv Y [] σ5 H5 s5∧tn (i + 1) s5.heap∧∀ b∈fp,H5 b=none:=fun {σ5 H5 s5} I5=>by
    refine ⟨I5.unpinned,Tn.keep _ _ _ t3 fun b hb o e=>(I5.pin (b,o) (List.mem_append_right _ (List.mem_append_right _ (Zu hb e)))).1,fun b hb=>?_⟩
    obtain ⟨o,e,_⟩:=Tn.obj _ _ t3 b hb
    exact (I5.pin (b,o) (List.mem_append_right _ (List.mem_append_right _ (Zu hb e)))).2.1
   refine wpAny_mono (nox (hif _ s4 _ α1 F3 H4 σ4 ρ4 μ1 (fun k H5=>∃ μ5 α5 F5,RH Y.K (ZS.up Z D' (.lst vs)) α5 F5 H5 μ5∧Ext α1 F3 α5 F5∧G (if k=true then (noX (m ρ4 μ5)).bind fun x μ2=>J6 g t m (ds.drop (i + 1)) ρ4 μ2 (xs++[x]) else J6 g t m (ds.drop (i + 1)) ρ4 μ5 xs)) I4 R4 ?_)) (fun k s5 h5=>?_) fun _ _ z=>z
   ·cases hk:t ρ4 μ1 with
    | ok k μ5=>rw [hk] at g1;exact fun α5 F5 H5 R5 e5=>⟨μ5,α5,F5,R5,e5,g1⟩
    | exc x μ5=>rw [hk] at g1;exact absurd g1 hbad
    | bad=>rw [hk] at g1;exact absurd g1 hbad
   obtain ⟨H5,I5,μ5,α5,F5,R5,e5,g5⟩:=h5
   cases k with
   | false =>
    obtain ⟨b1,b2,b3⟩:=back I5
    exact ⟨_,by omega,.mk (i:=i + 1) hlt (Nat.le_succ_of_le hxl) b1 b2 b3 (R4.to R5 e5) (e1.trans (e3.trans e5)) ((r1.mono e3).mono e5) g5⟩
   | true =>
    simp only [if_true] at g5 ⊢
    refine wpAny_mono (nox (pe _ s5 σ4 H5 (fun v6 H6=>∃ x6 μ6 α6 F6,RH Y.K (ZS.up Z D' (.lst vs)) α6 F6 H6 μ6∧Ext α5 F5 α6 F6∧Rep Y.K F6 α6 x6 v6∧G (J6 g t m (ds.drop (i + 1)) ρ4 μ6 (xs++[x6]))) I5 (se _ α5 F5 H5 σ4 ρ4 μ5 _ (R4.to R5 e5) ?_))) (fun y s6 h6=>?_) fun _ _ z=>z
    ·cases hm:m ρ4 μ5 with
     | ok x6 μ6=>rw [hm] at g5;exact fun v6 α6 F6 H6 R6 e6 p6=>⟨x6,μ6,α6,F6,R6,e6,p6,g5⟩
     | exc x μ5=>rw [hm] at g5;exact absurd g5 hbad
     | bad=>rw [hm] at g5;exact absurd g5 hbad
    obtain ⟨v6,H6,I6,rv,x6,μ6,α6,F6,R6,e6,p6,g6⟩:=h6
    have hHD:H6 D'=some (.lst vs):=R6.zs _ _ Uo
    have hvl:vs.length < sizeLine:=by rw [← r1.length,sizeLine_eq];omega
    refine wpAny_mono (nox (G9 (X:=Y) _ s6 σ4 H6 (.ref D') [v6] (.ref D') [y] (fun _ H7=>H7=upd H6 D' (.lst (vs++[v6]))) I6 rfl (.cons rv .nil) ⟨D',vs,v6,rfl,rfl,hHD,hvl,rfl⟩)) (fun z s7 h7=>?_) fun _ _ z=>z
    obtain ⟨_,H7,I7,_,rfl⟩:=h7
    obtain ⟨b1,b2,b3⟩:=back I7
    have R7:=R6.rehold (.lst (vs++[v6]))
    refine ⟨_,by omega,.mk (i:=i + 1) (xs:=xs++[x6]) (vs:=vs++[v6]) hlt ?_ b1 b2 b3 ?_ (e1.trans (e3.trans (e5.trans e6))) ?_ g6⟩
    ·rw [List.length_append,List.length_singleton];exact Nat.succ_le_succ hxl
    ·exact ⟨R7,R4.len,fun j dd h=>let ⟨v,h1,h2⟩:=R4.sl j dd h;⟨v,h1,(h2.mono e5).mono e6⟩⟩
    ·exact ((((r1.mono e3).mono e5).mono e6).append (j4 p6 jy))
 ·refine wpAny_mono (Tn.done Y rfl rfl rfl hcalm i [] s1 σ1 H1 NoE I1 (stat H1 f1) t1 (w2 (by omega))) (fun r s2 h2=>?_) fun _ _ z=>z
  obtain ⟨rfl,I2⟩:=h2
  rw [List.drop_eq_nil_of_le (by omega)] at g1
  exact hR σ1 H1 s2 α1 F1 xs vs μ1 I2 R1.hp e1 r1 g1
theorem a18 {pins:List (Addr×Obj)} {σ:L2.St} {H1:Hp} {s2:Shared} {E:Value→Shared→Prop} {RR:Value→Addr→Result→Shared→Prop} {it:Addr} {fp:List Addr} {tn:Nat→Heap→Prop} {J:It} {Z:ZS} {α:List Addr} {F:Hp} {ρ:En} {μ:Mu} {ds:List D} {G:Res (List D)→Prop}
  (cs:CompScope scope X.env) (cp:Caps X scope T caps ix) (hcalm:X.calm=true) (hb:Blk X scope (T++caps) tg ifs elt g t m)
  (I2:Inv X pins σ H1 s2) (Tn:Turn X.prog X.w X.K tg J fp it tn) (ht0:tn 0 s2.heap) (hfp:∀ b∈fp,qf X pins H1 b) (R:RS X.K Z α F H1 σ ρ μ) (wk:zo X.K α F J ds) (hds:ds.length≤16777216)
  (hG:G (J6 g t m ds (blk T.length ix ρ) μ [])) (hbad:¬ G .bad)
  (hRR:∀ (D' C:Addr) (H':Hp) (s':Shared) (α':List Addr) (F':Hp) (xs:List D) (μ':Mu) (mm:Str→Option Value),Inv X pins σ H' s'→qf X pins H' C→s'.heap.Ns C mm→RH X.K Z α' F' H' μ'→Ext α F α' F'→Rep X.K F' α' (.lst xs) (.ref D')→G (.ok xs μ')→RR (.ref D') C (.ok .next) s') :
  wpAny (model X.prog X.w) X.A (newList []) (fun acc s₃=>wpAny (model X.prog X.w) X.A (newFunctionEnv scope X.env.globals (E4 scope X.env) [] X.env.qual none .none (some X.env)) (fun cenv s₄ =>
   codeAny (model X.prog X.w) X.A (.compStart (.ListComp elt [⟨tg,iter,ifs,0⟩] scope pos) 0 (.ref it) acc { cenv with scope:=relabel scope X.env}) (RR acc cenv.locals) s₄) E s₃) E s2:=by
 have hD:H1 s2.heap.objs.size=none:=I2.fresh
 have hZ:Z.z s2.heap.objs.size=none:=by
  cases e:Z.z s2.heap.objs.size with
  | none=>rfl
  | some u=>rw [R.hp.zs _ _ e] at hD;cases hD
 have I3:Inv X pins σ (upd H1 s2.heap.objs.size (.lst [])) { s2 with heap:=s2.heap.push { cls:=.type "list",data:=.seq ([]:List Value).toArray},toks:=s2.toks}:=I2.lnew (its:=[]) (ys:=[]) .nil (Nat.zero_le _)
 have k3:∀ b u,s2.heap.get? b=some u→(s2.heap.push { cls:=.type "list",data:=.seq ([]:List Value).toArray}).get? b=some u:=fun b u e=>Heap.get?_push_of_some _ e
 refine wpAny_newObj_type (wpAny_newFunctionEnv cs.nocell (by intro y hy;simp at hy) (fun h₁ hns₁ hsb₁=>?_) cs.kind)
 have hobj:∀ b∈fp,∃ o,s2.heap.get? b=some o:=fun b hb=>let ⟨o,e,_⟩:=Tn.obj 0 _ ht0 b hb;⟨o,e⟩
 have hnD:∀ b∈fp,b≠s2.heap.objs.size:=fun b hb=>let ⟨o,e⟩:=hobj b hb;Nat.ne_of_lt (Heap.lt_size e)
 have hex3:∀ b∈fp,qf X pins (upd H1 s2.heap.objs.size (.lst [])) b∧∃ o,(s2.heap.push { cls:=.type "list",data:=.seq ([]:List Value).toArray}).get? b=some o:=fun b hb=>by
  obtain ⟨f0,f1⟩:=hfp b hb
  obtain ⟨o,e⟩:=hobj b hb
  exact ⟨⟨by rw [jo (hnD b hb)];exact f0,f1⟩,o,k3 b o e⟩
 have keep1:∀ b o,(s2.heap.push { cls:=.type "list",data:=.seq ([]:List Value).toArray}).get? b=some o→h₁.get? b=some o:=fun b o e =>
  hsb₁.extBut b o (Nat.ne_of_lt (Heap.lt_size e)) (Heap.get?_push_of_some _ e)
 have I4:=Cj (scope:=scope) (T:=T) (caps:=caps) (ix:=ix) (ex:=fp) (tk:=s2.toks + ([]:List (Str×Value)).length) I3 cs cp rfl hex3 (by simpa using hns₁) keep1
 obtain ⟨hgt,hif,he⟩:=hb (s2.heap.push { cls:=.type "list",data:=.seq ([]:List Value).toArray}).objs.size { s2 with heap:=s2.heap.push { cls:=.type "list",data:=.seq ([]:List Value).toArray},toks:=s2.toks} (upd H1 s2.heap.objs.size (.lst [])) fp
 have t1:tn 0 h₁:=Tn.keep 0 _ _ ht0 fun b _ o e=>keep1 b o (k3 b o e)
 have stat:∀ H':Hp,(∀ b∈fp,H' b=none)→∀ b∈fp,qf (Yv X (T++caps) scope (s2.heap.push { cls:=.type "list",data:=.seq ([]:List Value).toArray}).objs.size { s2 with heap:=s2.heap.push { cls:=.type "list",data:=.seq ([]:List Value).toArray},toks:=s2.toks} (upd H1 s2.heap.objs.size (.lst [])) fp) [] H' b:=fun H' hn b hb=>by
  refine ⟨hn b hb,(I4.ok.exf b hb).1,I4.ok.exfs b hb,.inl hb,(I4.ok.exf b hb).2,fun p hp=>?_⟩
  exact absurd hp (by simp [Yv])
 have loop:codeAny (model X.prog X.w) X.A (.compLoop (.ListComp elt [⟨tg,iter,ifs,0⟩] scope pos) 0 (.ref it) (.ref s2.heap.objs.size) (compEnvC scope (E4 scope X.env) (s2.heap.push { cls:=.type "list",data:=.seq ([]:List Value).toArray}).objs.size X.env))
   (RR (.ref s2.heap.objs.size) (s2.heap.push { cls:=.type "list",data:=.seq ([]:List Value).toArray}).objs.size) { s2 with heap:=h₁,toks:=s2.toks + ([]:List (Str×Value)).length}:=by
  refine a17 (Y:=Yv X (T++caps) scope (s2.heap.push { cls:=.type "list",data:=.seq ([]:List Value).toArray}).objs.size { s2 with heap:=s2.heap.push { cls:=.type "list",data:=.seq ([]:List Value).toArray},toks:=s2.toks} (upd H1 s2.heap.objs.size (.lst [])) fp) (Z:=Z) (G:=G) rfl hcalm hgt hif he Tn stat I4 t1 (fun b hb=>by rw [jo (hnD b hb)];exact (hfp b hb).1)
   (ax3 T.length ix ⟨R.hp.hold (.lst []) hD,R.len,R.sl⟩) wk hds hG hbad fun σ' H' s' α' F' xs vs μ' I' R' e' r' g'=>?_
  have Ib:=a19 (T:=T) (caps:=caps) (s3:={ s2 with heap:=s2.heap.push { cls:=.type "list",data:=.seq ([]:List Value).toArray},toks:=s2.toks}) I2 (Nat.le_refl _) rfl k3 hfp I'
  obtain ⟨mm,hmm,_⟩:=I'.loc
  have hHD:H' s2.heap.objs.size=some (.lst vs):=R'.zs _ _ Uo
  obtain ⟨R2,s2'⟩:=R'.unhold (.lst vs) hZ
  rw [av3 hHD] at R2
  refine hRR _ _ H' s' α' _ xs μ' mm Ib (I3.fpOk (Nat.le_refl _) I'.free) hmm R2 (e'.trans ⟨s2',fun _ _ h=>h⟩) ?_ g'
  unfold Rep
  exact ⟨_,vs,rfl,SqL.of J4,r'.mono ⟨s2',fun _ _ h=>h⟩⟩
 exact codeAny_compStart_list loop (Tn.self X.A 0 _ _ _ t1 loop)
theorem ao1 {pins:List (Addr×Obj)} {σ:L2.St} {H:Hp} {s:Shared} {C:Addr} {h':Heap} (I:Inv X pins σ H s) (f:qf X pins H C) (hs:Heap.SameBut C s.heap h'):Inv X pins σ H { s with heap:=h'} :=
 I.turned (t':=s.toks) (fun b o hb e=>hs.extBut b o hb e) f.1 f.2.1 f.2.2.2.1 f.2.2.2.2.1 f.2.2.2.2.2
theorem Zt {mi:MIt} (cs:CompScope scope X.env) (cp:Caps X scope T caps ix) (hcalm:X.calm=true) (hi:MI X EX tg iter mi) (hb:Blk X scope (T++caps) tg ifs elt g t m) (hs:∀ x,foldedSetIterable iter X.env x=pure x:=by intro _;rfl) :
  ME X EX (.ListComp elt [⟨tg,iter,ifs,0⟩] scope pos) (ug T.length ix g mi t m):=by
 obtain ⟨wi,pi,si⟩:=hi
 refine ⟨fun σ H Q=>∀ pins s,Inv X pins σ H s→wpAny (model X.prog X.w) X.A (eval (.ListComp elt [⟨tg,iter,ifs,0⟩] scope pos) X.env) (EP X pins σ Q) X.xe s,fun pins s σ H Q I h=>h pins s I,fun Z α F H σ ρ μ Q R gd pins s I=>?_⟩
 rw [eval_ListComp]
 refine wpAny_comprehension_free (use:=none) rfl hs (Ci (cs.had I.ok)) cs.kind cs.loc ?_
 unfold ug at gd
 cases hm:mi ρ μ with
 | exc x μ1 =>
  rw [hm] at gd
  have hw:wi σ H fun _ _=>False:=si Z α F H σ ρ μ _ R (by rw [hm];exact gd)
  refine thn (pi pins s σ H _ I hw) fun v s1 h1=>thn h1 fun itv s2 h2=>?_
  obtain ⟨_,_,_,_,_,_,_,_,_,_,z⟩:=h2
  exact z.elim
 | bad=>rw [hm] at gd;exact gd.elim
 | ok ds μ1 =>
  rw [hm] at gd
  simp only [bind_ok] at gd
  by_cases hds:ds.length≤16777216
  ·rw [if_pos hds] at gd
   have hw:wi σ H fun J H1=>∃ α1 F1,RH X.K Z α1 F1 H1 μ1∧Ext α F α1 F1∧zo X.K α1 F1 J ds:=si Z α F H σ ρ μ _ R (by rw [hm];exact fun J α' F' H' R' e' w'=>⟨α',F',R',e',w'⟩)
   refine thn (pi pins s σ H _ I hw) fun v s1 h1=>thn h1 fun itv s2 h2=>?_
   obtain ⟨it,fp,tn,J,H2,rfl,I2,Tn,t0,f2,α1,F1,R1,e1,wk⟩:=h2
   refine a18 (G:=fun r=>GE X.K NoX Z α F Q (r.bind fun xs μ2=>.ok (.lst xs) μ2)∨GE X.K EX Z α F Q (r.bind fun xs μ2=>.ok (.lst xs) μ2)) cs cp hcalm hb I2 Tn t0 f2 (R.to R1 e1) wk hds (.inr gd) (fun z=>z.elim id id) fun D' C H' s' α' F' xs μ' mm I' fC hn R' e' rp gg=>?_
   refine ⟨mm,hn,fun h' hs'=>⟨.ref D',H',ao1 I' fC hs',rfl,?_⟩⟩
   rcases gg with gg | gg
   ·exact gg _ α' F' H' R' (e1.trans e') rp
   ·exact gg _ α' F' H' R' (e1.trans e') rp
  ·rw [if_neg hds] at gd;exact gd.elim
end
end M
set_option Elab.async false
set_option linter.all false
set_option maxRecDepth 100000
set_option maxHeartbeats 4000000
namespace M
open PySem PySem.Spec PyProof.Rows L2
section
variable {prog:Program} {w:World} {A:Around}
theorem a14 (hh:A.handled=none) (j tp:Addr) (hne:tp≠j) (xs:Array Value):Draws prog w A j [j,tp] xs.size (fun i v=>xs[i]? =some v) (fun i h=>h.IsTupleIter j tp i∧h.IsTuple tp xs):=by
 have start:∀ {s:Shared} {Q:Value→Shared→Prop} {E:Value→Shared→Prop} {i:Nat},s.heap.IsTupleIter j tp i→s.heap.IsTuple tp xs →
   wpAny (model prog w) A.in1 (match xs[i]? with
    | some x=>do setField (.ref j) 1 (rawInt ((i:Int) + 1));ret x
    | none=>do rule "tuple_iterator.__next__.end";setField (.ref j) 0 .none;Builtin.SmallTypes.stopIteration) (fun f s'=>∃ v,f=.done (.ret v)∧wpAny (model prog w) A (pure v) Q E s') E s →
   wpAny (model prog w) A (Builtin.SmallTypes.nextOf (.ref j)) Q E s:=fun {s Q E i} a b h=>by
  obtain ⟨oj,ej,_,dj⟩:=id a
  obtain ⟨ot,et,_,n,dt⟩:=b
  unfold Builtin.SmallTypes.nextOf
  refine wpAny_bind (wpAny_callSpecial?_slot (name:="__next__") a.typeIs PySem.F.slot_tuple_iterator_next (wpAny_call_entry PySem.F.slot_tuple_iterator_next a.typeIs PySem.F.entry_tuple_iterator_next ?_ (PySem.F.args_tuple_iterator_next_1 _)))
  refine (wpAny_bind (wpAny_field ej dj (x:=.ref tp) rfl ?_):wpAny _ _ (field (.ref j) 0 >>= _) _ _ s)
  refine (wpAny_bind (wpAny_field ej dj (x:=.int i 0) rfl ?_):wpAny _ _ (field (.ref j) 1 >>= _) _ _ s)
  refine (wpAny_bind (wpAny_seqItems et dt ?_):wpAny _ _ (seqItems? (.ref tp) >>= _) _ _ s)
  simp only [Int.toNat_natCast]
  exact h
 refine ⟨fun _ _ st=>let ⟨o,e,_⟩:=st.1;⟨o,e⟩,fun i h h' st k=>?_,fun i s Q E hi st q=>start st.1 st.2 ?_,fun s Q E st q=>start st.1 st.2 ?_⟩
 ·obtain ⟨⟨o,e,r⟩,⟨o2,e2,r2⟩⟩:=st
  exact ⟨⟨o,k j (by simp) o e,r⟩,⟨o2,k tp (by simp) o2 e2,r2⟩⟩
 ·obtain ⟨⟨o,e,c,d⟩,b⟩:=id st
  rw [Array.getElem?_eq_getElem hi]
  refine wpAny_bind (wpAny_setField e d (by simp) (wpAny_pure ⟨_,rfl,wpAny_pure (q _ _ _ (by simp [hi]) ⟨⟨_,Heap.get?_update_self _ e (Obj.isFreed_of_fields (Obj.data_mapFields d _)),(Obj.cls_mapFields ..).trans c,by rw [Obj.data_mapFields d];simp [rawInt]⟩,b.extBut (Heap.SameBut.update ..).extBut hne⟩ (Heap.SameBut.update ..))⟩))
 ·obtain ⟨⟨o,e,c,d⟩,b⟩:=id st
  rw [show xs[xs.size]? =none by simp]
  refine wpAny_bind (wpAny_rule (wpAny_bind (wpAny_setField e d (by simp) ?_)))
  simp only [Builtin.SmallTypes.stopIteration,newExc,newTuple]
  refine wpAny_bind (wpAny_bind (wpAny_newObj_type (wpAny_bind (m:=firstArgMember _ _) (wpAny_of_eq (a:=Value.none) (by first | rfl | (simp only [firstArgMember];rfl)) (wpAny_newObj_type ?_ (by size_fits)))) (by size_fits)))
  simp only [raiseNew]
  refine wpAny_bind (wpAny_handled ?_)
  rw [show A.in1.handled=none from hh]
  exact wpAny_bind (wpAny_pure (wpAny_throw (q _ _ (((Heap.SameBut.update ..).extBut.push _).push _) ⟨_,Heap.get?_push_size _ rfl,rfl⟩)))
structure Apart (z tI tO i1 i2:Addr) (f1 f2:List Addr):Prop where
 a:z≠tO
 b:z≠tI
 c:tI≠tO
 z1:z∉f1
 z2:z∉f2
 o1:tO∉f1
 o2:tO∉f2
 m1:i1∈f1
 m2:i2∈f2
 x1:i1∉f2
 x2:i2∉f1
 t1:tI∉f1
 t2:tI∉f2
theorem Apart.ne1 {z tI tO i1 i2:Addr} {f1 f2:List Addr} (P:Apart z tI tO i1 i2 f1 f2):i1≠z∧i1≠tO∧i1≠i2∧i1≠tI:=⟨fun e=>P.z1 (e ▸ P.m1),fun e=>P.o1 (e ▸ P.m1),fun e=>P.x1 (e ▸ P.m2),fun e=>P.t1 (e ▸ P.m1)⟩
theorem Apart.ne2 {z tI tO i1 i2:Addr} {f1 f2:List Addr} (P:Apart z tI tO i1 i2 f1 f2):i2≠z∧i2≠tO∧i2≠tI:=⟨fun e=>P.z2 (e ▸ P.m2),fun e=>P.o2 (e ▸ P.m2),fun e=>P.t2 (e ▸ P.m2)⟩
theorem uu {f:List Addr} {c:Addr} {h h':Heap} (hc:c∉f) (k:Heap.ExtBut c h h'):∀ b∈f,∀ o,h.get? b=some o→h'.get? b=some o:=fun b hb o e=>k b o (fun z=>hc (z ▸ hb)) e
variable {E:Value→Shared→Prop} {s:Shared} {z tI tO i1 i2:Addr} {f1 f2:List Addr} {n1 n2 k:Nat} {P1 P2:Nat→Value→Prop} {S1 S2:Nat→Heap→Prop} {p q:Value}
theorem a33 {Q:Value→Shared→Prop} (D1:Draws prog w A.in1 i1 f1 n1 P1 S1) (D2:Draws prog w A.in1 i2 f2 n2 P2 S2) (ap:Apart z tI tO i1 i2 f1 f2) (hz:IsZip s.heap z tI tO .none) (hI:IsPair s.heap tI (.ref i1) (.ref i2)) (hO:IsPair s.heap tO p q)
  (s1:S1 k s.heap) (s2:S2 k s.heap) (l1:k < n1) (l2:k < n2)
  (fin:∀ x y h' tk,P1 k x→P2 k y→IsZip h' z tI tO (rawInt s.heap.objs.size)→IsPair h' tO x y→S1 (k + 1) h'→S2 (k + 1) h'→IsPair h' s.heap.objs.size x y→(∀ c o,c≠z→c≠tO→c≠i1→c≠i2→s.heap.get? c=some o→h'.get? c=some o) →
   Q (.ref s.heap.objs.size) { s with heap:=h',toks:=tk}) :
  wpAny (model prog w) A.in1 (Builtin.«zip.__next__» ⟨[.ref z],[]⟩) (fun f s'=>∃ v,f=.done (.ret v)∧Q v s') E s:=by
 obtain ⟨u1,u2,u3,u4⟩:=ap.ne1
 obtain ⟨v1,v2,v3⟩:=ap.ne2
 refine (wpAny_bind (wpAny_field hz rfl (x:=.bool false) rfl ?_):wpAny _ _ (field (.ref z) 2 >>= _) _ _ _)
 refine (wpAny_bind (wpAny_field hz rfl (x:=.ref tI) rfl ?_):wpAny _ _ (field (.ref z) 3 >>= _) _ _ _)
 refine wpAny_bind (wpAny_seqItems hI rfl ?_)
 have free:∀ {R:Bool→Shared→Prop},R true s→wpAny (model prog w) A.in1 (Builtin.SmallTypes.ownedTupleIsFree (.ref z)) R E s:=fun r=>by
  unfold Builtin.SmallTypes.ownedTupleIsFree
  exact wpAny_bind (wpAny_field hz rfl (x:=.none) rfl (wpAny_pure r))
 refine (wpAny_bind (free ?_):wpAny _ _ (Builtin.SmallTypes.ownedTupleIsFree (.ref z) >>= _) _ _ _)
 simp only [if_true]
 refine wpAny_bind (wpAny_rule ?_)
 refine wpAny_bind (wpAny_field hz rfl (x:=.ref tO) rfl ?_)
 refine wpAny_bind (wpAny_setField_rec hz (by simp) fun g1 z1 k1=>wpAny_bind ?_)
 simp only [List.zipIdx_cons,List.zipIdx_nil,List.forIn_cons,List.forIn_nil]
 have a1:S1 k g1:=D1.frame _ _ _ s1 (uu ap.z1 k1.extBut)
 have a2:S2 k g1:=D2.frame _ _ _ s2 (uu ap.z2 k1.extBut)
 have aO:IsPair g1 tO p q:=k1.extBut _ _ ap.a.symm hO
 refine wpAny_bind (wpAny_bind (wpAny_onRaise ((wpAny_bind (D1.item k _ _ _ l1 a1 fun x g2 tk2 px b1 k2=>wpAny_pure ?_)):wpAny _ _ (Builtin.SmallTypes.nextOf (.ref i1) >>= _) _ _ _)))
 have b2:S2 k g2:=D2.frame _ _ _ a2 (uu ap.x1 k2.extBut)
 have bO:IsPair g2 tO p q:=k2.extBut _ _ u2.symm aO
 refine wpAny_bind (wpAny_seqItems bO rfl (wpAny_bind (wpAny_updateSeq_pair bO fun g3 cO k3=>wpAny_bind (wpAny_letGo (wpAny_pure ?_)))))
 have cO':IsPair g3 tO x q:=cO
 have c1:S1 (k + 1) g3:=D1.frame _ _ _ b1 (uu ap.o1 k3.extBut)
 have c2:S2 k g3:=D2.frame _ _ _ b2 (uu ap.o2 k3.extBut)
 refine wpAny_bind (wpAny_bind (wpAny_onRaise ((wpAny_bind (D2.item k _ _ _ l2 c2 fun y g4 tk4 py d2 k4=>wpAny_pure ?_)):wpAny _ _ (Builtin.SmallTypes.nextOf (.ref i2) >>= _) _ _ _)))
 have d1:S1 (k + 1) g4:=D1.frame _ _ _ c1 (uu ap.x2 k4.extBut)
 have dO:IsPair g4 tO x q:=k4.extBut _ _ v2.symm cO'
 refine wpAny_bind (wpAny_seqItems dO rfl (wpAny_bind (wpAny_updateSeq_pair dO fun g5 eO k5=>wpAny_bind (wpAny_letGo (wpAny_pure (wpAny_pure ?_))))))
 have eO':IsPair g5 tO x y:=eO
 have e1:S1 (k + 1) g5:=D1.frame _ _ _ d1 (uu ap.o1 k5.extBut)
 have e2:S2 (k + 1) g5:=D2.frame _ _ _ d2 (uu ap.o2 k5.extBut)
 have sz:g5.objs.size=s.heap.objs.size:=by rw [k5.1,k4.1,k3.1,k2.1,k1.1]
 have z5:IsZip g5 z tI tO .ellipsis:=k5.extBut _ _ ap.a (k4.extBut _ _ v1.symm (k3.extBut _ _ ap.a (k2.extBut _ _ u1.symm z1)))
 have old:∀ c o,c≠z→c≠tO→c≠i1→c≠i2→s.heap.get? c=some o→g5.get? c=some o:=fun c o n1 n2 n3 n4 e=>k5.extBut _ _ n2 (k4.extBut _ _ n4 (k3.extBut _ _ n2 (k2.extBut _ _ n3 (k1.extBut _ _ n1 e))))
 refine wpAny_bind (wpAny_seqItems eO' rfl (wpAny_bind (wpAny_newTuple ?_)))
 have z6:IsZip (g5.push { cls:=.type "tuple",data:=.seq #[x,y]}) z tI tO .ellipsis:=Heap.get?_push_of_some _ z5
 have out:∀ {R:Unit→Shared→Prop},(∀ g7,IsZip g7 z tI tO (rawInt g5.objs.size)→Heap.ExtBut z (g5.push { cls:=.type "tuple",data:=.seq #[x,y]}) g7→R () { s with heap:=g7,toks:=tk4}) →
   wpAny (model prog w) A.in1 (Builtin.SmallTypes.ownedTupleHandOut (.ref z) (.ref g5.objs.size)) R E { s with heap:=g5.push { cls:=.type "tuple",data:=.seq #[x,y]},toks:=tk4}:=fun r=>by
  unfold Builtin.SmallTypes.ownedTupleHandOut
  refine wpAny_bind (wpAny_setField_rec z6 (by simp) fun g7 z7 k7=>wpAny_setField_rec (show IsZip g7 z tI tO (rawInt g5.objs.size) from z7) (by simp) fun g8 z8 k8=>r g8 z8 fun c o hc e=>k8.extBut c o hc (k7.extBut c o hc e))
 show wpAny _ _ (Builtin.SmallTypes.ownedTupleHandOut (.ref z) (.ref g5.objs.size) >>= _) _ _ _
 refine wpAny_bind (out fun g7 z7 k7=>?_)
 refine wpAny_pure ⟨_,rfl,?_⟩
 have up:∀ c o,c≠z→g5.get? c=some o→g7.get? c=some o:=fun c o hc e=>k7 c o hc (Heap.get?_push_of_some _ e)
 have zlt:z < g5.objs.size:=Heap.lt_size z5
 show Q (.ref g5.objs.size) _
 rw [sz] at z7 ⊢
 refine fin x y g7 tk4 px py z7 (up _ _ ap.a.symm eO') (D1.frame _ _ _ e1 fun b hb o e=>up b o (fun zz=>ap.z1 (zz ▸ hb)) e) (D2.frame _ _ _ e2 fun b hb o e=>up b o (fun zz=>ap.z2 (zz ▸ hb)) e) ?_ fun c o n1 n2 n3 n4 e=>up c o n1 (old c o n1 n2 n3 n4 e)
 rw [← sz]
 exact k7 _ _ (Nat.ne_of_gt zlt) (Heap.get?_push_size _ rfl)
theorem a34 {Q:PySem.Fin→Shared→Prop} (D1:Draws prog w A.in1 i1 f1 n1 P1 S1) (D2:Draws prog w A.in1 i2 f2 n2 P2 S2) (ap:Apart z tI tO i1 i2 f1 f2) (hz:IsZip s.heap z tI tO .none) (hI:IsPair s.heap tI (.ref i1) (.ref i2)) (hO:IsPair s.heap tO p q)
  (s1:S1 k s.heap) (s2:S2 k s.heap) (le1:k≤n1) (le2:k≤n2) (hend:k=n1∨k=n2)
  (fin:∀ h' e tk,(∀ c o,c≠z→c≠tO→c≠i1→c≠i2→s.heap.get? c=some o→h'.get? c=some o)→(∃ o,h'.get? e=some o∧o.cls=.type "StopIteration")→E (.ref e) { s with heap:=h',toks:=tk}) :
  wpAny (model prog w) A.in1 (Builtin.«zip.__next__» ⟨[.ref z],[]⟩) Q E s:=by
 obtain ⟨u1,u2,u3,u4⟩:=ap.ne1
 obtain ⟨v1,v2,v3⟩:=ap.ne2
 refine (wpAny_bind (wpAny_field hz rfl (x:=.bool false) rfl ?_):wpAny _ _ (field (.ref z) 2 >>= _) _ _ _)
 refine (wpAny_bind (wpAny_field hz rfl (x:=.ref tI) rfl ?_):wpAny _ _ (field (.ref z) 3 >>= _) _ _ _)
 refine wpAny_bind (wpAny_seqItems hI rfl ?_)
 have free:∀ {R:Bool→Shared→Prop},R true s→wpAny (model prog w) A.in1 (Builtin.SmallTypes.ownedTupleIsFree (.ref z)) R E s:=fun r=>by
  unfold Builtin.SmallTypes.ownedTupleIsFree
  exact wpAny_bind (wpAny_field hz rfl (x:=.none) rfl (wpAny_pure r))
 refine (wpAny_bind (free ?_):wpAny _ _ (Builtin.SmallTypes.ownedTupleIsFree (.ref z) >>= _) _ _ _)
 simp only [if_true]
 refine wpAny_bind (wpAny_rule ?_)
 refine wpAny_bind (wpAny_field hz rfl (x:=.ref tO) rfl ?_)
 refine wpAny_bind (wpAny_setField_rec hz (by simp) fun g1 z1 k1=>wpAny_bind ?_)
 simp only [List.zipIdx_cons,List.zipIdx_nil,List.forIn_cons,List.forIn_nil]
 have a1:S1 k g1:=D1.frame _ _ _ s1 (uu ap.z1 k1.extBut)
 have a2:S2 k g1:=D2.frame _ _ _ s2 (uu ap.z2 k1.extBut)
 have aO:IsPair g1 tO p q:=k1.extBut _ _ ap.a.symm hO
 have pass:∀ {g:Heap} {e:Addr} {tk:Nat},IsZip g z tI tO .ellipsis→(∃ o,g.get? e=some o∧o.cls=.type "StopIteration")→(∀ c o,c≠z→c≠tO→c≠i1→c≠i2→s.heap.get? c=some o→g.get? c=some o) →
   wpAny (model prog w) A.in1 (setField (.ref z) 0 .none) (fun _ s'=>E (.ref e) s') E { s with heap:=g,toks:=tk}:=fun {g e tk} zg he kg=>by
  obtain ⟨oe,ee,ce⟩:=he
  have nez:e≠z:=fun x=>by rw [x,zg] at ee;cases ee;simp at ce
  exact wpAny_setField_rec zg (by simp) fun g' _ k'=>fin g' e tk (fun c o m1 m2 m3 m4 x=>k'.extBut _ _ m1 (kg c o m1 m2 m3 m4 x)) ⟨oe,k'.extBut _ _ nez ee,ce⟩
 by_cases h1:k=n1
 ·subst h1
  refine wpAny_bind (wpAny_bind (wpAny_onRaise ((wpAny_bind (D1.done _ _ _ a1 fun g2 e k2 he=>?_)):wpAny _ _ (Builtin.SmallTypes.nextOf (.ref i1) >>= _) _ _ _)))
  exact pass (tk:=s.toks) (k2 _ _ u1.symm z1) he fun c o m1 m2 m3 m4 x=>k2 _ _ m3 (k1.extBut _ _ m1 x)
 ·have h2:k=n2:=hend.resolve_left h1
  subst h2
  refine wpAny_bind (wpAny_bind (wpAny_onRaise ((wpAny_bind (D1.item k _ _ _ (by omega) a1 fun x g2 tk2 px b1 k2=>wpAny_pure ?_)):wpAny _ _ (Builtin.SmallTypes.nextOf (.ref i1) >>= _) _ _ _)))
  have b2:S2 k g2:=D2.frame _ _ _ a2 (uu ap.x1 k2.extBut)
  have bO:IsPair g2 tO p q:=k2.extBut _ _ u2.symm aO
  refine wpAny_bind (wpAny_seqItems bO rfl (wpAny_bind (wpAny_updateSeq_pair bO fun g3 cO k3=>wpAny_bind (wpAny_letGo (wpAny_pure ?_)))))
  have c2:S2 k g3:=D2.frame _ _ _ b2 (uu ap.o2 k3.extBut)
  refine wpAny_bind (wpAny_bind (wpAny_onRaise ((wpAny_bind (D2.done _ _ _ c2 fun g4 e k4 he=>?_)):wpAny _ _ (Builtin.SmallTypes.nextOf (.ref i2) >>= _) _ _ _)))
  exact pass (tk:=tk2) (k4 _ _ v1.symm (k3.extBut _ _ ap.a (k2.extBut _ _ u1.symm z1))) he fun c o m1 m2 m3 m4 x=>k4 _ _ m4 (k3.extBut _ _ m2 (k2.extBut _ _ m3 (k1.extBut _ _ m1 x)))
end
section
variable {X:Cx} {pins:List (Addr×Obj)} {σ:L2.St} {H:Hp} {s:Shared} {h':Heap} {fp:List Addr}
theorem D4 {vs:List V} {us:List Value} {t':Nat} (I:Inv X pins σ H s) (hf:∀ b∈fp,qf X pins H b) (hk:∀ b o,b∉fp→s.heap.get? b=some o→h'.get? b=some o) (rv:J7 vs us) (hz:vs.length≤sizeLine) (hT:IsTup h' s.heap.objs.size us.toArray) :
  Inv X pins σ (upd H s.heap.objs.size (.tup vs)) { s with heap:=h',toks:=t'}:=by
 have hn:H s.heap.objs.size=none:=I.fresh
 have nfp:∀ b o,H b=some o→b∉fp:=fun b o e z=>by rw [(hf b z).1] at e;cases e
 refine I.step (g':=s.gens) (d':=s.drawn) (ch:=fp) (fun b hb=>⟨(hf b hb).2.2.2.1,(hf b hb).2.1,(hf b hb).2.2.2.2.1,(hf b hb).2.2.2.2.2⟩) (fun b o _ _ hc e _=>hk b o hc e) (fun b o _ _ hc e _=>⟨o.slots,hk b o hc e⟩)
  (fun b o _ e n=>by rw [jo (Nat.ne_of_lt (Heap.lt_size e))];exact n) (fun b o hc e=>⟨o,hk b o hc e⟩) (fun b xs e=>by rw [jo (jf e hn)];exact e) (fun b o xs e=>by rw [jo (jf e hn)];exact e)
  (fun b ps e=>⟨#[],by rw [jo (jf e hn),e];simp⟩) (fun m hm=>?_) (fun b u e=>?_) I.bare
 ·obtain ⟨o,es,ep,e,r⟩:=hm
  exact ⟨o,es,ep,hk _ o (fun z=>(hf _ z).2.1 rfl) e,r⟩
 ·by_cases hb:b=s.heap.objs.size
  ·subst hb
   rw [J4] at e
   cases e
   exact ⟨hz,us,rv,hT⟩
  ·rw [jo hb] at e
   refine (I.hok b u e).stay (fun c v hc q=>hk c v ?_ q) (fun c q=>by rw [jo (jf q hn)];exact q) fun c xs q=>by rw [jo (jf q hn)];exact q
   rcases hc with rfl | hc
   ·exact nfp _ _ e
   ·exact nfp _ _ hc
theorem D3 {t':Nat} (I:Inv X pins σ H s) (hf:∀ b∈fp,qf X pins H b) (hk:∀ b o,b∉fp→s.heap.get? b=some o→h'.get? b=some o):Inv X pins σ H { s with heap:=h',toks:=t'}:=by
 have nfp:∀ b o,H b=some o→b∉fp:=fun b o e z=>by rw [(hf b z).1] at e;cases e
 refine I.step (g':=s.gens) (d':=s.drawn) (ch:=fp) (fun b hb=>⟨(hf b hb).2.2.2.1,(hf b hb).2.1,(hf b hb).2.2.2.2.1,(hf b hb).2.2.2.2.2⟩) (fun b o _ _ hc e _=>hk b o hc e) (fun b o _ _ hc e _=>⟨o.slots,hk b o hc e⟩)
  (fun b o _ e n=>n) (fun b o hc e=>⟨o,hk b o hc e⟩) (fun b xs e=>e) (fun b o xs e=>e) (fun b ps e=>⟨#[],by rw [e];simp⟩) (fun m hm=>?_) (fun b u e=>?_) I.bare
 ·obtain ⟨o,es,ep,e,r⟩:=hm
  exact ⟨o,es,ep,hk _ o (fun z=>(hf _ z).2.1 rfl) e,r⟩
 ·refine (I.hok b u e).stay (fun c v hc q=>hk c v ?_ q) (fun c q=>q) fun c xs q=>q
  rcases hc with rfl | hc
  ·exact nfp _ _ e
  ·exact nfp _ _ hc
end
end M
set_option Elab.async false
set_option linter.all false
set_option maxRecDepth 100000
set_option maxHeartbeats 4000000
namespace M
open PySem PySem.Spec PyProof.Rows L2
noncomputable def SqB (K:PySem.W.Frag) (b:Bool) (H:Hp) (a:Addr) (xs:List V):Prop:=match b with
 | true=>SqT K H a xs
 | false=>SqL K H a xs
noncomputable def SqH (b:Bool) (h:Heap) (a:Addr) (xs:Array Value):Prop:=match b with
 | true=>h.IsTuple a xs
 | false=>h.IsList a xs
noncomputable def ItH (b:Bool) (h:Heap) (it a:Addr) (k:Nat):Prop:=match b with
 | true=>h.IsTupleIter it a k
 | false=>h.IsListIter it a k
noncomputable abbrev D0 (b:Bool) (a:Addr):Obj:={ cls:=.type (match b with | true=>"tuple_iterator" | false=>"list_iterator"),data:=.fields #[.ref a,.int 0 0]}
theorem SqB.mono {K:PySem.W.Frag} {b:Bool} {H H':Hp} {a:Addr} {xs:List V} (x:SqB K b H a xs) (e:J9 H H'):SqB K b H' a xs:=by
 cases b
 ·exact e.seq x
 ·exact J9.tup e x
theorem Inv.sqB {X:Cx} {pins:List (Addr×Obj)} {σ:L2.St} {H:Hp} {s:Shared} {b:Bool} {a:Addr} {xs:List V} (I:L2.Inv X pins σ H s) (h:SqB X.K b H a xs):∃ its:List Value,J7 xs its∧SqH b s.heap a its.toArray:=by
 cases b
 ·obtain ⟨its,r,p,_⟩:=I.list h
  exact ⟨its,r,p.isList⟩
 ·obtain ⟨its,r,p,_⟩:=I.tuple h
  exact ⟨its,r,p⟩
theorem bu {X:Cx} {pins:List (Addr×Obj)} {σ:L2.St} {H:Hp} {s:Shared} {b:Bool} {a:Addr} {xs ys:List V} (I:L2.Inv X pins σ H s) (h:SqB X.K b H a xs) (h':SqB X.K b H a ys):xs=ys:=by
 cases b
 ·exact I.list_inj h h'
 ·exact I.tuple_inj h h'
theorem SqH.lt {b:Bool} {h:Heap} {a:Addr} {xs:Array Value} (x:SqH b h a xs):a < h.objs.size:=by
 cases b
 ·obtain ⟨o,e,_⟩:=x;exact Heap.lt_size e
 ·obtain ⟨o,e,_⟩:=x;exact Heap.lt_size e
theorem SqH.kept {b:Bool} {h h':Heap} {a:Addr} {xs:Array Value} (x:SqH b h a xs) (k:∀ o,h.get? a=some o→h'.get? a=some o):SqH b h' a xs:=by
 cases b
 ·obtain ⟨o,e,r⟩:=x;exact ⟨o,k o e,r⟩
 ·obtain ⟨o,e,r⟩:=x;exact ⟨o,k o e,r⟩
theorem ItH.kept {b:Bool} {h h':Heap} {it a:Addr} {k:Nat} (x:ItH b h it a k) (kk:∀ o,h.get? it=some o→h'.get? it=some o):ItH b h' it a k:=by
 cases b
 ·obtain ⟨o,e,r⟩:=x;exact ⟨o,kk o e,r⟩
 ·obtain ⟨o,e,r⟩:=x;exact ⟨o,kk o e,r⟩
theorem ItH.ob {b:Bool} {h:Heap} {it a:Addr} {k:Nat} (x:ItH b h it a k):∃ o,h.get? it=some o∧∀ v,o.data≠.cell v:=by
 cases b
 ·obtain ⟨o,e,c,d⟩:=x;exact ⟨o,e,fun v z=>by rw [d] at z;cases z⟩
 ·obtain ⟨o,e,c,d⟩:=x;exact ⟨o,e,fun v z=>by rw [d] at z;cases z⟩
theorem eg {prog:Program} {w:World} {A:Around} (b:Bool) (hh:A.handled=none) (it a:Addr) (hne:a≠it) (xs:Array Value):Draws prog w A it [it,a] xs.size (fun i v=>xs[i]? =some v) (fun i h=>ItH b h it a i∧SqH b h a xs):=by
 cases b
 ·exact Draws.list hh it a hne xs
 ·exact a14 hh it a hne xs
theorem B5 {prog:Program} {w:World} {A:Around} {E:Value→Shared→Prop} {s:Shared} {b:Bool} {a:Addr} {xs:Array Value} {Q:Value→Shared→Prop} (h:SqH b s.heap a xs) (q:Q (.ref s.heap.objs.size) { s with heap:=s.heap.push (D0 b a)}):wpAny (model prog w) A (pyIter (.ref a)) Q E s:=by
 cases b
 ·exact wpAny_pyIter_list h q
 ·exact wpAny_pyIter_tuple h q
theorem Gw {b:Bool} {h:Heap} {a:Addr}:ItH b (h.push (D0 b a)) h.objs.size a 0:=by
 cases b
 ·exact ⟨_,Heap.get?_push_size _ rfl,rfl,rfl⟩
 ·exact ⟨_,Heap.get?_push_size _ rfl,rfl,rfl⟩
noncomputable abbrev zp1 (h:Heap) (b1:Bool) (l1:Addr):Heap:=h.push (D0 b1 l1)
noncomputable abbrev zp2 (h:Heap) (b1 b2:Bool) (l1 l2:Addr):Heap:=(zp1 h b1 l1).push (D0 b2 l2)
noncomputable abbrev zp3 (h:Heap) (b1 b2:Bool) (l1 l2:Addr):Heap:=(zp2 h b1 b2 l1 l2).push { cls:=.type "tuple",data:=.seq #[.ref h.objs.size,.ref (zp1 h b1 l1).objs.size]}
noncomputable abbrev zp4 (h:Heap) (b1 b2:Bool) (l1 l2:Addr):Heap:=(zp3 h b1 b2 l1 l2).push { cls:=.type "tuple",data:=.seq #[.none,.none]}
noncomputable abbrev zp5 (h:Heap) (b1 b2:Bool) (l1 l2:Addr):Heap:=(zp4 h b1 b2 l1 l2).push { cls:=.type "zip",data:=.fields #[.none,.bool false,.bool false,.ref (zp2 h b1 b2 l1 l2).objs.size,.ref (zp3 h b1 b2 l1 l2).objs.size]}
theorem A8 (b1 b2:Bool) (l1 l2:Addr) (xs ys:Array Value) :
  PySem.Meets (Builtin.«zip.__new__» ⟨[.type "zip",.ref l1,.ref l2],[]⟩) (fun _ R s=>SqH b1 s.heap l1 xs∧SqH b2 s.heap l2 ys∧R (.ok (.ret (.ref (zp4 s.heap b1 b2 l1 l2).objs.size))) { s with heap:=zp5 s.heap b1 b2 l1 l2}) :=
 .of_wp fun prog w A R s h=>by
  obtain ⟨hp,g,d,tk,os⟩:=s
  obtain ⟨q1,q2,q⟩:=h
  have sub:=sub_zip
  have e1:SqH b1 (Shared.heap ⟨hp,g,d,tk,os⟩) l1 xs:=q1
  have e2:SqH b2 (Shared.heap ⟨hp.push (D0 b1 l1),g,d,tk,os⟩) l2 ys:=q2.kept fun o e=>Heap.get?_push_of_some _ e
  wp_walk using B5 e1,B5 e2
  exact ⟨_,rfl,q⟩
end M
set_option Elab.async false
set_option linter.all false
set_option maxRecDepth 100000
set_option maxHeartbeats 4000000
namespace M
open PySem PySem.Spec PyProof.Rows L2
noncomputable def Itz (K:PySem.W.Frag) (b1 b2:Bool) (l1 l2:Addr):It :=
  ⟨fun i H=>∃ xs ys x y,SqB K b1 H l1 xs∧SqB K b2 H l2 ys∧xs[i]? =some x∧ys[i]? =some y,
   fun i H v H'=>∃ p x y,v=.ref p∧H p=none∧(∀ xs,SqB K b1 H l1 xs→xs[i]? =some x)∧(∀ ys,SqB K b2 H l2 ys→ys[i]? =some y)∧H'=upd H p (.tup [x,y]),
   fun i H=>∃ xs ys,SqB K b1 H l1 xs∧SqB K b2 H l2 ys∧i≤xs.length∧i≤ys.length∧(i=xs.length∨i=ys.length)⟩
noncomputable def aR0 (b1 b2:Bool) (z tI tO i1 i2 l1 l2:Addr) (i:Nat) (h:Heap):Prop:=∃ p q,IsZip h z tI tO .none∧IsPair h tI (.ref i1) (.ref i2)∧IsPair h tO p q∧ItH b1 h i1 l1 i∧ItH b2 h i2 l2 i
theorem a43 {P:Program} {w:World} {K:PySem.W.Frag} {elts:List Expr} {x1:Nat} {tpos:Pos} {b1 b2:Bool} {z tI tO i1 i2 l1 l2:Addr} (ap:Apart z tI tO i1 i2 [i1,l1] [i2,l2]) (n1:l1≠i1) (n2:l2≠i2) :
  Turn P w K (.Tuple elts x1 tpos) (Itz K b1 b2 l1 l2) [z,tI,tO,i1,i2] z (aR0 b1 b2 z tI tO i1 i2 l1 l2) where
 mem:=by simp
 obj:=fun i h st b hb=>by
  obtain ⟨p,q,hz,hI,hO,h1,h2⟩:=st
  simp only [List.mem_cons,List.not_mem_nil,or_false] at hb
  rcases hb with rfl | rfl | rfl | rfl | rfl
  ·exact ⟨_,hz,fun v e=>by cases e⟩
  ·exact ⟨_,hI,fun v e=>by cases e⟩
  ·exact ⟨_,hO,fun v e=>by cases e⟩
  ·exact h1.ob
  ·exact h2.ob
 keep:=fun i h h' st k=>by
  obtain ⟨p,q,hz,hI,hO,h1,h2⟩:=st
  exact ⟨p,q,k z (by simp) _ hz,k tI (by simp) _ hI,k tO (by simp) _ hO,h1.kept (k i1 (by simp)),h2.kept (k i2 (by simp))⟩
 item:=by
  intro X hP hw hK hc i pins s σ H E I hf st hg
  subst hP hw hK
  obtain ⟨p,q,hz,hI,hO,h1,h2⟩:=st
  obtain ⟨xs,ys,x,y,q1,q2,ex,ey⟩:=hg
  obtain ⟨us,r1,g1⟩:=Inv.sqB I q1
  obtain ⟨ws,r2,g2⟩:=Inv.sqB I q2
  have hh:X.A.in1.handled=none:=I.ok.hd hc
  have lx:i < us.toArray.size:=by
   have:=(List.getElem?_eq_some_iff.mp ex).1
   simp only [List.size_toArray,← r1.length];exact this
  have ly:i < ws.toArray.size:=by
   have:=(List.getElem?_eq_some_iff.mp ey).1
   simp only [List.size_toArray,← r2.length];exact this
  have hT:s.TypeIs (.ref z) "zip":=⟨_,hz,rfl⟩
  unfold pyNext
  refine wpAny_bind (wpAny_attempt (wpAny_callSpecial?_slot (name:="__next__") hT PySem.F.slot_zip_next (wpAny_call_entry PySem.F.slot_zip_next hT PySem.F.entry_zip_next (a33 (eg b1 hh i1 l1 n1 us.toArray) (eg b2 hh i2 l2 n2 ws.toArray) ap hz hI hO ⟨h1,g1⟩ ⟨h2,g2⟩ lx ly fun a c h' tk pa pc z' O' t1 t2 T' kp=>wpAny_pure ?_) (PySem.F.args_zip_next_1 _))))
  refine ⟨_,rfl,wpAny_letOwnedTupleGo_zip z' fun h'' z'' sb=>?_⟩
  have fz:s.heap.objs.size≠z:=Nat.ne_of_gt (Heap.lt_size hz)
  have kp':∀ b o,b∉[z,tI,tO,i1,i2]→s.heap.get? b=some o→h''.get? b=some o:=fun b o hb e=>by
   simp only [List.mem_cons,List.not_mem_nil,or_false,not_or] at hb
   exact sb.extBut b o hb.1 (kp b o hb.1 hb.2.2.1 hb.2.2.2.1 hb.2.2.2.2 e)
  obtain ⟨a',ea,ra⟩:=r1.get ex
  obtain ⟨c',ec,rc⟩:=r2.get ey
  have pa':a=a':=by
   have:us.toArray[i]? =some a:=pa
   simp only [List.getElem?_toArray] at this
   rw [ea] at this
   exact (Option.some.inj this).symm
  have pc':c=c':=by
   have:ws.toArray[i]? =some c:=pc
   simp only [List.getElem?_toArray] at this
   rw [ec] at this
   exact (Option.some.inj this).symm
  subst pa' pc'
  have T'':h''.get? s.heap.objs.size=some { cls:=.type "tuple",data:=.seq #[a,c]}:=sb.extBut _ _ fz T'
  have I':=D4 (t':=tk) I hf kp' (vs:=[x,y]) (us:=[a,c]) (.cons ra (.cons rc .nil)) (by rw [sizeLine_eq];show 2≤16777216;decide) ⟨_,T'',rfl,_,rfl⟩
  refine ⟨.ref s.heap.objs.size,_,I',rfl,⟨_,x,y,rfl,I.fresh,fun xs' hx=>by rw [bu I hx q1];exact ex,fun ys' hy=>by rw [bu I hy q2];exact ey,rfl⟩,?_,fun b hb=>?_⟩
  ·have hI':IsPair h' tI (.ref i1) (.ref i2):=kp _ _ ap.b.symm ap.c ap.ne1.2.2.2.symm ap.ne2.2.2.symm hI
   exact ⟨a,c,z'',sb.extBut _ _ ap.b.symm hI',sb.extBut _ _ ap.a.symm O',t1.1.kept fun o e=>sb.extBut _ _ ap.ne1.1 e,t2.1.kept fun o e=>sb.extBut _ _ ap.ne2.1 e⟩
  ·have:b < s.heap.objs.size:=by
    simp only [List.mem_cons,List.not_mem_nil,or_false] at hb
    rcases hb with rfl | rfl | rfl | rfl | rfl
    ·exact Heap.lt_size hz
    ·exact Heap.lt_size hI
    ·exact Heap.lt_size hO
    ·obtain ⟨o,e,_⟩:=h1.ob;exact Heap.lt_size e
    ·obtain ⟨o,e,_⟩:=h2.ob;exact Heap.lt_size e
   rw [jo (Nat.ne_of_lt this)]
   exact (hf b hb).1
 done:=by
  intro X hP hw hK hc i pins s σ H E I hf st hg
  subst hP hw hK
  obtain ⟨p,q,hz,hI,hO,h1,h2⟩:=st
  obtain ⟨xs,ys,q1,q2,le1,le2,hend⟩:=hg
  obtain ⟨us,r1,g1⟩:=Inv.sqB I q1
  obtain ⟨ws,r2,g2⟩:=Inv.sqB I q2
  have hh:X.A.in1.handled=none:=I.ok.hd hc
  have hT:s.TypeIs (.ref z) "zip":=⟨_,hz,rfl⟩
  unfold pyNext
  refine wpAny_bind (wpAny_attempt (wpAny_callSpecial?_slot (name:="__next__") hT PySem.F.slot_zip_next (wpAny_call_entry PySem.F.slot_zip_next hT PySem.F.entry_zip_next (a34 (k:=i) (eg b1 hh i1 l1 n1 us.toArray) (eg b2 hh i2 l2 n2 ws.toArray) ap hz hI hO ⟨h1,g1⟩ ⟨h2,g2⟩ (by simp only [List.size_toArray,← r1.length];exact le1) (by simp only [List.size_toArray,← r2.length];exact le2)
   (by simp only [List.size_toArray,← r1.length,← r2.length];exact hend) fun h' e tk kp he=>?_) (PySem.F.args_zip_next_1 _))))
  obtain ⟨o,eo,co⟩:=he
  refine wpAny_bind (wpAny_isInstance (T:="StopIteration") (b:=true) ⟨o,eo,co⟩ isSubtype_stop (wpAny_pure ⟨rfl,?_⟩))
  exact D3 (t':=tk) I hf fun b o hb e=>by
   simp only [List.mem_cons,List.not_mem_nil,or_false,not_or] at hb
   exact kp b o hb.1 hb.2.2.1 hb.2.2.2.1 hb.2.2.2.2 e
 self:=fun A i s Q E st h=>by
  obtain ⟨p,q,hz,_⟩:=st
  exact wpAny_pyIter_zip hz h
noncomputable def pairD (xs ys:List D):List D:=(xs.zip ys).map fun p=>.tup [p.1,p.2]
theorem G5:∀ (xs ys:List D) (i:Nat),(pairD xs ys)[i]? =match xs[i]?,ys[i]? with
  | some x,some y=>some (.tup [x,y])
  | _,_=>none
 | [],ys,i=>by simp [pairD]
 | x::xs,[],i=>by
  simp only [pairD,List.zip_nil_right,List.map_nil,List.getElem?_nil]
  cases (x::xs)[i]? <;> rfl
 | x::xs,y::ys,0=>rfl
 | x::xs,y::ys,i + 1=>by
  have:=G5 xs ys i
  simpa [pairD] using this
theorem Ah (xs ys:List D):(pairD xs ys).length=min xs.length ys.length:=by simp [pairD]
theorem a35 {K:PySem.W.Frag} {F:Hp} {α:List Addr} {b1 b2:Bool} {l1 l2:Addr} {xs ys:List D} {us vs:List V} (h1:SqB K b1 F l1 us) (r1:Reps K F α xs us) (h2:SqB K b2 F l2 vs) (r2:Reps K F α ys vs):zo K α F (Itz K b1 b2 l1 l2) (pairD xs ys):=by
 intro Z α' F' H' μ' R e i
 have g1:SqB K b1 H' l1 us:=h1.mono (e.fr.trans R.sub)
 have g2:SqB K b2 H' l2 vs:=h2.mono (e.fr.trans R.sub)
 have e1:=r1.length
 have e2:=r2.length
 rw [Ah]
 refine ⟨fun hi=>?_,fun hi=>⟨us,vs,g1,g2,by omega,by omega,by omega⟩⟩
 obtain ⟨u,a1,a2⟩:=r1.get (List.getElem?_eq_getElem (show i < xs.length by omega))
 obtain ⟨v,c1,c2⟩:=r2.get (List.getElem?_eq_getElem (show i < ys.length by omega))
 refine ⟨⟨us,vs,u,v,g1,g2,a1,c1⟩,fun x H2 y=>?_⟩
 obtain ⟨p,x',y',rfl,hp,m1,m2,rfl⟩:=y
 have k1:=m1 us g1
 rw [a1] at k1
 cases k1
 have k2:=m2 vs g2
 rw [c1] at k2
 cases k2
 obtain ⟨R2,s2,p2⟩:=Xx R (j4 (a2.mono e) (j4 (c2.mono e) jy)) hp
 refine ⟨_,_,?_,R2,s2,p2⟩
 rw [G5,List.getElem?_eq_getElem (show i < xs.length by omega),List.getElem?_eq_getElem (show i < ys.length by omega)]
theorem a31 (n l1 l2:Nat) (h1:l1 < n) (h2:l2 < n):Apart (n + 4) (n + 2) (n + 3) n (n + 1) [n,l1] [n + 1,l2]:=by
 have nat:∀ {a b:Nat},a≠b→ @Ne Addr a b:=fun h=>h
 constructor
 ·exact nat (by omega)
 ·exact nat (by omega)
 ·exact nat (by omega)
 all_goals first
  | exact List.mem_cons_self
  | (refine List.not_mem_cons_of_ne_of_not_mem (nat (by omega)) (List.not_mem_cons_of_ne_of_not_mem (nat (by omega)) List.not_mem_nil))
theorem C4 {n l:Nat} (h:l < n):@Ne Addr l (n + 1):=fun e=>by
 have e':l=n + 1:=e
 omega
noncomputable def Ce (b:Bool) (d:D):Option (List D):=match b,d with
 | true,.tup xs=>some xs
 | false,.lst xs=>some xs
 | _,_=>none
noncomputable def ff (b1 b2:Bool) (ma mb:MX):MIt:=fun ρ μ=>(ma ρ μ).bind fun x μ1=>(mb ρ μ1).bind fun y μ2=>ofO μ2 ((Ce b1 x).bind fun xs=>(Ce b2 y).map fun ys=>pairD xs ys)
theorem Dd {K:PySem.W.Frag} {F:Hp} {α:List Addr} {b:Bool} {d:D} {v:V} {xs:List D} (h:Ce b d=some xs) (r:Rep K F α d v):∃ a vs,v=.ref a∧SqB K b F a vs∧Reps K F α xs vs:=by
 cases b <;> cases d <;> first | (cases h;done) | skip
 ·cases h
  unfold Rep at r
  exact r
 ·cases h
  unfold Rep at r
  exact r
section
variable {X:Cx} {EX:EXT} {a b:Expr} {pos p tpos:Pos} {ma mb:MX} {elts:List Expr} {x1:Nat}
theorem aa7 (b1 b2:Bool) (hg:Gl X "zip") (hm:X.mg "zip"=none) (ha:ME X EX a ma) (hb:ME X EX b mb) (hs:starEach [a,b] X.env=[(false,eval a X.env),(false,eval b X.env)]:=by rfl) (hs2:starEach [b] X.env=[(false,eval b X.env)]:=by rfl) :
  MI X EX (.Tuple elts x1 tpos) (.Call (.Name "zip" p) [a,b] [] pos) (ff b1 b2 ma mb):=by
 obtain ⟨t,pt,st,lt⟩:=ma_cons ha (ma_cons hb ma_nil hs2) (by rw [hs,hs2])
 refine ⟨fun σ H R=>∀ pins s,Inv X pins σ H s→wpAny (model X.prog X.w) X.A (eval (.Call (.Name "zip" p) [a,b] [] pos) X.env) (fun v s1=>wpAny (model X.prog X.w) X.A (pyIter v) (PIE X pins σ (.Tuple elts x1 tpos) R) X.xe s1) X.xe s,fun pins s σ H R I h=>h pins s I,fun Z α F H σ ρ μ Rr R g pins s I=>?_⟩
 have hw:t σ H fun vs H1=>∃ x y α1 F1 μ1 xs ys,RH X.K Z α1 F1 H1 μ1∧Ext α F α1 F1∧Reps X.K F1 α1 [x,y] vs∧Ce b1 x=some xs∧Ce b2 y=some ys∧(∀ J α' F' H',RH X.K Z α' F' H' μ1→Ext α F α' F'→zo X.K α' F' J (pairD xs ys)→Rr J H'):=by
  refine st Z α F H σ ρ μ _ R ?_
  unfold ff at g
  unfold mCons
  cases h1:ma ρ μ with
  | exc x μ1=>rw [h1] at g;exact g
  | bad=>rw [h1] at g;exact g
  | ok x μ1 =>
   rw [h1] at g
   simp only [bind_ok] at g ⊢
   cases h2:mb ρ μ1 with
   | exc x μ1=>rw [h2] at g;exact g
   | bad=>rw [h2] at g;exact g
   | ok y μ2 =>
    rw [h2] at g
    simp only [bind_ok,mNil] at g ⊢
    intro vs α1 F1 H1 R1 e1 r1
    cases q1:Ce b1 x with
    | none=>rw [q1] at g;exact g.elim
    | some xs =>
     cases q2:Ce b2 y with
     | none=>rw [q1,q2] at g;exact g.elim
     | some ys =>
      rw [q1,q2] at g
      exact ⟨x,y,α1,F1,μ2,xs,ys,R1,e1,r1,q1,q2,g⟩
 refine Call_ (qo I hg hm PyProof.Rows.boot_zip (PyProof.Rows.callWith_type1 (thn (pt pos pins s σ H _ I hw) fun us s1 ⟨vs,H1,I1,rr,q⟩=>?_) (by rw [hs,hs2]) (by rw [hs2];rfl)))
 obtain ⟨x,y,α1,F1,μ1,xs,ys,R1,e1,r1,q1,q2,fin⟩:=q
 obtain ⟨v,u,rfl,p1,p2⟩:=r1.two
 obtain ⟨u1,u2,rfl,rv,ru⟩:=b7 rr
 obtain ⟨l1,v1,rfl,g1,h1⟩:=Dd q1 p1
 obtain ⟨l2,v2,rfl,g2,h2⟩:=Dd q2 p2
 cases rv
 cases ru
 obtain ⟨w1,k1,z1⟩:=Inv.sqB I1 (g1.mono R1.sub)
 obtain ⟨w2,k2,z2⟩:=Inv.sqB I1 (g2.mono R1.sub)
 refine callType_new PySem.F.called_zip (by decide) (PySem.F.typeCall_zip_2 _ _) (PySem.F.newCall_zip_2 _ _) (fun obj=>PySem.F.args_object_init_3 obj _ _) PySem.F.entry_zip_new (A8 b1 b2 l1 l2 w1.toArray w2.toArray) ⟨z1,z2,?_⟩
 have n1:(zp1 s1.heap b1 l1).objs.size=s1.heap.objs.size + 1:=Heap.size_push ..
 have n2:(zp2 s1.heap b1 b2 l1 l2).objs.size=s1.heap.objs.size + 2:=by rw [Heap.size_push,n1]
 have n3:(zp3 s1.heap b1 b2 l1 l2).objs.size=s1.heap.objs.size + 3:=by rw [Heap.size_push,n2]
 have n4:(zp4 s1.heap b1 b2 l1 l2).objs.size=s1.heap.objs.size + 4:=by rw [Heap.size_push,n3]
 have kp:∀ c o,s1.heap.get? c=some o→(zp5 s1.heap b1 b2 l1 l2).get? c=some o:=fun c o e=>Heap.get?_push_of_some _ (Heap.get?_push_of_some _ (Heap.get?_push_of_some _ (Heap.get?_push_of_some _ (Heap.get?_push_of_some _ e))))
 have c5:(zp5 s1.heap b1 b2 l1 l2).get? (zp4 s1.heap b1 b2 l1 l2).objs.size=some _:=Heap.get?_push_size _ rfl
 have c4:(zp5 s1.heap b1 b2 l1 l2).get? (zp3 s1.heap b1 b2 l1 l2).objs.size=some _:=Heap.get?_push_of_some _ (Heap.get?_push_size _ rfl)
 have c3:(zp5 s1.heap b1 b2 l1 l2).get? (zp2 s1.heap b1 b2 l1 l2).objs.size=some _:=Heap.get?_push_of_some _ (Heap.get?_push_of_some _ (Heap.get?_push_size _ rfl))
 have t2:ItH b2 (zp5 s1.heap b1 b2 l1 l2) (zp1 s1.heap b1 l1).objs.size l2 0:=(Gw (h:=zp1 s1.heap b1 l1)).kept fun o e=>Heap.get?_push_of_some _ (Heap.get?_push_of_some _ (Heap.get?_push_of_some _ e))
 have t1:ItH b1 (zp5 s1.heap b1 b2 l1 l2) s1.heap.objs.size l1 0:=(Gw (h:=s1.heap)).kept fun o e=>Heap.get?_push_of_some _ (Heap.get?_push_of_some _ (Heap.get?_push_of_some _ (Heap.get?_push_of_some _ e)))
 rw [n1] at t2 c3
 rw [n2] at c3
 rw [n3] at c4
 rw [n2,n3,n4] at c5
 have a1:=z1.lt
 have a2:=z2.lt
 show _∧_
 rw [n4]
 refine ⟨⟨_,c5,rfl⟩,?_⟩
 refine wpAny_pyIter_zip (s:={ s1 with heap:=zp5 s1.heap b1 b2 l1 l2}) c5 ?_
 have ap:=a31 s1.heap.objs.size l1 l2 a1 a2
 have I5:Inv X pins σ H1 { s1 with heap:=zp5 s1.heap b1 b2 l1 l2}:=I1.kept (t':=s1.toks) kp
 refine ⟨s1.heap.objs.size + 4,_,_,Itz X.K b1 b2 l1 l2,H1,rfl,I5,a43 ap (Nat.ne_of_lt a1) (C4 a2),⟨_,_,c5,c3,c4,t1,t2⟩,fun b hb=>?_,fin _ α1 F1 H1 R1 e1 (a35 g1 h1 g2 h2)⟩
 have hb':s1.heap.objs.size≤b:=by
  simp only [List.mem_cons,List.not_mem_nil,or_false] at hb
  rcases hb with rfl | rfl | rfl | rfl | rfl
  ·exact Nat.le_add_right _ _
  ·exact Nat.le_add_right _ _
  ·exact Nat.le_add_right _ _
  ·exact Nat.le_refl _
  ·exact Nat.le_add_right _ _
 exact I1.fpOk hb' (I1.hok.fresh hb')
end
end M
set_option Elab.async false
set_option linter.all false
set_option maxRecDepth 100000
set_option maxHeartbeats 4000000
namespace M
open PySem PySem.Spec PyProof.Rows L2
noncomputable abbrev MGs:=List D→En→Option En
noncomputable def Wl:MGs:=fun ds ρ=>match ds with
 | []=>some ρ
 | _=>none
noncomputable def Us (g:MG) (gs:MGs):MGs:=fun ds ρ=>match ds with
 | d::r=>(g d ρ).bind (gs r)
 | []=>none
noncomputable def Wk (gs:MGs):MG:=fun d ρ=>match d with
 | .tup ds=>gs ds ρ
 | _=>none
noncomputable def aq6 (X:Cx) (es:List Expr) (n:Nat) (mg:MGs):Prop:=∃ g:TGs,PGs X es g∧(∀ ds ρ ρ',mg ds ρ=some ρ'→ds.length=n)∧∀ Z α F H σ ρ μ vs ds ρ' Q,RS X.K Z α F H σ ρ μ→Reps X.K F α ds vs→mg ds ρ=some ρ'→(∀ σ',RS X.K Z α F H σ' ρ' μ→Q σ' H)→g vs σ H Q
section
variable {X:Cx} {EX:EXT} {e a b c:Expr} {pos:Pos} {m ma mb mc:MX} {es:List Expr}
theorem vw:aq6 X [] 0 Wl:=by
 refine ⟨aP7,aj5,fun ds ρ ρ' h=>?_,fun Z α F H σ ρ μ vs ds ρ' Q R r h k=>?_⟩
 ·cases ds with
  | nil=>rfl
  | cons _ _=>cases h
 ·cases ds with
  | nil =>
   have:=r.length
   cases vs with
   | nil=>cases h;exact ⟨rfl,k σ R⟩
   | cons _ _=>simp at this
  | cons _ _=>cases h
theorem mts_cons {n:Nat} {g:MG} {gs:MGs} (h1:MTg X e g) (h2:aq6 X es n gs) (hs:(assignEach (e::es) X.env).map (·.2)=assign e X.env::(assignEach es X.env).map (·.2):=by rfl):aq6 X (e::es) (n + 1) (Us g gs):=by
 obtain ⟨t,p,s⟩:=h1
 obtain ⟨ts,ps,hn,ss⟩:=h2
 refine ⟨_,a74 p ps hs,fun ds ρ ρ' h=>?_,fun Z α F H σ ρ μ vs ds ρ' Q R r h k=>?_⟩
 ·cases ds with
  | nil=>cases h
  | cons d r =>
   simp only [Us,Option.bind_eq_some_iff] at h
   obtain ⟨ρ1,_,h2⟩:=h
   simp [hn _ _ _ h2]
 ·cases ds with
  | nil=>cases h
  | cons d dr =>
   simp only [Us,Option.bind_eq_some_iff] at h
   obtain ⟨ρ1,h1,h2⟩:=h
   unfold Reps at r
   obtain ⟨v,vr,rfl,r1,r2⟩:=r
   exact ⟨v,vr,rfl,s Z α F H σ ρ μ v d ρ1 _ R r1 h1 fun σ' R'=>ss Z α F H σ' ρ1 μ vr dr ρ' Q R' r2 h2 k⟩
theorem mt_tup {x1 n:Nat} {gs:MGs} (hc:X.calm=true) (h:aq6 X es n gs) (hn:(assignEach es X.env).length=n:=by rfl) (hst:(assignEach es X.env).findIdx? (·.1)=none:=by rfl):MTg X (.Tuple es x1 pos) (Wk gs):=by
 obtain ⟨ts,ps,hl,ss⟩:=h
 refine ⟨_,ay7 hc ps hn hst,fun Z α F H σ ρ μ v d ρ' Q R r h k=>?_⟩
 cases d with
 | tup ds =>
  unfold Rep at r
  obtain ⟨p,vs,rfl,hs,hr⟩:=r
  exact ⟨p,vs,rfl,J9.tup R.hp.sub hs,by rw [← hr.length];exact hl _ _ _ h,ss Z α F H σ ρ μ vs ds ρ' Q R hr h k⟩
 | _=>cases h
noncomputable abbrev MOp:=En→Mu→Res (Option Int)
noncomputable def ab5:MOp:=fun _ μ=>.ok none μ
noncomputable def Qj (m:MX):MOp:=fun ρ μ=>(m ρ μ).bind fun d μ1=>match d with
 | .int i=>.ok (some i) μ1
 | _=>.bad
noncomputable def GO (K:PySem.W.Frag) (EX:EXT) (Z:ZS) (α:List Addr) (F:Hp) (Q:Option Int→Hp→Prop):Res (Option Int)→Prop
 | .ok o μ=>∀ α' F' H',RH K Z α' F' H' μ→Ext α F α' F'→Q o H'
 | .exc x μ=>EX.P Z x μ
 | .bad=>False
theorem GO.step {K:PySem.W.Frag} {Z:ZS} {α:List Addr} {F:Hp} {r:Res (Option Int)} {β:Type} {f:Option Int→Mu→Res β} {G:Res β→Prop} {Q:Option Int→Hp→Prop} (h:G (r.bind f)) (hx:∀ x μ,G (.exc x μ)→EX.P Z x μ) (hb:¬ G .bad)
  (hk:∀ d μ' α' F' H',RH K Z α' F' H' μ'→Ext α F α' F'→G (f d μ')→Q d H'):GO K EX Z α F Q r:=by
 cases r with
 | ok d μ=>exact fun α' F' H' R e=>hk d μ α' F' H' R e h
 | exc x μ=>exact hx _ _ h
 | bad=>exact hb h
noncomputable def MPt (X:Cx) (EX:EXT) (o:Option Expr) (mo:MOp):Prop:=∃ t:TO,PO X o t∧∀ Z α F H σ ρ μ Q,RS X.K Z α F H σ ρ μ→GO X.K EX Z α F Q (mo ρ μ)→t σ H Q
theorem am4:MPt X EX none ab5:=⟨_,aj2,fun Z α F H σ ρ μ Q R g=>g α F H R.hp (Ext.refl _ _)⟩
theorem fj (h:ME X EX e m):MPt X EX (some e) (Qj m):=by
 obtain ⟨t,p,s⟩:=h
 refine ⟨_,aj1 p,fun Z α F H σ ρ μ Q R g=>?_⟩
 refine s Z α F H σ ρ μ _ R (GE.step (G:=GO X.K EX Z α F Q) g (fun _ _ h=>h) (fun h=>h) fun d μ1 v α1 F1 H1 R1 e1 p1 g1=>?_)
 cases d with
 | int i=>unfold Rep at p1;exact ⟨i,p1,g1 α1 F1 H1 R1 e1⟩
 | _=>exact g1.elim
noncomputable def cutD (xs:List D) (lo hi:Option Int):List D:=(xs.drop (HT.sIx xs.length 0 lo)).take (HT.sIx xs.length xs.length hi - HT.sIx xs.length 0 lo)
noncomputable def gSl (d:D) (lo hi:Option Int):Option D:=match d with
 | .tup xs=>if HT.sIx xs.length 0 lo=0∧HT.sIx xs.length xs.length hi=xs.length then none else some (.tup (cutD xs lo hi))
 | .lst xs=>some (.lst (cutD xs lo hi))
 | _=>none
noncomputable def mSl (m:MX) (lo hi:MOp):MX:=fun ρ μ=>(m ρ μ).bind fun d μ1=>(lo ρ μ1).bind fun l μ2=>(hi ρ μ2).bind fun h μ3=>ofO μ3 (gSl (j8 μ3 d) l h)
theorem Eg {K:PySem.W.Frag} {F:Hp} {α:List Addr} {ds:List D} {vs:List V} {lo hi:Option Int} (h:Reps K F α ds vs):Reps K F α (cutD ds lo hi) (Do vs lo hi):=by
 unfold cutD Do
 rw [h.length]
 exact Reps.take _ (Reps.drop _ h)
theorem dm {lo hi:Option Expr} {l h:MOp} {p2:Pos} (ha:ME X EX a ma) (hl:MPt X EX lo l) (hh:MPt X EX hi h):ME X EX (.Subscript a (.Slice lo hi none p2) pos) (mSl ma l h):=by
 obtain ⟨ta,pa,sa⟩:=ha
 obtain ⟨tl,pl,sl⟩:=hl
 obtain ⟨th,ph,sh⟩:=hh
 refine ⟨_,a77 (SlR.or aw7 ag9) pa pl ph,fun Z α F H σ ρ μ Q R g=>?_⟩
 refine sa Z α F H σ ρ μ _ R (GE.step (G:=GE X.K EX Z α F Q) g (fun _ _ h=>h) (fun h=>h) fun d μ1 v α1 F1 H1 R1 e1 p1 g1=>?_)
 refine sl Z α1 F1 H1 σ ρ μ1 _ (R.to R1 e1) (GO.step (G:=GE X.K EX Z α F Q) g1 (fun _ _ h=>h) (fun h=>h) fun l μ2 α2 F2 H2 R2 e2 g2=>?_)
 refine sh Z α2 F2 H2 σ ρ μ2 _ (R.to R2 (e1.trans e2)) (GO.step (G:=GE X.K EX Z α F Q) g2 (fun _ _ h=>h) (fun h=>h) fun h μ3 α3 F3 H3 R3 e3 g3=>?_)
 have p3:=R3.pk ((p1.mono e2).mono e3)
 cases hd:j8 μ3 d with
 | tup xs =>
  rw [hd] at p3 g3
  unfold Pk Rep at p3
  obtain ⟨q,vs,rfl,hs,hr⟩:=p3
  simp only [gSl] at g3
  split at g3
  ·exact g3.elim
  ·rename_i hw
   refine .inl ⟨q,vs,rfl,J9.tup R3.sub hs,by rw [← hr.length];exact hw,fun p hp=>?_⟩
   obtain ⟨a1,a2,a3⟩:=Xx R3 (Eg (lo:=l) (hi:=h) hr) hp
   exact g3 _ _ _ _ a1 (e1.trans (e2.trans (e3.trans ⟨a2,fun _ _ h=>h⟩))) a3
 | lst xs =>
  rw [hd] at p3 g3
  obtain ⟨q,vs,rfl,hs,hr⟩:=p3
  refine .inr ⟨q,vs,rfl,hs,fun p hp=>?_⟩
  obtain ⟨a1,a2,a3⟩:=Q7 R3 (Eg (lo:=l) (hi:=h) hr) hp
  exact g3 _ _ _ _ a1 (e1.trans (e2.trans (e3.trans ⟨a2,fun _ _ h=>h⟩))) a3
 | _=>rw [hd] at g3;exact g3.elim
noncomputable def gListC:GL:=fun ds=>match ds with
 | [.lst xs]=>some (.lst xs)
 | [.tup xs]=>some (.lst xs)
 | _=>none
noncomputable def Zl:List D→Option (List Bool)
 | []=>some []
 | .bl b::r=>(Zl r).map (b:: ·)
 | _=>none
noncomputable def Co:GL:=fun ds=>match ds with
 | [.lst xs]=>(Zl xs).map fun bs=>.bl (bs.all id)
 | _=>none
noncomputable def ad4:GL:=fun ds=>match ds with
 | [.lst xs]=>(Zl xs).map fun bs=>.bl (bs.any id)
 | _=>none
theorem Vk {K:PySem.W.Frag} {F:Hp} {α:List Addr}:∀ {ds:List D} {vs:List V} {bs:List Bool},Reps K F α ds vs→Zl ds=some bs→vs=bs.map V.bl
 | [],vs,bs,h,e=>by
  cases e
  have:=h.length
  cases vs with
  | nil=>rfl
  | cons _ _=>simp at this
 | d::ds,vs,bs,h,e=>by
  unfold Reps at h
  obtain ⟨v,vr,rfl,h1,h2⟩:=h
  cases d with
  | bl b =>
   simp only [Zl,Option.map_eq_some_iff] at e
   obtain ⟨br,e1,rfl⟩:=e
   unfold Rep at h1
   rw [h1,Vk h2 e1]
   rfl
  | _=>cases e
theorem V8:∀ {bs:List Bool} {us:List Value},J7 (bs.map V.bl) us→us=bs.map Value.bool
 | [],us,h=>by cases h;rfl
 | b::bs,us,h=>by
  cases h with
  | cons r rr =>
   have r:_=Value.bool b:=r
   rw [r,V8 rr]
   rfl
theorem ah6 (bs:List Bool):((List.range bs.length).all fun i=>(bs[i]?).getD true)=bs.all id:=by
 induction bs with
 | nil=>rfl
 | cons b r ih=>rw [List.length_cons,List.range_succ_eq_map,List.all_cons,List.all_map,List.all_cons,← ih];rfl
theorem ah5 (bs:List Bool):((List.range bs.length).any fun i=>(bs[i]?).getD false)=bs.any id:=by
 induction bs with
 | nil=>rfl
 | cons b r ih=>rw [List.length_cons,List.range_succ_eq_map,List.any_cons,List.any_map,List.any_cons,← ih];rfl
theorem Gy {h h':Heap} {o:Obj} (hk:∀ b x,b∉[h.objs.size]→(h.push o).get? b=some x→h'.get? b=some x) (b:Addr) (x:Obj) (e:h.get? b=some x):h'.get? b=some x:=by
 refine hk b x (fun z=>?_) (Heap.get?_push_of_some _ e)
 have z2:=List.mem_singleton.mp z
 have z3:=Heap.lt_size e
 rw [z2] at z3
 exact absurd z3 (Nat.lt_irrefl _)
theorem a26 (hc:X.calm=true):qe X (.builtin "all") (fun xs H Q=>∃ (p:Addr) (bs:List Bool),xs=[.ref p]∧SqL X.K H p (bs.map V.bl)∧Q (.bl (bs.all id)) H):=by
 intro pins s σ H xs us Q I r h
 obtain ⟨p,bs,rfl,hq,q⟩:=h
 obtain ⟨u,rfl,rx⟩:=Ww r
 cases rx
 obtain ⟨its,r',pl,hz⟩:=I.list hq
 obtain rfl:=V8 r'
 have hl:=pl.isList
 have hlt:p < s.heap.objs.size:=by obtain ⟨_,e,_⟩:=hl;exact Heap.lt_size e
 refine call_all_walk (wpAny_pyIter_list hl ⟨_,[_,p],[_],_,_,_,fun i=>(bs[i]?).getD true,rfl,Walks.list (A:=X.A.in1) (I.ok.hd hc) _ p (Nat.ne_of_lt hlt) _,⟨⟨_,Heap.get?_push_size _ rfl,rfl,rfl⟩,hl.push _⟩,?_,?_⟩)
 ·intro i v s' Q' E' hP hQ
  simp only [List.getElem?_toArray,List.getElem?_map,Option.map_eq_some_iff] at hP
  obtain ⟨b,e,rfl⟩:=hP
  simp only [e,Option.getD_some] at hQ
  exact wpAny_truthy_bool hQ
 ·intro h' tk hk
  rw [List.size_toArray,List.length_map,ah6]
  exact ⟨.bl _,H,I.kept (t':=tk) (Gy hk),rfl,q⟩
theorem a25 (hc:X.calm=true):qe X (.builtin "any") (fun xs H Q=>∃ (p:Addr) (bs:List Bool),xs=[.ref p]∧SqL X.K H p (bs.map V.bl)∧Q (.bl (bs.any id)) H):=by
 intro pins s σ H xs us Q I r h
 obtain ⟨p,bs,rfl,hq,q⟩:=h
 obtain ⟨u,rfl,rx⟩:=Ww r
 cases rx
 obtain ⟨its,r',pl,hz⟩:=I.list hq
 obtain rfl:=V8 r'
 have hl:=pl.isList
 have hlt:p < s.heap.objs.size:=by obtain ⟨_,e,_⟩:=hl;exact Heap.lt_size e
 refine call_any_walk (wpAny_pyIter_list hl ⟨_,[_,p],[_],_,_,_,fun i=>(bs[i]?).getD false,rfl,Walks.list (A:=X.A.in1) (I.ok.hd hc) _ p (Nat.ne_of_lt hlt) _,⟨⟨_,Heap.get?_push_size _ rfl,rfl,rfl⟩,hl.push _⟩,?_,?_⟩)
 ·intro i v s' Q' E' hP hQ
  simp only [List.getElem?_toArray,List.getElem?_map,Option.map_eq_some_iff] at hP
  obtain ⟨b,e,rfl⟩:=hP
  simp only [e,Option.getD_some] at hQ
  exact wpAny_truthy_bool hQ
 ·intro h' tk hk
  rw [List.size_toArray,List.length_map,ah5]
  exact ⟨.bl _,H,I.kept (t':=tk) (Gy hk),rfl,q⟩
theorem ae5 (hc:X.calm=true):Xf X (.builtin "all") Co:=by
 refine ⟨_,a26 hc,fun Z α F H μ ds c vs Q R hp hg k=>?_⟩
 match ds,hg with
 | [.lst xs],hg =>
  obtain ⟨v,r,rfl,⟨q,us,rfl,hs,hr⟩,hq⟩:=hp
  have hq:r=[]:=hq
  subst hq
  simp only [Co,Option.map_eq_some_iff] at hg
  obtain ⟨bs,e,rfl⟩:=hg
  exact ⟨q,bs,rfl,by rw [← Vk hr e];exact hs,k _ F H R (J9.refl _) (Yy _)⟩
theorem aG4 (hc:X.calm=true):Xf X (.builtin "any") ad4:=by
 refine ⟨_,a25 hc,fun Z α F H μ ds c vs Q R hp hg k=>?_⟩
 match ds,hg with
 | [.lst xs],hg =>
  obtain ⟨v,r,rfl,⟨q,us,rfl,hs,hr⟩,hq⟩:=hp
  have hq:r=[]:=hq
  subst hq
  simp only [ad4,Option.map_eq_some_iff] at hg
  obtain ⟨bs,e,rfl⟩:=hg
  exact ⟨q,bs,rfl,by rw [← Vk hr e];exact hs,k _ F H R (J9.refl _) (Yy _)⟩
end
end M
set_option Elab.async false
set_option linter.all false
set_option maxRecDepth 100000
set_option maxHeartbeats 4000000
namespace M
open PySem PySem.Spec PyProof.Rows L2
noncomputable def ad0 (a b x:D):Option D:=match a with
 | .dic ks vs=>(Xw b).map fun k=>(J2 ks vs k).getD x
 | _=>none
noncomputable def Bg:D→Bool
 | .dic _ _=>true
 | _=>false
noncomputable def fc (m mk mx:MX):MX:=fun ρ μ=>(m ρ μ).bind fun d μ1=>if Bg (j8 μ1 d)=true then (mk ρ μ1).bind fun k μ2=>(mx ρ μ2).bind fun x μ3=>ofO μ3 (ad0 (j8 μ3 d) k x) else .bad
section
variable {X:Cx} {EX:EXT} {e a b c f:Expr} {pos:Pos} {m ma mb mc:MX} {es:List Expr}
theorem Bm {K:PySem.W.Frag} {α:List Addr} {F:Hp} {d:D} {v:V} {k:DK} (h:Rep K F α d v) (e:Xw d=some k):v=kV (dk k):=by
 cases d with
 | int i=>cases e;unfold Rep at h;exact h
 | str x=>cases e;unfold Rep at h;exact h
 | _=>cases e
theorem ab1 {apos cpos:Pos} (hu:X.A.units + 200 < cLine) (ha:ME X EX a ma) (hb:ME X EX b mb) (hc:ME X EX c mc) (m2:L2.M2 X a "get" apos b c cpos):ME X EX (.Call (.Attribute a "get" apos) [b,c] [] cpos) (fc ma mb mc):=by
 obtain ⟨ta,pa,sa⟩:=ha
 obtain ⟨tb,pb,sb⟩:=hb
 obtain ⟨tc,pc,sc⟩:=hc
 refine ⟨_,a82 (by omega) pa pb pc m2,fun Z α F H σ ρ μ Q R g=>?_⟩
 refine sa Z α F H σ ρ μ _ R (GE.step (G:=GE X.K EX Z α F Q) g (fun _ _ h=>h) (fun h=>h) fun d μ1 v α1 F1 H1 R1 e1 p1 g1=>?_)
 by_cases hd:Bg (j8 μ1 d)=true
 ·rw [if_pos hd] at g1
  have k1:=R1.pk p1
  cases hq:j8 μ1 d with
  | dic ks vs =>
   rw [hq] at k1
   unfold Pk at k1
   obtain ⟨q,us,rfl,hs,hl,hr⟩:=k1
   refine ⟨q,rfl,.inl ⟨_,.inl hs⟩,?_⟩
   refine sb Z α1 F1 H1 σ ρ μ1 _ (R.to R1 e1) (GE.step (G:=GE X.K EX Z α F Q) g1 (fun _ _ h=>h) (fun h=>h) fun k μ2 vk α2 F2 H2 R2 e2 p2 g2=>?_)
   refine sc Z α2 F2 H2 σ ρ μ2 _ (R.to R2 (e1.trans e2)) (GE.step (G:=GE X.K EX Z α F Q) g2 (fun _ _ h=>h) (fun h=>h) fun x μ3 vx α3 F3 H3 R3 e3 p3 g3=>?_)
   have k3:=R3.pk ((p1.mono e2).mono e3)
   cases hq3:j8 μ3 d with
   | dic ks3 ds3 =>
    rw [hq3] at k3 g3
    unfold Pk at k3
    obtain ⟨q3,us3,e3',hs3,hl3,hr3⟩:=k3
    cases e3'
    simp only [ad0] at g3
    cases hk:Xw k with
    | none=>rw [hk] at g3;exact g3.elim
    | some kk =>
     rw [hk] at g3
     have hy:=Bm p2 hk
     subst hy
     refine ⟨_,Zm.k hs3,?_⟩
     have g3:GE X.K EX Z α F Q (.ok ((J2 ks3 ds3 kk).getD x) μ3):=g3
     rcases Z1 (k:=kk) hr3 hl3 with ⟨d',v',h1,h2,h3⟩ | ⟨h1,h2⟩
     ·rw [h1] at g3
      rw [h2]
      exact g3 v' α3 F3 H3 R3 (e1.trans (e2.trans e3)) h3
     ·rw [h1] at g3
      rw [h2]
      exact g3 vx α3 F3 H3 R3 (e1.trans (e2.trans e3)) p3
   | _=>rw [hq3] at g3;exact g3.elim
  | _=>rw [hq] at hd;cases hd
 ·rw [if_neg hd] at g1;exact g1.elim
noncomputable def gz (w:World) (K:PySem.W.Frag) (mg:Str→Option Value) (x:Str) (ks:List DK) (ds:List D):Prop :=
 ∃ p us vs,mg x=some (.ref p)∧(p == sysModules)=false∧(∀ (P:Program) (h:Heap),K.In h→h.DictOf (Jn P w) p us)∧KV ((ks.map dk).zip vs) us∧ks.length=ds.length∧∀ F α,Reps K F α ds vs
variable {x:Str} {ks:List DK} {ds:List D}
theorem dl {p:Pos} (c:gz X.w X.K X.mg x ks ds) (hg:Gl X x) (hb:ME X EX b mb) (hs:aq5 b) (hd:(x == ("__debug__":Str))=false:=by decide):ME X EX (.Subscript (.Name x p) b pos) (mBin U8 (mC (.dic ks ds)) mb):=by
 obtain ⟨q,us,vs,h1,h2,h3,h4,h5,h6⟩:=c
 obtain ⟨tb,pb,sb⟩:=hb
 refine ⟨fun σ H Q=>tb σ H fun y H1=>∃ k v,y=kV k∧z0 ((ks.map dk).zip vs) k=some v∧Q v H1,fun pins s σ H Q I h=>?_,fun Z α F H σ ρ μ Q R g=>?_⟩
 ·refine bx PySem.F.slot_dict_getitem.lookup hs (Q6 I hg h1 (thn (pb pins s σ H _ I h) fun iv s2 ⟨y,H2,I2,ry,k,v,ey,hv,q2⟩=>?_) hd)
  have dd:=h3 X.prog _ I2.kIn
  refine ⟨dd.typeIs,?_⟩
  subst ey
  obtain ⟨w',hw,rw'⟩:=Qp.some_of (v:=v) (o:=valueAt us k) (by rw [← hv];exact h4.val k)
  exact wpAny_getItem_of (qm ry) dd.mapOf hw ⟨v,H2,I2.tok _,rw',q2⟩
 ·refine sb Z α F H σ ρ μ _ R (GE.step (G:=GE X.K EX Z α F Q) (show GE X.K EX Z α F Q ((mb ρ μ).bind fun d μ1=>ofO μ1 (U8 (j8 μ1 (.dic ks ds)) (j8 μ1 d))) from g) (fun _ _ h=>h) (fun h=>h) fun d μ1 v α1 F1 H1 R1 e1 p1 g1=>?_)
  simp only [deref_dic,U8] at g1
  cases hk:Xw (j8 μ1 d) with
  | none=>rw [hk] at g1;exact g1.elim
  | some kk =>
   rw [hk] at g1
   have hy:=F7 (R1.pk p1) hk
   rcases Z1 (k:=kk) (h6 F1 α1) h5 with ⟨d',v',l1,l2,l3⟩ | ⟨l1,l2⟩
   ·have g1:GE X.K EX Z α F Q (ofO μ1 (J2 ks ds kk)):=g1
    rw [l1] at g1
    exact ⟨_,v',hy,l2,g1 v' α1 F1 H1 R1 e1 l3⟩
   ·have g1:GE X.K EX Z α F Q (ofO μ1 (J2 ks ds kk)):=g1
    rw [l1] at g1
    exact g1.elim
noncomputable def aI7 (neg:Bool) (kvs:List (Key×V)) (ta:TE):TE:=fun σ H Q=>ta σ H fun y H1=>∃ k,y=kV k∧Q (.bl (if neg then !(z0 kvs k).isSome else (z0 kvs k).isSome)) H1
theorem ac7 {neg:Bool} {ta:TE} {vs:List V} (h5:ks.length=ds.length) (h6:∀ F α,Reps X.K F α ds vs) (sa:Wy X EX ta ma):Wy X EX (aI7 neg ((ks.map dk).zip vs) ta) (mBin (xt neg) ma (mC (.dic ks ds))):=by
 intro Z α F H σ ρ μ Q R g
 refine sa Z α F H σ ρ μ _ R (GE.step (G:=GE X.K EX Z α F Q) (show GE X.K EX Z α F Q ((ma ρ μ).bind fun d μ1=>ofO μ1 (xt neg (j8 μ1 d) (j8 μ1 (.dic ks ds)))) from g) (fun _ _ h=>h) (fun h=>h) fun d μ1 v α1 F1 H1 R1 e1 p1 g1=>?_)
 simp only [deref_dic,xt] at g1
 cases hk:Xw (j8 μ1 d) with
 | none=>rw [hk] at g1;exact g1.elim
 | some kk =>
  rw [hk] at g1
  have hy:=F7 (R1.pk p1) hk
  refine ⟨_,hy,?_⟩
  have g1:GE X.K EX Z α F Q (.ok (.bl (if neg=true then !(J2 ks ds kk).isSome else (J2 ks ds kk).isSome)) μ1):=g1
  rcases Z1 (k:=kk) (h6 F1 α1) h5 with ⟨d',v',l1,l2,l3⟩ | ⟨l1,l2⟩
  ·rw [l1] at g1
   rw [l2]
   exact g1 _ α1 F1 H1 R1 e1 (Yy _)
  ·rw [l1] at g1
   rw [l2]
   exact g1 _ α1 F1 H1 R1 e1 (Yy _)
theorem ak2 {p:Pos} {ta:TE} {q:Addr} {us:List (Key×Value)} {vs:List V} (h1:X.mg x=some (.ref q)) (h2:(q == sysModules)=false) (h3:∀ (P:Program) (h:Heap),X.K.In h→h.DictOf (Jn P X.w) q us) (h4:KV ((ks.map dk).zip vs) us) (hg:Gl X x) (hd:(x == ("__debug__":Str))=false)
  (pa:PE X a ta):PC X .NotIn a (.Name x p) (aI7 true ((ks.map dk).zip vs) ta):=by
 intro pins s σ H Q I h
 refine thn (pa pins s σ H _ I h) fun iv s1 ⟨y,H1,I1,ry,k,ey,q1⟩=>Q6 I1 hg h1 ?_ hd
 subst ey
 have dd:=h3 X.prog _ I1.kIn
 refine wpAny_notIn_of (qm ry) h2 dd.mapOf ?_
 rw [← (h4.val k).isSome_eq]
 exact ⟨.bl (!(z0 ((ks.map dk).zip vs) k).isSome),H1,I1.tok _,rfl,q1⟩
theorem C5 {p:Pos} (c:gz X.w X.K X.mg x ks ds) (hg:Gl X x) (ha:ME X EX a ma) (hd:(x == ("__debug__":Str))=false:=by decide):MT X EX (.Compare a [.NotIn] [.Name x p] pos) (mTest (mBin (xt true) ma (mC (.dic ks ds)))):=by
 obtain ⟨q,us,vs,h1,h2,h3,h4,h5,h6⟩:=c
 obtain ⟨ta,pa,sa⟩:=ha
 exact ⟨_,f8 (ak2 h1 h2 h3 h4 hg hd pa) rfl,Yn (ac7 h5 h6 sa)⟩
structure Cb (X:Cx) (N G:List Str):Prop where
 hN:X.N=N
 nd:N.Nodup
 vis:∀ x∈N,Vis X.env.scope x∧(x == ("__debug__":Str))=false∧(x == ("__classdict__":Str))=false
 gl:∀ x∈G,Gl X x
 calm:X.calm=true
 un:X.A.units + 200 < cLine
end
section
variable {X:Cx} {EX:EXT} {N G:List Str}
theorem Cb.at (C:Cb X N G) {i:Nat} {x:Str} (h:N[i]? =some x):X.N[i]? =some x:=by rw [C.hN];exact h
theorem Cb.ndX (C:Cb X N G):X.N.Nodup:=by rw [C.hN];exact C.nd
theorem Cb.g (C:Cb X N G) (j:Nat) {x:Str} (h:G[j]? =some x):Gl X x:=C.gl x (mem_at h)
theorem svb (C:Cb X N G) (i:Nat) {x:Str} {pos:Pos} (h:N[i]? =some x):ME X EX (.Name x pos) (mVar i) :=
 aa9 (C.at h) (C.vis x (mem_at h)).1 (C.vis x (mem_at h)).2.1 (C.vis x (mem_at h)).2.2
theorem stb (C:Cb X N G) (i:Nat) {x:Str} {pos:Pos} (h:N[i]? =some x) (hl:X.env.scope.names.lookup x=some .local):MTg X (.Name x pos) (gN i):=Bv C.ndX (C.at h) (.inl hl) (.inr hl)
theorem xz {env:Env} {scope:Scope} {x:Str} {k:NameKind} (hk:k≠.free) (h:scope.names.lookup x=some k):(relabel scope env).names.lookup x=some k:=by
 unfold relabel
 generalize scope.names=l at h
 simp only
 induction l with
 | nil=>cases h
 | cons p r ih =>
  obtain ⟨n,q⟩:=p
  rw [List.lookup_cons] at h
  simp only [List.map_cons]
  by_cases e:(x == n)=true
  ·rw [e] at h
   cases h
   rw [if_neg (by simp [hk]),List.lookup_cons,e]
  ·have e':(x == n)=false:=by simpa using e
   rw [e'] at h
   have:=ih h
   split
   ·rw [List.lookup_cons,e'];exact this
   ·rw [List.lookup_cons,e'];exact this
noncomputable def Kf (sc:Scope) (T caps G:List Str):Bool:=T.all (fun x=>sc.names.lookup x == some .local && !(x == ("__debug__":Str)) && !(x == ("__classdict__":Str))) && caps.all (fun x=>sc.names.lookup x == some .free && !(x == ("__debug__":Str)) && !(x == ("__classdict__":Str))) && G.all fun x=>sc.names.lookup x == some .globalImplicit
noncomputable def Xk (sc out:Scope):Bool:=sc.kind == .function && sc.names.all fun y=>(match y.2 with
 | .cell=>false
 | .local=>sc.names.lookup y.1 == some .local
 | .free=>out.names.lookup y.1 == some .cell || out.names.lookup y.1 == some .free
 | _=>true)
theorem ub {scope:Scope} {env:Env} (h:Xk scope env.scope=true):CompScope scope env:=by
 unfold Xk at h
 rw [Bool.and_eq_true] at h
 have hk:=h.1
 have ha:=List.all_eq_true.mp h.2
 refine ⟨by simpa using hk,fun y hy e=>?_,fun y hy e=>?_,fun y hy e=>?_⟩
 ·have:=ha y hy;rw [e] at this;cases this
 ·have:=ha y hy;rw [e] at this;simpa using this
 ·have:=ha y hy
  rw [e] at this
  simpa [Env.kindOf] using this
noncomputable def au2 (sc:Scope) (N caps:List Str) (ix:List Nat):Bool:=ix.length == caps.length && (caps.zip ix).all fun p=>N[p.2]? == some p.1 && sc.names.lookup p.1 == some .free
theorem Zq {scope:Scope} {T caps:List Str} {ix:List Nat} (hN:X.N=N) (h:au2 scope N caps ix=true):Caps X scope T caps ix:=by
 unfold au2 at h
 rw [Bool.and_eq_true] at h
 refine ⟨by simpa using h.1,fun j x i e1 e2=>?_⟩
 have hm:(x,i)∈caps.zip ix:=by
  refine List.mem_of_getElem? (i:=j) ?_
  rw [List.getElem?_zip_eq_some]
  exact ⟨e1,e2⟩
 have:=List.all_eq_true.mp h.2 (x,i) hm
 simp only [Bool.and_eq_true,beq_iff_eq] at this
 rw [hN]
 exact this
theorem Kh {scope:Scope} {T caps:List Str} {C:Addr} {s:Shared} {H:Hp} {ex:List Addr} (hc:X.calm=true) (hu:X.A.units + 200 < cLine) (nd:(T++caps).Nodup) (h:Kf scope T caps G=true):Cb (Yv X (T++caps) scope C s H ex) (T++caps) G:=by
 unfold Kf at h
 rw [Bool.and_eq_true,Bool.and_eq_true] at h
 refine ⟨rfl,nd,fun x hx=>?_,fun x hx=>?_,hc,hu⟩
 ·rcases List.mem_append.mp hx with hx | hx
  ·have:=List.all_eq_true.mp h.1.1 x hx
   simp only [Bool.and_eq_true,beq_iff_eq,Bool.not_eq_true'] at this
   exact ⟨.inl (xz (by decide) this.1.1),this.1.2,this.2⟩
  ·have:=List.all_eq_true.mp h.1.2 x hx
   simp only [Bool.and_eq_true,beq_iff_eq,Bool.not_eq_true'] at this
   exact ⟨.inr (X5 this.1.1),this.1.2,this.2⟩
 ·have:=List.all_eq_true.mp h.2 x hx
  exact xz (by decide) (by simpa using this)
theorem blk_loc {scope:Scope} {env:Env} {T caps:List Str} (h:Kf scope T caps G=true) {j:Nat} {x:Str} (e:T[j]? =some x):(relabel scope env).names.lookup x=some .local:=by
 unfold Kf at h
 rw [Bool.and_eq_true,Bool.and_eq_true] at h
 have:=List.all_eq_true.mp h.1.1 x (mem_at e)
 simp only [Bool.and_eq_true,beq_iff_eq,Bool.not_eq_true'] at this
 exact xz (by decide) this.1.1
end
end M
set_option Elab.async false
set_option linter.all false
set_option maxRecDepth 100000
set_option maxHeartbeats 4000000
namespace M
open PySem PySem.Spec PyProof.Rows L2
theorem Ju {K:PySem.W.Frag} {p:Addr} {od:Option Addr} {its:Array Value} {n:Nat} {sl:Array (Option Value)} {ds:List D} {vs:List V} {F:Hp} {α:List Addr} (l:K.lookup p=some ⟨.type "tuple",od,.seq its n,sl⟩) (hz:its.size≤16777216) (hv:J7 vs its.toList) (hr:Reps K F α ds vs):Rep K F α (.tup ds) (.ref p):=by
 unfold Rep
 exact ⟨p,vs,rfl,.inr ⟨_,its,n,l,rfl,rfl,by rw [sizeLine_eq];exact hz,hv⟩,hr⟩
noncomputable def aF3 (pr:Params) (x:List Nat×Nat×Addr):DictEntry:=⟨PyData.keyHash pr ⟨x.1.toArray⟩,.str ⟨x.1.toArray⟩ x.2.1,.ref x.2.2⟩
theorem aa8 {w:World} {xs:List (List Nat×Nat×Addr)} {e:DictEntry} (h:e∈xs.map (aF3 w.params)) (P:Program):∃ k,(Jn P w).is k e.key=true∧e.hash=(Jn P w).hash k:=by
 obtain ⟨x,_,rfl⟩:=List.mem_map.mp h
 exact ⟨.inr ⟨x.1.toArray⟩,qm (P:=P) (w:=w) (k:=.inr ⟨x.1.toArray⟩) (u:=.str ⟨x.1.toArray⟩ x.2.1) ⟨x.2.1,rfl⟩,rfl⟩
theorem Vf {w:World} (P:Program):∀ xs:List (List Nat×Nat×Addr),Pairs (Jn P w) (xs.map (aF3 w.params)) (xs.map fun x=>((Sum.inr ⟨x.1.toArray⟩:Key),Value.ref x.2.2))
 | []=>.nil
 | x::xs=>.cons (qm (P:=P) (w:=w) (k:=.inr ⟨x.1.toArray⟩) (u:=.str ⟨x.1.toArray⟩ x.2.1) ⟨x.2.1,rfl⟩) rfl (Vf P xs)
theorem Bn:∀ xs:List (List Nat×Nat×Addr),KV (((xs.map fun x=>(.inr x.1:DK)).map dk).zip (xs.map fun x=>V.ref x.2.2)) (xs.map fun x=>((Sum.inr ⟨x.1.toArray⟩:Key),Value.ref x.2.2))
 | []=>.nil
 | x::xs=>.cons ⟨rfl,rfl⟩ (Bn xs)
theorem ky:∀ {xs:List (List Nat×Nat×Addr)},(xs.map (·.1)).Nodup→((xs.map fun x=>((Sum.inr ⟨x.1.toArray⟩:Key),Value.ref x.2.2)).map (·.1)).Nodup
 | [],_=>List.nodup_nil
 | x::xs,h=>by
  rw [List.map_cons,List.nodup_cons] at h
  rw [List.map_cons,List.map_cons,List.nodup_cons]
  refine ⟨fun z=>h.1 ?_,ky h.2⟩
  rw [List.map_map] at z
  obtain ⟨y,hy,e⟩:=List.mem_map.mp z
  have e2:(⟨y.1.toArray⟩:Str)=⟨x.1.toArray⟩:=Sum.inr.inj e
  have e3:y.1.toArray=x.1.toArray:=by injection e2
  have e4:y.1=x.1:=by simpa using congrArg Array.toList e3
  exact List.mem_map.mpr ⟨y,hy,e4⟩
theorem ae {w:World} {K:PySem.W.Frag} {mg:Str→Option Value} {h:Heap} {x:Str} {p:Addr} {ep:Nat} {ds:List D} (xs:List (List Nat×Nat×Addr)) (KX:K.In h) (G:h.Ns mainGlobals mg)
  (a:PySem.W.nsIn K mainGlobals x=some (some (.ref p))) (l:K.lookup p=some ⟨.type "dict",none,.dict (xs.map (aF3 w.params)).toArray ep,#[]⟩) (hp:(p == sysModules)=false) (nd:(xs.map (·.1)).Nodup)
  (hl:xs.length=ds.length) (hr:∀ F α,Reps K F α ds (xs.map fun x=>V.ref x.2.2)):gz w K mg x (xs.map fun x=>.inr x.1) ds:=by
 refine ⟨p,_,_,PySem.W.mg_of KX G a,hp,fun P h' k'=>?_,Bn xs,by simpa using hl,hr⟩
 exact ⟨_,_,_,k' p _ l,⟨rfl,rfl,rfl⟩,rfl,fun e he=>aa8 (by simpa using he) P,by simpa using Vf P xs,ky nd⟩
end M
set_option Elab.async false
set_option linter.all false
set_option maxRecDepth 100000
set_option maxHeartbeats 4000000
namespace M
open PySem PySem.Spec PyProof.Rows L2
variable {ρ:En} {μ μ1 μ2:Mu} {m ma mb mc:MX} {ms:MAs} {t u:MB} {n a b r:MSt} {d x y z:D} {ds:List D} {k:Bool} {φ:Fn} {g:G2} {o:Out}
theorem v_var (i:Nat) (h:ρ[i]? =some (some d)):mVar i ρ μ=.ok d μ:=by unfold mVar;rw [h]
theorem v_bin (ha:ma ρ μ=.ok x μ1) (hb:mb ρ μ1=.ok y μ2) (hg:g (j8 μ2 x) (j8 μ2 y)=some z):mBin g ma mb ρ μ=.ok z μ2:=by unfold mBin;rw [ha,bind_ok,hb,bind_ok,hg];rfl
theorem v_nil:mNil ρ μ=.ok [] μ:=rfl
theorem v_cons (ha:m ρ μ=.ok d μ1) (hb:ms ρ μ1=.ok ds μ2):mCons m ms ρ μ=.ok (d::ds) μ2:=by rw [W4,ha,bind_ok,Qw,hb,bind_ok,Qx]
theorem v_tup (h:ms ρ μ=.ok ds μ1):ja ms ρ μ=.ok (.tup ds) μ1:=by unfold ja;rw [h];rfl
theorem b8 (h:ms ρ μ=.ok ds μ1):ua ms ρ μ=.ok (.lst ds) μ1:=by unfold ua;rw [h];rfl
theorem v_call (h:ms ρ μ=.ok ds μ1) (hf:φ ds μ1=.ok d μ2):mCall φ ms ρ μ=.ok d μ2:=by unfold mCall;rw [h,bind_ok,hf];rfl
theorem uq {g:GL} (h:ms ρ μ=.ok ds μ1) (hf:g (ds.map (j8 μ1))=some d):jm g ms ρ μ=.ok d μ1:=by unfold jm;rw [h,bind_ok,hf];rfl
theorem ji (h:m ρ μ=.ok (.bl k) μ1):mTest m ρ μ=.ok k μ1:=by unfold mTest;rw [h];rfl
theorem Za (h:m ρ μ=.ok d μ1) (ht:Vv (j8 μ1 d)=some k):mTru m ρ μ=.ok k μ1:=by unfold mTru;rw [h,bind_ok,ht];rfl
theorem v_not (h:t ρ μ=.ok k μ1):mNot t ρ μ=.ok (!k) μ1:=by unfold mNot;rw [h];rfl
theorem v_andT (h:t ρ μ=.ok true μ1):mAnd t u ρ μ=u ρ μ1:=by unfold mAnd;rw [h];rfl
theorem yt (h:t ρ μ=.ok false μ1):mAnd t u ρ μ=.ok false μ1:=by unfold mAnd;rw [h];rfl
theorem v_orT (h:t ρ μ=.ok true μ1):mOr t u ρ μ=.ok true μ1:=by unfold mOr;rw [h];rfl
theorem v_orF (h:t ρ μ=.ok false μ1):mOr t u ρ μ=u ρ μ1:=by unfold mOr;rw [h];rfl
theorem xi (h:ma ρ μ=.ok (.bl true) μ1):Ud ma mb ρ μ=mb ρ μ1:=by unfold Ud;rw [h];rfl
theorem bz (h:ma ρ μ=.ok (.bl false) μ1):Ud ma mb ρ μ=.ok (.bl false) μ1:=by unfold Ud;rw [h];rfl
theorem au7 (h:ma ρ μ=.ok (.bl true) μ1):gn ma mb ρ μ=.ok (.bl true) μ1:=by unfold gn;rw [h];rfl
theorem a39 (h:ma ρ μ=.ok (.bl false) μ1):gn ma mb ρ μ=mb ρ μ1:=by unfold gn;rw [h];rfl
theorem v_ifT (h:t ρ μ=.ok true μ1):mIf t ma mb ρ μ=ma ρ μ1:=by unfold mIf;rw [h];rfl
theorem v_ifF (h:t ρ μ=.ok false μ1):mIf t ma mb ρ μ=mb ρ μ1:=by unfold mIf;rw [h];rfl
theorem v_ret (h:m ρ μ=.ok d μ1):jt m ρ μ=.ok (.rt d) μ1:=by unfold jt;rw [h];rfl
theorem v_set (i:Nat) (h:m ρ μ=.ok d μ1):jz (Js i m) r ρ μ=r (ρ.set i (some d)) μ1:=by unfold jz Js;rw [h];rfl
theorem v_iteT (h:t ρ μ=.ok true μ1):jl t a b ρ μ=a ρ μ1:=by unfold jl;rw [h];rfl
theorem v_iteF (h:t ρ μ=.ok false μ1):jl t a b ρ μ=b ρ μ1:=by unfold jl;rw [h];rfl
theorem v_seqN {ρ1:En} (h:n ρ μ=.ok (.nx ρ1) μ1):jz n r ρ μ=r ρ1 μ1:=by unfold jz;rw [h];rfl
theorem v_seqR (h:n ρ μ=.ok (.rt d) μ1):jz n r ρ μ=.ok (.rt d) μ1:=by unfold jz;rw [h];rfl
theorem v_skip (h:t ρ μ=.ok false μ1):jz (jl t a jx) r ρ μ=r ρ μ1:=v_seqN (v_iteF h)
theorem v_take (h:t ρ μ=.ok true μ1) (hm:m ρ μ1=.ok d μ2):jz (jl t (jt m) b) r ρ μ=.ok (.rt d) μ2:=v_seqR ((v_iteT h).trans (v_ret hm))
theorem jj (j:Nat) (h:n (ds.map some++List.replicate j none) μ=.ok (.rt d) μ1):fnOf j n ds μ=.ok d μ1:=by rw [W3,h];rfl
theorem av2 (i:Nat) {ρ1:En} (h:n (ρ.set i (some d)) μ=.ok (.nx ρ1) μ1):Jl (gN i) n (d::ds) ρ μ=Jl (gN i) n ds ρ1 μ1:=by rw [Z7,h];rfl
theorem av1 (i:Nat) (h:n (ρ.set i (some d)) μ=.ok (.rt x) μ1):Jl (gN i) n (d::ds) ρ μ=.ok (.rt x) μ1:=by rw [Z7,h];rfl
theorem ag1 {k k2:Bool} (h:ma ρ μ=.ok (.bl k) μ) (h2:mb ρ μ=.ok (.bl k2) μ):Ud ma mb ρ μ=.ok (.bl (k && k2)) μ:=by
 cases k
 ·exact bz h
 ·rw [xi h,h2];rfl
theorem au8 {k k2:Bool} (h:ma ρ μ=.ok (.bl k) μ) (h2:mb ρ μ=.ok (.bl k2) μ):gn ma mb ρ μ=.ok (.bl (k || k2)) μ:=by
 cases k
 ·rw [a39 h,h2];rfl
 ·exact au7 h
theorem wz {L:List D} {i:Int} {n:Nat} (h:ms ρ μ=.ok L μ) (hi:m ρ μ=.ok (.int i) μ) (hl:L.length=n) (h0:0 < n):∃ d∈L,mBin gIdx (ua ms) (mBin Jp m (mC (.int n))) ρ μ=.ok d μ:=by
 have h1:mBin Jp m (mC (.int n)) ρ μ=.ok (.int (i % n)) μ:=v_bin hi rfl (Y7 i n (by omega))
 have hk:(i % n).toNat < L.length:=by
  have a1:=Int.emod_nonneg i (b:=(n:Int)) (by omega)
  have a2:=Int.emod_lt_of_pos i (b:=(n:Int)) (by omega)
  omega
 refine ⟨L[(i % n).toNat],List.getElem_mem hk,v_bin (b8 h) h1 ?_⟩
 show atI L (i % n)=_
 rw [Qv (Int.emod_nonneg _ (by omega)),List.getElem?_eq_getElem hk]
end M
set_option Elab.async false
set_option linter.all false
set_option maxRecDepth 100000
set_option maxHeartbeats 4000000
namespace M
open PySem PySem.Spec PyProof.Rows L2
theorem K6 {β:Type} {l:List β} {x y:β} {k:Nat} (h:(l++[x])[k]? =some y):l[k]? =some y∨(k=l.length∧y=x):=by
 by_cases hk:k < l.length
 ·rw [List.getElem?_append_left hk] at h;exact .inl h
 ·rw [List.getElem?_append_right (by omega)] at h
  have:k - l.length=0:=by
   cases e:k - l.length with
   | zero=>rfl
   | succ n=>rw [e] at h;simp at h
  rw [this] at h
  simp at h
  exact .inr ⟨by omega,h.symm⟩
theorem yj (α:List Addr) (F:Hp) (p:Addr):Ext α F (α++[p]) F:=⟨J9.refl F,fun k a h=>by
 have:k < α.length:=by
  by_cases hk:k < α.length
  ·exact hk
  ·rw [List.getElem?_eq_none (by omega)] at h;cases h
 rw [List.getElem?_append_left this];exact h⟩
section
variable {K:PySem.W.Frag} {Z:ZS} {F H:Hp} {α:List Addr} {μ:Mu} {p:Addr} {o o':HO} {c:Cell}
theorem Yu.mono {α':List Addr} {H':Hp} {a:Addr} (h:Yu K α F H a c) (e:Ext α F α' F) (hh:c≠.dead→H' a=H a):Yu K α' F H' a c:=by
 exact h.go e (fun _=>rfl) hh
theorem RH.unholdC (r:RH K (ZS.up Z p o) α F H μ) (hz:Z.z p=none) (hok:Yu K (α++[p]) F (upd H p o') p c):RH K Z (α++[p]) F (upd H p o') (μ++[c]):=by
 have fp:F p=none:=r.zf p o Uo
 have nc:∀ (k:Nat) (a:Addr) (c:Cell),α[k]? =some a→μ[k]? =some c→c≠.dead→a≠p:=fun k a c ha hc hd z=>by
  have:=r.zc k a c ha hc hd
  rw [z,Uo] at this
  cases this
 have hlen:=r.len
 have both:∀ (k:Nat) (a:Addr) (c':Cell),(α++[p])[k]? =some a→(μ++[c])[k]? =some c'→(α[k]? =some a∧μ[k]? =some c')∨(k=α.length∧a=p∧c'=c):=fun k a c' ha hc=>by
  rcases K6 ha with h1 | ⟨h1,h2⟩
  ·rcases K6 hc with h3 | ⟨h3,h4⟩
   ·exact .inl ⟨h1,h3⟩
   ·have:k < α.length:=(List.getElem?_eq_some_iff.mp h1).1
    omega
  ·rcases K6 hc with h3 | ⟨h3,h4⟩
   ·have:k < μ.length:=(List.getElem?_eq_some_iff.mp h3).1
    omega
   ·exact .inr ⟨h1,h2,h4⟩
 refine ⟨fun b u e=>?_,by simp [hlen],fun k a c' ha hc=>?_,fun b u e=>?_,fun b u e=>?_,fun k a c' ha hc hd=>?_,fun j k a c1 c2 hj hk cj ck d1 d2=>?_,r.ext.trans (yj α F p)⟩
 ·rw [jo (fun z=>by rw [z,fp] at e;cases e)];exact r.sub b u e
 ·rcases both k a c' ha hc with ⟨h1,h2⟩ | ⟨h1,h2,h3⟩
  ·exact (r.cell k a c' h1 h2).mono (yj α F p) fun hd=>by rw [jo (nc k a c' h1 h2 hd)]
  ·rw [h2,h3];exact hok
 ·have hb:b≠p:=fun z=>by rw [z,hz] at e;cases e
  rw [jo hb]
  exact r.zs b u (by rw [z9 hb];exact e)
 ·have hb:b≠p:=fun z=>by rw [z,hz] at e;cases e
  exact r.zf b u (by rw [z9 hb];exact e)
 ·rcases both k a c' ha hc with ⟨h1,h2⟩ | ⟨h1,h2,h3⟩
  ·have:=r.zc k a c' h1 h2 hd
   rw [z9 (nc k a c' h1 h2 hd)] at this
   exact this
  ·rw [h2];exact hz
 ·rcases both j a c1 hj cj with ⟨h1,h2⟩ | ⟨h1,h2,h3⟩
  ·rcases both k a c2 hk ck with ⟨g1,g2⟩ | ⟨g1,g2,g3⟩
   ·exact r.dis j k a c1 c2 h1 g1 h2 g2 d1 d2
   ·exact absurd g2 (nc j a c1 h1 h2 d1)
  ·rcases both k a c2 hk ck with ⟨g1,g2⟩ | ⟨g1,g2,g3⟩
   ·exact absurd h2 (nc k a c2 g1 g2 d2)
   ·omega
theorem Gg (H:Hp) (p:Addr) (o o':HO):upd (upd H p o) p o'=upd H p o':=by
 funext b
 by_cases hb:b=p
 ·subst hb;rw [J4,J4]
 ·rw [jo hb,jo hb,jo hb]
theorem RH.newCell (r:RH K Z α F H μ) (hp:H p=none) (hok:Yu K (α++[p]) F (upd H p o') p c):RH K Z (α++[p]) F (upd H p o') (μ++[c]):=by
 have hz:Z.z p=none:=by
  cases e:Z.z p with
  | none=>rfl
  | some u=>rw [r.zs _ _ e] at hp;cases hp
 have:=RH.unholdC (o:=o') (o':=o') (r.hold o' hp) hz (by rw [Gg];exact hok)
 rw [Gg] at this
 exact this
theorem ad7 (r:RH K Z α F H μ) (hp:H p=none):F p=none:=by
 cases e:F p with
 | none=>rfl
 | some u=>rw [r.sub _ _ e] at hp;cases hp
theorem am2 {ds:List D} {vs:List V} (r:RH K Z α F H μ) (hr:Reps K F α ds vs) (hp:H p=none) :
  RH K Z (α++[p]) F (upd H p (.lst vs)) (μ++[.lst ds])∧Ext α F (α++[p]) F∧Rep K F (α++[p]) (.ref μ.length) (.ref p):=by
 refine ⟨r.newCell hp ⟨ad7 r hp,vs,J4,hr.mono (yj α F p)⟩,yj α F p,?_⟩
 unfold Rep
 exact ⟨p,by rw [← r.len,List.getElem?_append_right (Nat.le_refl _)];simp,rfl⟩
theorem RH.setCell {k:Nat} {a:Addr} {c0:Cell} (r:RH K Z α F H μ) (ha:α[k]? =some a) (hc:μ[k]? =some c0) (hd:c0≠.dead) (hok:Yu K α F (upd H a o) a c):RH K Z α F (upd H a o) (μ.set k c):=by
 have hF:F a=none:=by
  exact ((r.cell k a c0 ha hc).live hd).1
 have hZ:Z.z a=none:=r.zc k a c0 ha hc hd
 have hk:k < μ.length:=(List.getElem?_eq_some_iff.mp hc).1
 have at':∀ (j:Nat) (c':Cell),(μ.set k c)[j]? =some c'→(j=k∧c'=c)∨(j≠k∧μ[j]? =some c'):=fun j c' h=>by
  by_cases e:j=k
  ·subst e;rw [List.getElem?_set_self hk] at h;exact .inl ⟨rfl,(Option.some.inj h).symm⟩
  ·rw [List.getElem?_set_ne (Ne.symm e)] at h;exact .inr ⟨e,h⟩
 refine ⟨fun b u e=>?_,by simp [r.len],fun j b c' hj hc'=>?_,fun b u e=>?_,r.zf,fun j b c' hj hc' d'=>?_,fun i j b c1 c2 hi hj ci cj d1 d2=>?_,r.ext⟩
 ·rw [jo (fun z=>by rw [z,hF] at e;cases e)];exact r.sub b u e
 ·rcases at' j c' hc' with ⟨e1,e2⟩ | ⟨e1,e2⟩
  ·subst e1;rw [ha] at hj;cases hj;rw [e2];exact hok
  ·refine (r.cell j b c' hj e2).mono (Ext.refl _ _) fun d'=>?_
   rw [jo (fun z=>e1 (r.dis j k a c' c0 (by rw [← z];exact hj) ha e2 hc d' hd))]
 ·rw [jo (fun z=>by rw [z,hZ] at e;cases e)];exact r.zs b u e
 ·rcases at' j c' hc' with ⟨e1,e2⟩ | ⟨e1,e2⟩
  ·subst e1;rw [ha] at hj;cases hj;exact hZ
  ·exact r.zc j b c' hj e2 d'
 ·rcases at' i c1 ci with ⟨e1,e2⟩ | ⟨e1,e2⟩
  ·rcases at' j c2 cj with ⟨g1,g2⟩ | ⟨g1,g2⟩
   ·omega
   ·subst e1
    exact r.dis i j b c0 c2 hi hj hc g2 hd d2
  ·rcases at' j c2 cj with ⟨g1,g2⟩ | ⟨g1,g2⟩
   ·subst g1
    exact r.dis i j b c1 c0 hi hj e2 hc d1 hd
   ·exact r.dis i j b c1 c2 hi hj e2 g2 d1 d2
end
noncomputable def Wp (ms:MAs):MX:=fun ρ μ=>(ms ρ μ).bind fun ds μ1=>.ok (.ref μ1.length) (μ1++[.lst ds])
section
variable {X:Cx} {EX:EXT} {e a b c:Expr} {pos:Pos} {m ma mb mc:MX} {es:List Expr} {ms:MAs}
theorem vq (h:MA X EX es ms) (hl:es.length≤16777216:=by decide):ME X EX (.List es pos) (Wp ms):=by
 obtain ⟨t,p,s,l⟩:=h
 refine ⟨_,cm p,fun Z α F H σ ρ μ Q R g=>?_⟩
 refine s Z α F H σ ρ μ _ R (GA.stepE (G:=GE X.K EX Z α F Q) g (fun _ _ h=>h) (fun h=>h) fun ds μ1 vs α1 F1 H1 hm R1 e1 p1 g1=>?_)
 refine ⟨by rw [← p1.length,sizeLine_eq,l _ _ _ _ hm];exact hl,fun q hq=>?_⟩
 obtain ⟨a1,a2,a3⟩:=am2 R1 p1 hq
 exact g1 _ _ _ _ a1 (e1.trans a2) a3
end
end M
set_option Elab.async false
set_option linter.all false
set_option maxRecDepth 100000
set_option maxHeartbeats 4000000
namespace M
open PySem PySem.Spec PyProof.Rows L2
noncomputable def Wm:D→Bool
 | .lst _=>true
 | _=>false
noncomputable def a30 (d y:D) (μ:Mu):Res D:=match d with
 | .ref k=>match μ[k]? with
  | some (.lst ds)=>if ds.length < 16777216 then .ok .non (μ.set k (.lst (ds++[y]))) else .bad
  | _=>.bad
 | _=>.bad
noncomputable def U6 (mo m:MX):MX:=fun ρ μ=>(mo ρ μ).bind fun d μ1=>if Wm (j8 μ1 d)=true then (m ρ μ1).bind fun y μ2=>a30 d y μ2 else .bad
noncomputable def putVs (ks:List DK) (vs:List D) (q:DK) (v:D):List D:=List.zipWith (fun k w=>if k=q then v else w) ks vs
noncomputable def Eb (ρ:En) (d i v:D) (μ:Mu):Res Out:=match d with
 | .ref k=>match μ[k]?,Xw i with
  | some (.dic ks vs),some q=>if ks.length < 16777216 then (if (ks.any fun k=>decide (k=q))=true then .ok (.nx ρ) (μ.set k (.dic ks (putVs ks vs q v))) else .ok (.nx ρ) (μ.set k (.dic (ks++[q]) (vs++[v])))) else .bad
  | _,_=>.bad
 | _=>.bad
noncomputable def fe (mo mi mv:MX):MSt:=fun ρ μ=>(mv ρ μ).bind fun v μ1=>(mo ρ μ1).bind fun d μ2=>(mi ρ μ2).bind fun i μ3=>Eb ρ d i v μ3
section
variable {X:Cx} {EX:EXT} {e a b c o i:Expr} {pos pos':Pos} {m ma mb mc mo mi mv:MX} {es:List Expr} {ms:MAs}
theorem Cv {K:PySem.W.Frag} {Z:ZS} {F H:Hp} {α:List Addr} {μ:Mu} {k:Nat} {v:V} {ds:List D} (R:RH K Z α F H μ) (p:Rep K F α (.ref k) v) (h:μ[k]? =some (.lst ds)):∃ a vs,v=.ref a∧α[k]? =some a∧H a=some (.lst vs)∧Reps K F α ds vs∧F a=none:=by
 unfold Rep at p
 obtain ⟨a,ha,hv⟩:=p
 obtain ⟨h1,vs,h2,h3⟩:=R.cell k a _ ha h
 exact ⟨a,vs,hv,ha,h2,h3,h1⟩
theorem aF6 {K:PySem.W.Frag} {Z:ZS} {F H:Hp} {α:List Addr} {μ:Mu} {k:Nat} {v:V} {ks:List DK} {ds:List D} (R:RH K Z α F H μ) (p:Rep K F α (.ref k) v) (h:μ[k]? =some (.dic ks ds)):∃ a vs,v=.ref a∧α[k]? =some a∧H a=some (.dK ((ks.map dk).zip vs))∧ks.length=ds.length∧Reps K F α ds vs∧F a=none:=by
 unfold Rep at p
 obtain ⟨a,ha,hv⟩:=p
 obtain ⟨h1,vs,h2,hl,h3⟩:=R.cell k a _ ha h
 exact ⟨a,vs,hv,ha,h2,hl,h3,h1⟩
theorem ya {apos cpos:Pos} (ho:ME X EX o mo) (ha:MA X EX [a] ms) (hm:∀ ρ μ,ms ρ μ=(m ρ μ).bind fun d μ1=>.ok [d] μ1)
  (hbase:attributeBase o "append" X.env (eval o X.env)=eval o X.env:=by rfl)
  (hfew:((backTo cpos (starEach [a] X.env)).all (fun x=> !x.1) && (backToKw cpos (keywordEach [] X.env)).all (fun x=>x.1.isSome)
   && decide ([a].length + ([]:List Keyword).length + (if ([]:List Keyword).isEmpty then 0 else 1) < 30))=true:=by rfl)
  (hline:(apos.endLine == cpos.line)=true:=by rfl) (hs:starEach [a] X.env=(false,eval a X.env)::starEach [] X.env:=by rfl) (hplain:(backTo cpos (starEach [] X.env)).any (·.1)=false:=by rfl) :
  ME X EX (.Call (.Attribute o "append" apos) [a] [] cpos) (U6 mo m):=by
 obtain ⟨to,po,so⟩:=ho
 obtain ⟨ta,pa,sa,_⟩:=ha
 refine ⟨_,as1 PySem.F.plainAttrs_list PySem.F.slot_list_append PySem.F.type_list_append G9 po pa hbase hfew hline hs hplain,fun Z α F H σ ρ μ Q R g=>?_⟩
 refine so Z α F H σ ρ μ _ R (GE.step (G:=GE X.K EX Z α F Q) g (fun _ _ h=>h) (fun h=>h) fun d μ1 v α1 F1 H1 R1 e1 p1 g1=>?_)
 by_cases hd:Wm (j8 μ1 d)=true
 ·rw [if_pos hd] at g1
  refine ⟨?_,?_⟩
  ·have k1:=R1.pk p1
   cases hq:j8 μ1 d with
   | lst xs =>
    rw [hq] at k1
    obtain ⟨q,us,rfl,hsq,hr⟩:=k1
    exact .inl ⟨rfl,us,hsq⟩
   | _=>rw [hq] at hd;cases hd
  ·refine sa Z α1 F1 H1 σ ρ μ1 _ (R.to R1 e1) ?_
   rw [hm]
   cases hy:m ρ μ1 with
   | exc x μ2=>rw [hy] at g1;exact g1
   | bad=>rw [hy] at g1;exact g1
   | ok y μ2 =>
    rw [hy] at g1
    intro vs α2 F2 H2 R2 e2 p2
    unfold Reps at p2
    obtain ⟨vy,r,rfl,p2,hr⟩:=p2
    have hr:r=[]:=hr
    subst hr
    have p1':=p1.mono e2
    have g1:GE X.K EX Z α F Q (a30 d y μ2):=g1
    unfold a30 at g1
    cases d with
    | ref k =>
     simp only at g1
     cases hc:μ2[k]? with
     | none=>rw [hc] at g1;exact g1.elim
     | some cc =>
      rw [hc] at g1
      cases cc with
      | lst ds =>
       simp only at g1
       split at g1
       ·rename_i hl
        obtain ⟨q,us,rfl,hα,hH,hr,hF⟩:=Cv R2 p1' hc
        refine ⟨q,us,vy,rfl,rfl,hH,by rw [← hr.length,sizeLine_eq];exact hl,?_⟩
        exact g1 .non α2 F2 _ (R2.setCell hα hc (by simp) ⟨hF,_,J4,hr.append (j4 p2 jy)⟩) (e1.trans e2) f6
       ·exact g1.elim
      | _=>exact g1.elim
    | _=>exact g1.elim
 ·rw [if_neg hd] at g1;exact g1.elim
theorem G4 {q:DK} {u:V}:∀ (ks:List DK) (us:List V),((ks.map dk).zip us).map (fun kv=>if kv.1=dk q then (kv.1,u) else kv)=(ks.map dk).zip (List.zipWith (fun k w=>if k=q then u else w) ks us)
 | [],us=>rfl
 | k::ks,[]=>rfl
 | k::ks,w::us=>by
  simp only [List.map_cons,List.zip_cons_cons,List.zipWith_cons_cons]
  rw [G4 ks us]
  congr 1
  by_cases e:k=q
  ·subst e;simp
  ·have e2:¬ dk k=dk q:=fun z=>e (E1 z)
   simp [e,e2]
theorem A3 {q:DK}:∀ (ks:List DK) (us:List V),ks.length=us.length→(((ks.map dk).zip us).any fun kv=>decide (kv.1=dk q))=(ks.any fun k=>decide (k=q))
 | [],[],_=>rfl
 | [],_::_,h=>by simp at h
 | k::ks,[],h=>by simp at h
 | k::ks,w::us,h=>by
  simp only [List.map_cons,List.zip_cons_cons,List.any_cons]
  rw [A3 ks us (by simpa using h)]
  congr 1
  by_cases e:k=q
  ·subst e;simp
  ·have e2:¬ dk k=dk q:=fun z=>e (E1 z)
   simp [e,e2]
theorem Eh {K:PySem.W.Frag} {F:Hp} {α:List Addr} {q:DK} {v:D} {u:V} (hv:Rep K F α v u):∀ (ks:List DK) (ds:List D) (us:List V),ks.length=ds.length→Reps K F α ds us→Reps K F α (putVs ks ds q v) (List.zipWith (fun k w=>if k=q then u else w) ks us)
 | [],[],us,_,h=>by have:=h.length;cases us with
   | nil=>exact jy
   | cons _ _=>simp at this
 | [],_::_,_,h,_=>by simp at h
 | k::ks,[],_,h,_=>by simp at h
 | k::ks,d::ds,us,hl,h=>by
  unfold Reps at h
  obtain ⟨w,r,rfl,h1,h2⟩:=h
  have ih:=Eh (q:=q) hv ks ds r (by simpa using hl) h2
  unfold putVs at ih ⊢
  simp only [List.zipWith_cons_cons]
  refine j4 ?_ ih
  by_cases e:k=q
  ·rw [if_pos e,if_pos e];exact hv
  ·rw [if_neg e,if_neg e];exact h1
theorem fk (hu:X.A.units + 200 < cLine) (ho:ME X EX o mo) (hi:ME X EX i mi) (hv:ME X EX e mv) (hs:swapsWith e (some (.Subscript o i pos')) pos.line X.env=pure false:=by rfl):MS X EX (.Assign [.Subscript o i pos'] e pos) (fe mo mi mv):=by
 obtain ⟨to,po,so⟩:=ho
 obtain ⟨ti,pi,si⟩:=hi
 obtain ⟨tv,pv,sv⟩:=hv
 refine ⟨_,ai9 (by omega) po pi pv hs,fun Z α F H σ ρ μ N R g=>?_⟩
 refine sv Z α F H σ ρ μ _ R (GE.step (G:=GS X.K EX Z α F N) g (fun _ _ h=>h) (fun h=>h) fun v μ1 vv α1 F1 H1 R1 e1 p1 g1=>?_)
 refine so Z α1 F1 H1 σ ρ μ1 _ (R.to R1 e1) (GE.step (G:=GS X.K EX Z α F N) g1 (fun _ _ h=>h) (fun h=>h) fun d μ2 vd α2 F2 H2 R2 e2 p2 g2=>?_)
 refine si Z α2 F2 H2 σ ρ μ2 _ (R.to R2 (e1.trans e2)) (GE.step (G:=GS X.K EX Z α F N) g2 (fun _ _ h=>h) (fun h=>h) fun j μ3 vj α3 F3 H3 R3 e3 p3 g3=>?_)
 have p1':=(p1.mono e2).mono e3
 have p2':=p2.mono e3
 have ee:=e1.trans (e2.trans e3)
 unfold Eb at g3
 cases d with
 | ref k =>
  simp only at g3
  cases hc:μ3[k]? with
  | none=>rw [hc] at g3;exact g3.elim
  | some cc =>
   rw [hc] at g3
   cases cc with
   | dic ks ds =>
    cases hk:Xw j with
    | none=>rw [hk] at g3;exact g3.elim
    | some q =>
     rw [hk] at g3
     simp only at g3
     split at g3
     ·rename_i hl
      obtain ⟨a,us,rfl,hα,hH,hlen,hr,hF⟩:=aF6 R3 p2' hc
      have hul:ks.length=us.length:=hlen.trans hr.length
      have hy:=Bm p3 hk
      have hsz:((ks.map dk).zip us).length < sizeLine:=by rw [List.length_zip,List.length_map,← hul,Nat.min_self,sizeLine_eq];exact hl
      refine ⟨a,_,rfl,by rw [hy];exact af9.k hH hsz,?_⟩
      unfold Zw
      rw [A3 ks us hul]
      by_cases hq:(ks.any fun k=>decide (k=q))=true
      ·rw [if_pos hq] at g3 ⊢
       rw [G4]
       have R4:=R3.setCell (o:=.dK ((ks.map dk).zip (List.zipWith (fun k w=>if k=q then vv else w) ks us))) (c:=.dic ks (putVs ks ds q v)) hα hc (by simp) ⟨hF,_,J4,by unfold putVs;rw [List.length_zipWith,hlen,Nat.min_self],Eh p1' ks ds us hlen hr⟩
       exact g3 σ α3 F3 _ (R.to R4 ee) ee
      ·rw [if_neg hq] at g3 ⊢
       have ez:(ks.map dk).zip us++[(dk q,vv)]=((ks++[q]).map dk).zip (us++[vv]):=by
        rw [List.map_append,List.zip_append (by simpa using hul)]
        rfl
       rw [ez]
       have R4:=R3.setCell (o:=.dK (((ks++[q]).map dk).zip (us++[vv]))) (c:=.dic (ks++[q]) (ds++[v])) hα hc (by simp) ⟨hF,_,J4,by simp [hlen],hr.append (j4 p1' jy)⟩
       exact g3 σ α3 F3 _ (R.to R4 ee) ee
     ·exact g3.elim
   | _=>cases hk:Xw j <;> rw [hk] at g3 <;> exact g3.elim
 | _=>exact g3.elim
end
end M
set_option Elab.async false
set_option linter.all false
set_option maxRecDepth 100000
set_option maxHeartbeats 4000000
namespace M
open PySem PySem.Spec PyProof.Rows L2
noncomputable def Ite (K:PySem.W.Frag) (l:Addr):It :=
  ⟨fun i H=>∃ xs x,SqL K H l xs∧xs[i]? =some x,
   fun i H v H'=>∃ p x,v=.ref p∧H p=none∧(∀ xs,SqL K H l xs→xs[i]? =some x)∧H'=upd H p (.tup [.int i,x]),
   fun i H=>∃ xs,SqL K H l xs∧i=xs.length⟩
noncomputable def EnSt (e it l:Addr) (i:Nat) (h:Heap):Prop:=(∃ old,IsEnum h e it i old)∧h.IsListIter it l i
theorem At {P:Program} {w:World} {K:PySem.W.Frag} {elts:List Expr} {x1:Nat} {tpos:Pos} {e it l:Addr} (n1:l≠it) (n2:e≠it) (n3:e≠l) :
  Turn P w K (.Tuple elts x1 tpos) (Ite K l) [e,it] e (EnSt e it l) where
 mem:=by simp
 obj:=fun i h st b hb=>by
  obtain ⟨⟨old,he⟩,o,ho,hc,hd⟩:=st
  simp only [List.mem_cons,List.not_mem_nil,or_false] at hb
  rcases hb with rfl | rfl
  ·exact ⟨_,he,fun v z=>by cases z⟩
  ·exact ⟨o,ho,fun v z=>by rw [hd] at z;cases z⟩
 keep:=fun i h h' st k=>by
  obtain ⟨⟨old,he⟩,o,ho,r⟩:=st
  exact ⟨⟨old,k e (by simp) _ he⟩,o,k it (by simp) _ ho,r⟩
 item:=by
  intro X hP hw hK hc i pins s σ H E I hf st hg
  subst hP hw hK
  obtain ⟨⟨old,he⟩,hi⟩:=st
  obtain ⟨xs,x,q1,ex⟩:=hg
  obtain ⟨us,r1,pl,_⟩:=I.list q1
  have hh:X.A.in1.handled=none:=I.ok.hd hc
  have lx:i < us.toArray.size:=by
   have:=(List.getElem?_eq_some_iff.mp ex).1
   simp only [List.size_toArray,← r1.length];exact this
  refine wpAny_pyNext_enum_itemD (Draws.list hh it l n1 us.toArray) he ⟨hi,pl.isList⟩ lx n2 (by simp [n2,n3]) fun a h' tk pa eo st' T' _ kp=>?_
  refine ⟨_,rfl,wpAny_letOwnedTupleGo_enum eo fun h'' en sb=>?_⟩
  have fz:s.heap.objs.size≠e:=Nat.ne_of_gt (Heap.lt_size he)
  have kp':∀ b o,b∉[e,it]→s.heap.get? b=some o→h''.get? b=some o:=fun b o hb q=>by
   simp only [List.mem_cons,List.not_mem_nil,or_false,not_or] at hb
   exact sb.extBut b o hb.1 (kp b o hb.1 hb.2 q)
  obtain ⟨a',ea,ra⟩:=r1.get ex
  have pa':a=a':=by
   have:us.toArray[i]? =some a:=pa
   simp only [List.getElem?_toArray] at this
   rw [ea] at this
   exact (Option.some.inj this).symm
  subst pa'
  have T'':h''.get? s.heap.objs.size=some { cls:=.type "tuple",data:=.seq #[.int i tk,a]}:=sb.extBut _ _ fz T'
  have I':=D4 (t':=tk + 1) I hf kp' (vs:=[.int i,x]) (us:=[.int i tk,a]) (.cons ⟨tk,rfl⟩ (.cons ra .nil)) (by rw [sizeLine_eq];show 2≤16777216;decide) ⟨_,T'',rfl,_,rfl⟩
  refine ⟨.ref s.heap.objs.size,_,I',rfl,⟨_,x,rfl,I.fresh,fun xs' hx=>by rw [I.list_inj hx q1];exact ex,rfl⟩,⟨⟨a,en⟩,?_⟩,fun b hb=>?_⟩
  ·obtain ⟨o,ho,r⟩:=st'.1
   exact ⟨o,sb.extBut _ _ n2.symm ho,r⟩
  ·have:b < s.heap.objs.size:=by
    simp only [List.mem_cons,List.not_mem_nil,or_false] at hb
    rcases hb with rfl | rfl
    ·exact Heap.lt_size he
    ·obtain ⟨o,ho,_⟩:=hi;exact Heap.lt_size ho
   rw [jo (Nat.ne_of_lt this)]
   exact (hf b hb).1
 done:=by
  intro X hP hw hK hc i pins s σ H E I hf st hg
  subst hP hw hK
  obtain ⟨⟨old,he⟩,hi⟩:=st
  obtain ⟨xs,q1,rfl⟩:=hg
  obtain ⟨us,r1,pl,_⟩:=I.list q1
  have hh:X.A.in1.handled=none:=I.ok.hd hc
  have el:xs.length=us.toArray.size:=by simp only [List.size_toArray];exact r1.length
  refine wpAny_pyNext_enum_endD (Draws.list hh it l n1 us.toArray) he (by rw [← el];exact ⟨hi,pl.isList⟩) fun h' sb=>⟨rfl,?_⟩
  exact D3 (t':=s.toks) I hf fun b o hb q=>by
   simp only [List.mem_cons,List.not_mem_nil,or_false,not_or] at hb
   exact sb b o hb.2 q
 self:=fun A i s Q E st h=>by
  obtain ⟨⟨old,he⟩,_⟩:=st
  exact wpAny_pyIter_enum he h
noncomputable def Y9:Nat→List D→List D
 | _,[]=>[]
 | k,d::ds=>.tup [.int k,d]::Y9 (k + 1) ds
theorem Gu:∀ (k:Nat) (ds:List D) (i:Nat),(Y9 k ds)[i]? =(ds[i]?).map fun d=>.tup [.int ((k + i:Nat):Int),d]
 | k,[],i=>by simp [Y9]
 | k,d::ds,0=>by simp [Y9]
 | k,d::ds,i + 1=>by
  have:=Gu (k + 1) ds i
  simp only [Y9,List.getElem?_cons_succ,this]
  congr 1
  funext z
  rw [show k + 1 + i=k + (i + 1) by omega]
theorem W1:∀ (k:Nat) (ds:List D),(Y9 k ds).length=ds.length
 | _,[]=>rfl
 | k,d::ds=>by simp [Y9,W1 (k + 1) ds]
theorem Az {K:PySem.W.Frag} {F:Hp} {α:List Addr} {l:Addr} {xs:List D} {us:List V} (h1:SqL K F l us) (r1:Reps K F α xs us):zo K α F (Ite K l) (Y9 0 xs):=by
 intro Z α' F' H' μ' R e i
 have g1:SqL K H' l us:=(e.fr.trans R.sub).seq h1
 have e1:=r1.length
 rw [W1]
 refine ⟨fun hi=>?_,fun hi=>⟨us,g1,by omega⟩⟩
 obtain ⟨u,a1,a2⟩:=r1.get (List.getElem?_eq_getElem (show i < xs.length by omega))
 refine ⟨⟨us,u,g1,a1⟩,fun x H2 y=>?_⟩
 obtain ⟨p,x',rfl,hp,m1,rfl⟩:=y
 have k1:=m1 us g1
 rw [a1] at k1
 cases k1
 obtain ⟨R2,s2,p2⟩:=Xx R (j4 (ui (i:Int)) (j4 (a2.mono e) jy)) hp
 refine ⟨_,_,?_,R2,s2,p2⟩
 rw [Gu,List.getElem?_eq_getElem (show i < xs.length by omega)]
 simp
noncomputable def kn (m:MX):MIt:=fun ρ μ=>(m ρ μ).bind fun d μ1=>ofO μ1 ((g0 d).map (Y9 0))
section
variable {X:Cx} {EX:EXT} {a b:Expr} {pos p tpos:Pos} {ma mb:MX} {elts:List Expr} {x1:Nat}
theorem Bt (hg:Gl X "enumerate") (hm:X.mg "enumerate"=none) (ha:ME X EX a ma) (hs:starEach [a] X.env=[(false,eval a X.env)]:=by rfl) :
  MI X EX (.Tuple elts x1 tpos) (.Call (.Name "enumerate" p) [a] [] pos) (kn ma):=by
 obtain ⟨t,pt,st,lt⟩:=ma_cons ha ma_nil (by rw [hs];rfl)
 refine ⟨fun σ H R=>∀ pins s,Inv X pins σ H s→wpAny (model X.prog X.w) X.A (eval (.Call (.Name "enumerate" p) [a] [] pos) X.env) (fun v s1=>wpAny (model X.prog X.w) X.A (pyIter v) (PIE X pins σ (.Tuple elts x1 tpos) R) X.xe s1) X.xe s,fun pins s σ H R I h=>h pins s I,fun Z α F H σ ρ μ Rr R g pins s I=>?_⟩
 have hw:t σ H fun vs H1=>∃ x α1 F1 μ1 xs,RH X.K Z α1 F1 H1 μ1∧Ext α F α1 F1∧Reps X.K F1 α1 [x] vs∧g0 x=some xs∧(∀ J α' F' H',RH X.K Z α' F' H' μ1→Ext α F α' F'→zo X.K α' F' J (Y9 0 xs)→Rr J H'):=by
  refine st Z α F H σ ρ μ _ R ?_
  unfold kn at g
  unfold mCons
  cases h1:ma ρ μ with
  | exc x μ1=>rw [h1] at g;exact g
  | bad=>rw [h1] at g;exact g
  | ok x μ1 =>
   rw [h1] at g
   simp only [bind_ok,mNil] at g ⊢
   intro vs α1 F1 H1 R1 e1 r1
   cases q1:g0 x with
   | none=>rw [q1] at g;exact g.elim
   | some xs =>
    rw [q1] at g
    exact ⟨x,α1,F1,μ1,xs,R1,e1,r1,q1,g⟩
 refine Call_ (qo I hg hm PyProof.Rows.boot_enumerate (PyProof.Rows.callWith_type1 (thn (pt pos pins s σ H _ I hw) fun us s1 ⟨vs,H1,I1,rr,q⟩=>?_) (by rw [hs];rfl) rfl))
 obtain ⟨x,α1,F1,μ1,xs,R1,e1,r1,q1,fin⟩:=q
 unfold Reps at r1
 obtain ⟨v,r,rfl,p1,hr⟩:=r1
 have hr:r=[]:=hr
 subst hr
 obtain ⟨u1,rfl,rv⟩:=Ww rr
 cases x with
 | lst ds =>
  cases q1
  unfold Rep at p1
  obtain ⟨l,v1,rfl,g1,h1⟩:=p1
  cases rv
  obtain ⟨w1,k1,pl,_⟩:=I1.list (R1.sub.seq g1)
  have a1:l < s1.heap.objs.size:=by obtain ⟨o,e,_⟩:=pl.isList;exact Heap.lt_size e
  refine call_enumerate_list pl.isList fun h' en li sz kp=>?_
  refine wpAny_pyIter_enum (s:={ s1 with heap:=h'}) en ?_
  have I5:Inv X pins σ H1 { s1 with heap:=h'}:=I1.kept (t':=s1.toks) kp
  refine ⟨s1.heap.objs.size + 1,_,_,Ite X.K l,H1,rfl,I5,At (Nat.ne_of_lt a1) (Nat.succ_ne_self _) (Nat.ne_of_gt (Nat.lt_succ_of_lt a1)),⟨⟨_,en⟩,li⟩,fun b hb=>?_,fin _ α1 F1 H1 R1 e1 (Az g1 h1)⟩
  have hb':s1.heap.objs.size≤b:=by
   simp only [List.mem_cons,List.not_mem_nil,or_false] at hb
   rcases hb with rfl | rfl
   ·exact Nat.le_add_right _ _
   ·exact Nat.le_refl _
  exact I1.fpOk hb' (I1.hok.fresh hb')
 | _=>cases q1
end
end M
set_option Elab.async false
set_option linter.all false
set_option maxRecDepth 100000
set_option maxHeartbeats 4000000
namespace M
open PySem PySem.Spec PyProof.Rows L2
noncomputable def aN4 (ms:MAs) (mb:MX):MX:=fun ρ μ=>(ms ρ μ).bind fun ds μ1=>(mb ρ μ1).bind fun d μ2=>match d with
 | .int k=>if (-(2 ^ 63)≤k∧k < 2 ^ 63)∧ds.length * k.toNat≤16777216 then .ok (.lst (List.replicate k.toNat ds).flatten) μ2 else .bad
 | _=>.bad
noncomputable def df (ks:List DK) (ms:MAs):MX:=fun ρ μ=>(ms ρ μ).bind fun ds μ1=>.ok (.ref μ1.length) (μ1++[.dic ks ds])
section
variable {X:Cx} {EX:EXT} {e a b c:Expr} {pos pos2:Pos} {m ma mb mc:MX} {es:List Expr} {ms:MAs}
theorem Ei {K:PySem.W.Frag} {F:Hp} {α:List Addr} {ds:List D} {vs:List V} (h:Reps K F α ds vs):∀ k:Nat,Reps K F α (List.replicate k ds).flatten (List.replicate k vs).flatten
 | 0=>jy
 | k + 1=>by
  rw [List.replicate_succ,List.replicate_succ,List.flatten_cons,List.flatten_cons]
  exact h.append (Ei h k)
theorem aC5 (h:MA X EX es ms) (hb:ME X EX b mb) (hl:es.length≤16777216:=by decide):ME X EX (.BinOp (.List es pos2) .Mult b pos) (aN4 ms mb):=by
 obtain ⟨t,p,s,l⟩:=h
 obtain ⟨tb,pb,sb⟩:=hb
 refine ⟨_,as0 aA9 (cm p) pb,fun Z α F H σ ρ μ Q R g=>?_⟩
 refine s Z α F H σ ρ μ _ R (GA.stepE (G:=GE X.K EX Z α F Q) g (fun _ _ h=>h) (fun h=>h) fun ds μ1 vs α1 F1 H1 hm R1 e1 p1 g1=>?_)
 refine ⟨by rw [← p1.length,sizeLine_eq,l _ _ _ _ hm];exact hl,fun q hq=>?_⟩
 obtain ⟨a1,a2,a3⟩:=Q7 R1 p1 hq
 have ex:Ext α F α1 (upd F1 q (.lst vs)):=e1.trans ⟨a2,fun _ _ h=>h⟩
 refine sb Z α1 _ _ σ ρ μ1 _ (R.to a1 ex) (GE.step (G:=GE X.K EX Z α F Q) g1 (fun _ _ h=>h) (fun h=>h) fun d2 μ2 v2 α2 F2 H2 R2 e2 p2 g2=>?_)
 cases d2 with
 | int k =>
  simp only at g2
  split at g2
  ·rename_i hk
   unfold Rep at p2
   refine ⟨q,k,vs,rfl,p2,R2.sub _ _ (e2.fr _ _ J4),hk.1.1,hk.1.2,by rw [← p1.length,sizeLine_eq];exact hk.2,fun p' hp'=>?_⟩
   obtain ⟨b1,b2,b3⟩:=Q7 R2 (Ei ((p1.mono ⟨a2,fun _ _ h=>h⟩).mono e2) k.toNat) hp'
   exact g2 _ _ _ _ b1 (ex.trans (e2.trans ⟨b2,fun _ _ h=>h⟩)) b3
  ·exact g2.elim
 | _=>exact g2.elim
theorem a02 {i:Int} {j:Nat} {p:Pos} {v:Expr} {ks:List (Option Expr)} {vs:List Expr} {kd:List DK} {ms:MAs} (hv:ME X EX v m) (hr:MPs X EX pos ks vs kd ms) :
  MPs X EX pos (some (.Constant (.int i) j p)::ks) (v::vs) (.inl i::kd) (mCons m ms):=by
 obtain ⟨tv,pv,sv⟩:=hv
 obtain ⟨hk,⟨trs,pr,sr⟩,lr⟩:=hr
 refine ⟨by simp [hk],⟨_,Ea a79 pv pr,fun Z α F H σ ρ μ Q R g=>?_⟩,fun ρ μ ds μ' h=>?_⟩
 rotate_left
 ·unfold mCons at h
  cases e1:m ρ μ with
  | ok d μ1 =>
   rw [e1] at h
   simp only [bind_ok] at h
   cases e2:ms ρ μ1 with
   | ok dr μ2 =>
    rw [e2] at h
    simp only [bind_ok] at h
    cases h
    simp [lr _ _ _ _ e2]
   | exc x μ2=>rw [e2] at h;cases h
   | bad=>rw [e2] at h;cases h
  | exc x μ1=>rw [e1] at h;cases h
  | bad=>rw [e1] at h;cases h
 show tv σ H _
 refine sv Z α F H σ ρ μ _ R (GE.step (G:=GA X.K EX Z α F fun vs H'=>Q (((Sum.inl i::kd).map fun k=>kV (dk k)).zip vs) H') g (fun _ _ h=>h) (fun h=>h) fun d μ1 v α1 F1 H1 R1 e1 p1 g1=>?_)
 refine sr Z α1 F1 H1 σ ρ μ1 _ (R.to R1 e1) (GA.step (G:=GA X.K EX Z α F fun vs H'=>Q (((Sum.inl i::kd).map fun k=>kV (dk k)).zip vs) H') g1 (fun _ _ h=>h) (fun h=>h) fun ds μ2 vs α2 F2 H2 R2 e2 p2 g2=>?_)
 exact g2 (v::vs) α2 F2 H2 R2 (e1.trans e2) (j4 (p1.mono e2) p2)
theorem Bs {keys:List (Option Expr)} {values:List Expr} {ks:List DK} {ms:MAs} (h:MPs X EX pos keys values ks ms) (nd:ks.Nodup) (hall:keys.all (·.isSome)=true) (hl:keys.length=values.length) (h0:keys≠[]) (h15:keys.length≤15) :
  ME X EX (.Dict keys values pos) (df ks ms):=by
 obtain ⟨hk,⟨trs,pp,sp⟩,lp⟩:=h
 refine ⟨_,B9 pp hall hl h0 h15,fun Z α F H σ ρ μ Q R g=>?_⟩
 intro p hp
 have hz:Z.z p=none:=by
  cases e:Z.z p with
  | none=>rfl
  | some u=>rw [R.hp.zs _ _ e] at hp;cases hp
 refine sp (ZS.up Z p (.dK [])) α F (upd H p (.dK [])) σ ρ μ _ ⟨R.hp.hold _ hp,R.len,R.sl⟩ (GA.stepE (G:=GE X.K EX Z α F Q) g (fun _ _ h=>EX.mono _ _ _ _ _ hz h) (fun h=>h) fun ds μ1 vs α1 F1 H1 hm R1 e1 p1 g1=>?_)
 have hlen:=lp _ _ _ _ hm
 have hlen2:=p1.length
 refine ⟨R1.zs _ _ Uo,(ks.map dk).zip vs,?_,?_,?_⟩
 ·show (ks.map fun k=>kV (dk k)).zip vs=((ks.map dk).zip vs).map fun kv=>(kV kv.1,kv.2)
  have:(ks.map fun k=>kV (dk k))=(ks.map dk).map kV:=by simp
  rw [this]
  exact V4 kV _ _
 ·rw [List.length_zip,List.length_map];omega
 ·have nd2:(((ks.map dk).zip vs).map (·.1)).Nodup:=by
   rw [List.map_fst_zip (by simp;omega)]
   exact kx nd
  rw [wt _ [] (by simpa using nd2),List.nil_append]
  have R2:=R1.unholdC (o':=.dK ((ks.map dk).zip vs)) (c:=.dic ks ds) hz ⟨R1.zf p _ Uo,vs,J4,by omega,p1.mono (yj _ _ _)⟩
  refine g1 _ _ _ _ R2 (e1.trans (yj _ _ _)) ?_
  unfold Rep
  exact ⟨p,by rw [← R1.len,List.getElem?_append_right (Nat.le_refl _)];simp,rfl⟩
end
end M
set_option Elab.async false
set_option linter.all false
set_option maxRecDepth 100000
set_option maxHeartbeats 4000000
namespace M
open PySem PySem.Spec PyProof.Rows L2
section
variable {Md:Model} {A:Around} {E:Value→Shared→Prop} {s:Shared} {base:Heap} {env:Env} {outer:List Env} {L e:Addr}
end
end M
set_option Elab.async false
set_option linter.all false
set_option maxRecDepth 100000
set_option maxHeartbeats 4000000
namespace M
open PySem PySem.Spec PyProof.Rows L2
section
variable {P:Program} {w:World} {H H0 H':Hp} {h h' h0:Heap} {a T L:Addr} {C:Value} {dx tr tr':Option Addr} {fs:List Addr} {env:Env} {outer:List Env}
end
section
variable {P:Program} {w:World} {K:PySem.W.Frag} {mg:Str→Option Value} {base:Heap} {N:List Str} {qual:Str} {sc:Scope} {f:Addr} {cdv:Value} {A:Around} {outer:List Env} {s:Shared} {H:Hp} {E:XK}
end
end M
set_option Elab.async false
set_option linter.all false
set_option maxRecDepth 100000
set_option maxHeartbeats 4000000
namespace M
open PySem PySem.Spec PyProof.Rows L2
noncomputable abbrev XCs:=Nat→Str×Str
section
variable {P:Program} {w:World} {K:PySem.W.Frag} {mg:Str→Option Value} {base:Heap} {xc:XCs}
end
section
variable {X:Cx} {e a b c:Expr} {pos:Pos} {m ma mb mc:MX} {es rest:List Expr} {ms:MAs} {E:XK} {xc:XCs}
end
end M
set_option Elab.async false
set_option linter.all false
set_option maxRecDepth 100000
set_option maxHeartbeats 4000000
namespace M
open PySem PySem.Spec PyProof.Rows L2
section
variable {prog:Program} {w:World} {A:Around} {E:Value→Shared→Prop} {h:Heap} {g:Array GenState} {d:Drawn} {t:Nat} {os:OsState}
variable {nm q:Str} {C N f:Addr} {bs bm bmB:List Value} {hdct:Bool} {sn:List Str} {sub:List Value} {ab:Bool} {col:Option Bool} {dd:Option Addr} {k0 k1 k2 k3 k5:Option Value} {B newId initId:String}
end
end M
set_option Elab.async false
set_option linter.all false
set_option maxRecDepth 100000
set_option maxHeartbeats 4000000
namespace M
open PySem PySem.Spec PyProof.Rows L2 PySem.Builtin PySem.Builtin.ObjectAttr
section
variable {prog:Program} {w:World} {A:Around} {E:Value→Shared→Prop} {s:Shared} {K:PySem.W.Frag} {x C:Addr} {name:Str} {v:Value}
end
section
variable {prog:Program} {w:World} {A:Around} {E:Value→Shared→Prop} {s:Shared} {K:PySem.W.Frag} {x C f:Addr} {name:Str} {v:Value}
end
end M
set_option Elab.async false
set_option linter.all false
set_option maxRecDepth 100000
set_option maxHeartbeats 4000000
namespace M
open PySem PySem.Spec PyProof.Rows L2
section
variable {X:Cx} {pos p1 p2 p3 p4 p5 p6 p7:Pos} {self at_:Str} {txt:Str} {j:Nat} {D C f:Addr} {nm:Str} {xD:Str}
end
end M
set_option Elab.async false
set_option linter.all false
set_option maxRecDepth 100000
set_option maxHeartbeats 4000000
namespace M
open PySem PySem.Spec PyProof.Rows L2
end M
set_option Elab.async false
set_option linter.all false
set_option maxRecDepth 100000
set_option maxHeartbeats 4000000
namespace M
open PySem PySem.Spec PyProof.Rows L2
section
variable {P:Program} {w:World} {K:PySem.W.Frag} {mg:Str→Option Value} {base:Heap} {N:List Str} {qual:Str} {sc:Scope} {f:Addr} {cdv:Value} {A:Around} {outer:List Env} {s:Shared} {H:Hp} {E:XK}
end
end M
set_option Elab.async false
set_option linter.all false
set_option maxRecDepth 100000
set_option maxHeartbeats 4000000
namespace M
open PySem PySem.Spec PyProof.Rows L2
section
variable {X:Cx} {pins:List (Addr×Obj)} {σ:L2.St} {H:Hp} {s:Shared} {h':Heap} {a:Addr} {C:Value} {dx tr tr':Option Addr} {fs:List Addr}
end
section
variable {X:Cx} {pins:List (Addr×Obj)} {σ:L2.St} {H:Hp} {s:Shared}
end
noncomputable def hand (X:Cx) (a:Addr) (pn:List (Addr×Obj)):Cx:={ X with A:=X.A.mark (some (.ref a)),calm:=false,pn:=pn,xe:=fun _ _=>False}
section
variable {X:Cx} {pins pins':List (Addr×Obj)} {σ:L2.St} {H:Hp} {s:Shared} {xe:Value→Shared→Prop} {a:Addr}
end
end M
set_option Elab.async false
set_option linter.all false
set_option maxRecDepth 100000
set_option maxHeartbeats 4000000
namespace M
open PySem PySem.Spec PyProof.Rows L2
section
variable {X:Cx} {EX:EXT}
end
end M
set_option Elab.async false
set_option linter.all false
set_option maxRecDepth 100000
set_option maxHeartbeats 4000000
namespace M
open PySem PySem.Spec PyProof.Rows L2 PySem.Builtin PySem.Builtin.ObjectAttr
section
variable {prog:Program} {w:World} {A:Around} {E:Value→Shared→Prop} {s:Shared} {K:PySem.W.Frag} {x C:Addr} {name:Str} {v:Value} {ox od:Obj}
end
section
variable {X:Cx} {EX:EXT} {e:Expr} {m:MX} {pos:Pos}
end
end M
set_option Elab.async false
set_option linter.all false
set_option maxRecDepth 100000
set_option maxHeartbeats 4000000
namespace M
open PySem PySem.Spec PyProof.Rows L2
section
variable {X:Cx} {EX:EXT} {N G:List Str}
end
section
variable {P:Program} {w:World} {K:PySem.W.Frag} {mg:Str→Option Value} {base:Heap} {xc:XCs}
noncomputable def aR3 (K:PySem.W.Frag) (mg:Str→Option Value) (x:Str):Prop:=mg x=some (.ref (cA K x))
theorem of_mem {L:List Str} {Q:Str→Prop} (h:∀ x∈L,Q x) (C:Str) (hc:L.contains C=true):Q C:=h C (List.contains_iff_mem.mp hc)
end
noncomputable def ap3:Stmt→List Stmt
 | .ClassDef _ _ _ b .. =>b
 | _=>[]
end M
set_option Elab.async false
set_option linter.all false
set_option maxRecDepth 100000
set_option maxHeartbeats 4000000
namespace M
open PySem PySem.Spec PyProof.Rows L2
theorem ag8 {K:PySem.W.Frag} {φ:Fn} {H:Hp} {a:Addr} {ns:List Int} (hS:SqL K H a (ns.map V.int)) (h:∃ μ,φ [.lst (ns.map .int)] []=.ok (.bl true) μ):spM K 1 φ [.ref a] H (fun v _=>v=.bl true) (fun _ _ _=>False):=by
 obtain ⟨μ,h⟩:=h
 refine ⟨⟨fun _=>none,[],fun _=>none⟩,[],H,[.lst (ns.map .int)],[],⟨J9.refl H,rfl,fun k a c hk=>(by simp at hk),fun b o e=>(by cases e),fun b o e=>(by cases e),fun k a c hk=>(by simp at hk),fun j k a c c' hk=>(by simp at hk),⟨fun b o e=>(by cases e),fun k a hk=>(by simp at hk)⟩⟩,?_,rfl,?_⟩
 ·refine j4 ?_ jy
  unfold Rep
  exact ⟨a,_,rfl,hS,G3 ns⟩
 ·rw [h]
  intro v α' F' H' _ _ r
  unfold Rep at r
  exact r
theorem walk_lawM {l:PySem.W.OpenLaw} {q:Program} {loose:List Str} {XP:(Str→Option Value)→Heap→Prop} {YP:World→Heap→Prop} {d:DefRec} {K:Params→PySem.W.Frag} {k:Nat} {x:Str} {φ:Fn} (hn:l.most=some 63) (hdf:d.params.defaults=[]) (hr:Room k callerA)
  (hY:∀ (w:World) (h:Heap),YP w h→(K w.params).In h)
  (F:∀ (w:World) (mg:Str→Option Value) (fa:Addr) (h:Heap),(K w.params).In h→h.Ns mainGlobals mg→mg d.name=some (.ref fa) →
   ∃ fd:FuncData,qd fd [x]∧∀ base:Heap,FnOk l.prog w (K w.params) mg base CX0 k fa fd [x] (spM (K w.params) 1 φ))
  (hlaw:∀ ns:List Int,ns.length≤63→∃ μ,φ [.lst (ns.map .int)] []=.ok (.bl true) μ) :
  PySem.W.WalkO q loose XP YP l.row.toRowW d [] (fun f vs=>PySem.call f vs) :=
 L2.walk_of (n:=63) (k:=k) (x:=x) (CX:=fun _=>CX0) (sp:=fun w=>spM (K w.params) 1 φ) hn (by decide) hdf hr hY
  (fun w mg fa h hK hG hm=>by
   obtain ⟨fd,hb,hf⟩:=F w mg fa h hK hG hm
   exact ⟨fd,fun s u=>.of_eq (hb [u] rfl),fun base _ _=>hf base⟩)
  (fun w H a ns hl _ hS=>ag8 hS (hlaw ns hl)) fun _ _ _ _ _ z=>z
end M
set_option Elab.async false
set_option linter.all false
set_option maxRecDepth 100000
set_option maxHeartbeats 4000000
namespace M
open PySem PySem.Spec PyProof.Rows L2
section
variable {Md:Model} {A:Around} {E:Value→Shared→Prop} {s:Shared} {base:Heap} {env:Env} {outer:List Env} {L e:Addr}
end
section
variable {X:Cx} {pins:List (Addr×Obj)} {σ:L2.St} {H:Hp} {s:Shared} {h h':Heap} {a:Addr} {C:Value} {dx tr:Option Addr} {fs:List Addr} {P:Program} {w:World}
end
section
variable {X:Cx} {E:XK}
end
section
variable {P:Program} {w:World} {K:PySem.W.Frag} {mg:Str→Option Value} {base:Heap} {N:List Str} {qual:Str} {sc:Scope} {f:Addr} {cdv:Value} {A:Around} {outer:List Env} {s:Shared} {H:Hp} {E:XK}
end
end M
set_option Elab.async false
set_option linter.all false
set_option maxRecDepth 100000
set_option maxHeartbeats 4000000
namespace M
open PySem PySem.Spec PyProof.Rows L2
section
variable {P:Program} {w:World} {K:PySem.W.Frag} {mg:Str→Option Value} {base:Heap} {xc:XCs}
end
noncomputable def Zj (t:MB) (n:MSt):Nat→En→Mu→Res Out
 | 0,_,_=>.bad
 | k + 1,ρ,μ=>(t ρ μ).bind fun b μ1=>if b=true then (n ρ μ1).bind fun o μ2=>match o with
   | .nx ρ2=>Zj t n k ρ2 μ2
   | .ct ρ2=>Zj t n k ρ2 μ2
   | .bk ρ2=>.ok (.nx ρ2) μ2
   | .rt d=>.ok (.rt d) μ2
  else .ok (.nx ρ) μ1
noncomputable def Cw (k:Nat) (t:MB) (n:MSt):MSt:=fun ρ μ=>Zj t n k ρ μ
theorem dw {X:Cx} {EX:EXT} {c:Expr} {body:List Stmt} {t:MB} {n:MSt} {pos:Pos} (k:Nat) (hp:PassesOwn (model X.prog X.w) X.A X.env X.xe) (hc:MT X EX c t) (hb:MSs X EX body n):MS X EX (.While c body [] pos) (Cw k t n):=by
 obtain ⟨tc,pc,sc⟩:=hc
 obtain ⟨tb,pb,sb⟩:=hb
 refine ⟨_,a71 hp pc pb,fun Z α F H σ ρ μ D R g=>?_⟩
 refine ⟨fun m σ H=>∃ α' F' ρ' μ',RS X.K Z α' F' H σ ρ' μ'∧Ext α F α' F'∧GS X.K EX Z α F D (Zj t n m ρ' μ'),⟨k,α,F,ρ,μ,R,Ext.refl _ _,g⟩,?_⟩
 rintro m σ1 H1 ⟨α1,F1,ρ1,μ1,R1,e1,g1⟩
 cases m with
 | zero=>exact g1.elim
 | succ m =>
  refine sc Z α1 F1 H1 σ1 ρ1 μ1 _ R1 (GB.step (G:=GS X.K EX Z α F D) g1 (fun _ _ h=>h) (fun h=>h) fun b μ2 α2 F2 H2 R2 e2 g2=>?_)
  cases b with
  | false =>
   rw [if_neg (by decide)] at g2 ⊢
   exact g2 σ1 α2 F2 H2 (R1.to R2 e2) (e1.trans e2)
  | true =>
   rw [if_pos rfl] at g2 ⊢
   refine ⟨fun σ' H'=>∃ α' F' ρ' μ',RS X.K Z α' F' H' σ' ρ' μ'∧Ext α F α' F'∧GS X.K EX Z α F D (Zj t n m ρ' μ'),fun σ' H' h=>⟨m,Nat.lt_succ_self m,h⟩,?_⟩
   refine sb Z α2 F2 H2 σ1 ρ1 μ2 _ (R1.to R2 e2) ?_
   cases er:n ρ1 μ2 with
   | bad=>rw [er] at g2;exact g2
   | exc x μ3=>rw [er] at g2;exact g2
   | ok o μ3 =>
    rw [er] at g2
    cases o with
    | nx ρ3=>exact fun σ' α' F' H' R' e'=>⟨α',F',ρ3,μ3,R',e1.trans (e2.trans e'),g2⟩
    | ct ρ3=>exact fun σ' α' F' H' R' e'=>⟨α',F',ρ3,μ3,R',e1.trans (e2.trans e'),g2⟩
    | bk ρ3=>exact fun σ' α' F' H' R' e'=>g2 σ' α' F' H' R' (e1.trans (e2.trans e'))
    | rt d=>exact fun v α' F' H' R' e' r'=>g2 v α' F' H' R' (e1.trans (e2.trans e')) r'
end M
set_option Elab.async false
set_option linter.all false
set_option maxRecDepth 100000
set_option maxHeartbeats 4000000
namespace M
open PySem PySem.Spec PyProof.Rows L2
noncomputable def Qs {β:Type} (nm:Str):List Str→List β→Option β
 | n::ns,d::ds=>if n=nm then some d else Qs nm ns ds
 | _,_=>none
noncomputable def putN {β:Type} (nm:Str) (v:β):List Str→List β→List Str×List β
 | n::ns,d::ds=>if n=nm then (n::ns,v::ds) else (n::(putN nm v ns ds).1,d::(putN nm v ns ds).2)
 | _,_=>([nm],[v])
theorem K7 {nm:Str}:∀ (ns:List Str) (vs:List V),(ns.zip vs).lookup nm=Qs nm ns vs
 | [],_=>rfl
 | _::_,[]=>rfl
 | n::ns,v::vs=>by
  show List.lookup nm ((n,v)::ns.zip vs)=_
  rw [List.lookup_cons]
  unfold Qs
  by_cases h:n=nm
  ·subst h;rw [if_pos rfl];simp
  ·rw [if_neg h,show (nm == n)=false from beq_eq_false_iff_ne.mpr fun z=>h z.symm]
   exact K7 ns vs
theorem Ee {nm:Str} {v:V}:∀ (ns:List Str) (vs:List V),ns.length=vs.length→za nm v (ns.zip vs)=(putN nm v ns vs).1.zip (putN nm v ns vs).2
 | [],[],_=>rfl
 | [],_::_,h=>by simp at h
 | _::_,[],h=>by simp at h
 | n::ns,w::vs,h=>by
  show (if n=nm then (n,v)::ns.zip vs else (n,w)::za nm v (ns.zip vs))=_
  unfold putN
  by_cases z:n=nm
  ·rw [if_pos z,if_pos z];rfl
  ·rw [if_neg z,if_neg z,Ee ns vs (by simpa using h)];rfl
theorem K8 {K:PySem.W.Frag} {F:Hp} {α:List Addr} {nm:Str}:∀ {ns:List Str} {ds:List D} {vs:List V} {d:D},Reps K F α ds vs→Qs nm ns ds=some d→∃ v,Qs nm ns vs=some v∧Rep K F α d v
 | [],_,_,_,_,h=>by cases h
 | _::_,[],_,_,_,h=>by cases h
 | n::ns,d::ds,vs,e,r,h=>by
  unfold Reps at r
  obtain ⟨v,vr,rfl,r1,r2⟩:=r
  unfold Qs at h ⊢
  split at h
  ·rename_i z;cases h;exact ⟨v,by rw [if_pos z],r1⟩
  ·rename_i z;rw [if_neg z];exact K8 r2 h
theorem Ed {K:PySem.W.Frag} {F:Hp} {α:List Addr} {nm:Str} {d:D} {v:V} (hd:Rep K F α d v):∀ {ns:List Str} {ds:List D} {vs:List V},ns.length=ds.length→Reps K F α ds vs→(putN nm d ns ds).1=(putN nm v ns vs).1∧Reps K F α (putN nm d ns ds).2 (putN nm v ns vs).2∧(putN nm d ns ds).1.length=(putN nm d ns ds).2.length
 | [],[],vs,_,r=>by
  have:vs=[]:=List.length_eq_zero_iff.mp r.length.symm
  subst this
  exact ⟨rfl,j4 hd jy,rfl⟩
 | [],_::_,_,h,_=>by simp at h
 | _::_,[],_,h,_=>by simp at h
 | n::ns,e::ds,vs,h,r=>by
  unfold Reps at r
  obtain ⟨w,vr,rfl,r1,r2⟩:=r
  unfold putN
  by_cases z:n=nm
  ·rw [if_pos z,if_pos z];exact ⟨rfl,j4 hd r2,by simpa using h⟩
  ·rw [if_neg z,if_neg z]
   obtain ⟨h1,h2,h3⟩:=Ed hd (ns:=ns) (by simpa using h) r2
   exact ⟨by rw [h1],j4 r1 h2,by simp [h3]⟩
noncomputable def wu (ok:Str→Bool) (d:D) (μ:Mu):Option (Nat×Str×List Str×List D):=match d with
 | .ref k=>match μ[k]? with
  | some (.obj c ns ds)=>if ok c=true then some (k,c,ns,ds) else none
  | _=>none
 | _=>none
theorem fo {K:PySem.W.Frag} {Z:ZS} {α:List Addr} {F H:Hp} {μ:Mu} {ok:Str→Bool} {d:D} {v:V} {k:Nat} {c:Str} {ns:List Str} {ds:List D} (R:RH K Z α F H μ) (p:Rep K F α d v) (h:wu ok d μ=some (k,c,ns,ds)) :
  ∃ a dx vs,v=.ref a∧d=.ref k∧ok c=true∧α[k]? =some a∧μ[k]? =some (.obj c ns ds)∧F a=none∧H a=some (.ins (cA K c) dx (ns.zip vs))∧ns.length=ds.length∧Reps K F α ds vs:=by
 cases d with
 | ref j =>
  unfold wu at h
  dsimp only at h
  split at h
  ·rename_i c' ns' ds' hj
   split at h
   ·rename_i hok
    cases h
    unfold Rep at p
    obtain ⟨a,ha,rfl⟩:=p
    obtain ⟨h1,dx,vs,h2,h3,h4⟩:=R.cell k a _ ha hj
    exact ⟨a,dx,vs,rfl,rfl,hok,ha,hj,h1,h2,h3,h4⟩
   ·cases h
  ·cases h
 | _=>cases h
section
variable {X:Cx} {EX:EXT} {o e value:Expr} {m mo mv:MX} {pos pos' tpos:Pos}
noncomputable abbrev aH2 (X:Cx) (ok:Str→Bool) (nm:Str):Prop:=∀ c,ok c=true→Cls X.K (cA X.K c)∧yh X.K (cA X.K c) nm
noncomputable def u8 (ok:Str→Bool) (nm:Str) (m:MX):MX:=fun ρ μ=>(m ρ μ).bind fun d μ1=>ofO μ1 ((wu ok d μ1).bind fun q=>Qs nm q.2.2.1 q.2.2.2)
theorem ux {ok:Str→Bool} {nm:Str} (hC:aH2 X ok nm) (ha:ME X EX e m) (hb:attributeBase e nm X.env (eval e X.env)=eval e X.env:=by rfl):ME X EX (.Attribute e nm pos) (u8 ok nm m):=by
 obtain ⟨t,pt,st⟩:=ha
 refine ⟨_,az2 pt hb,fun Z α F H σ ρ μ Q R g=>?_⟩
 refine st Z α F H σ ρ μ _ R (GE.step (G:=GE X.K EX Z α F Q) g (fun _ _ h=>h) (fun h=>h) fun d μ1 v α1 F1 H1 R1 e1 p1 g1=>?_)
 cases h:wu ok d μ1 with
 | none=>rw [h] at g1;exact g1.elim
 | some q =>
  obtain ⟨k,c,ns,ds⟩:=q
  rw [h] at g1
  obtain ⟨a,dx,vs,rfl,rfl,hk,ha,hc,hF,hH,hl,hr⟩:=fo R1 p1 h
  cases hg:Qs nm ns ds with
  | none=>simp only [Option.bind_some,hg] at g1;exact g1.elim
  | some y =>
   simp only [Option.bind_some,hg] at g1
   obtain ⟨u,hu,ru⟩:=K8 hr hg
   exact ⟨a,_,dx,_,u,rfl,hH,(hC c hk).1,(hC c hk).2,by rw [K7];exact hu,g1 u α1 F1 H1 R1 e1 ru⟩
noncomputable def Em (ok:Str→Bool) (nm:Str) (ρ:En) (d v:D) (μ:Mu):Res Out:=match wu ok d μ with
 | some q=>if q.2.2.1.length < 900 then .ok (.nx ρ) (μ.set q.1 (.obj q.2.1 (putN nm v q.2.2.1 q.2.2.2).1 (putN nm v q.2.2.1 q.2.2.2).2)) else .bad
 | none=>.bad
theorem bq {K:PySem.W.Frag} {Z:ZS} {α:List Addr} {F H:Hp} {μ:Mu} {ok:Str→Bool} {nm:Str} {ρ:En} {d v:D} {x y:V} {G:Res Out→Prop} (hb:¬ G .bad) (R:RH K Z α F H μ) (p:Rep K F α d x) (q:Rep K F α v y) (g:G (Em ok nm ρ d v μ)) :
  ∃ a c dx fs μ',x=.ref a∧ok c=true∧H a=some (.ins (cA K c) dx fs)∧fs.length < 1000∧RH K Z α F (upd H a (.ins (cA K c) dx (za nm y fs))) μ'∧G (.ok (.nx ρ) μ'):=by
 unfold Em at g
 cases h:wu ok d μ with
 | none=>rw [h] at g;exact absurd g hb
 | some w =>
  obtain ⟨k,c,ns,ds⟩:=w
  rw [h] at g
  dsimp only at g
  split at g
  ·rename_i hn
   obtain ⟨a,dx,vs,rfl,rfl,hk,ha,hc,hF,hH,hl,hr⟩:=fo R p h
   obtain ⟨h1,h2,h3⟩:=Ed (nm:=nm) q hl hr
   refine ⟨a,c,dx,_,_,rfl,hk,hH,?_,R.setCell (c:=.obj c (putN nm v ns ds).1 (putN nm v ns ds).2) ha hc (by simp) ⟨hF,dx,(putN nm y ns vs).2,by rw [J4,Ee ns vs (hl.trans hr.length),← h1],h3,h2⟩,g⟩
   rw [List.length_zip]
   omega
  ·exact absurd g hb
noncomputable def yq (ok:Str→Bool) (nm:Str) (mo mv:MX):MSt:=fun ρ μ=>(mv ρ μ).bind fun v μ1=>(mo ρ μ1).bind fun d μ2=>Em ok nm ρ d v μ2
theorem Ub {ok:Str→Bool} {nm:Str} (hC:aH2 X ok nm) (ho:ME X EX o mo) (hv:ME X EX value mv) (hs:swapsWith value (some (.Attribute o nm pos')) pos.line X.env=pure false:=by rfl):MS X EX (.Assign [.Attribute o nm pos'] value pos) (yq ok nm mo mv):=by
 obtain ⟨to,po,so⟩:=ho
 obtain ⟨tv,pv,sv⟩:=hv
 refine ⟨_,ay4 po pv hs,fun Z α F H σ ρ μ N R g=>?_⟩
 refine sv Z α F H σ ρ μ _ R (GE.step (G:=GS X.K EX Z α F N) g (fun _ _ h=>h) (fun h=>h) fun v μ1 y α1 F1 H1 R1 e1 p1 g1=>?_)
 refine so Z α1 F1 H1 σ ρ μ1 _ (R.to R1 e1) (GE.step (G:=GS X.K EX Z α F N) g1 (fun _ _ h=>h) (fun h=>h) fun d μ2 x α2 F2 H2 R2 e2 p2 g2=>?_)
 obtain ⟨a,c,dx,fs,μ',rfl,hk,hH,hl,R3,g3⟩:=bq (G:=GS X.K EX Z α F N) (fun h=>h) R2 p2 (p1.mono e2) g2
 exact ⟨a,_,dx,fs,rfl,hH,(hC c hk).1,(hC c hk).2,hl,g3 σ α2 F2 _ ((R.to R2 (e1.trans e2)).to R3 (Ext.refl _ _)) (e1.trans e2)⟩
noncomputable def aQ8 (a b:D):Option D:=match a,b with
 | .int i,.int j=>some (.int (i + j))
 | _,_=>none
noncomputable def de (ok:Str→Bool) (nm:Str) (mo mv:MX):MSt:=fun ρ μ=>(mo ρ μ).bind fun d μ1=>match (wu ok d μ1).bind fun q=>Qs nm q.2.2.1 q.2.2.2 with
 | some w=>(mv ρ μ1).bind fun y μ2=>match aQ8 w y with
  | some z=>Em ok nm ρ d z μ2
  | none=>.bad
 | none=>.bad
theorem Bu {ok:Str→Bool} {nm:Str} (hC:aH2 X ok nm) (hone:∀ c c',ok c=true→ok c'=true→c=c') (ho:ME X EX o mo) (hv:ME X EX value mv):MS X EX (.AugAssign (.Attribute o nm tpos) .Add value pos) (de ok nm mo mv):=by
 obtain ⟨to,po,so⟩:=ho
 obtain ⟨tv,pv,sv⟩:=hv
 refine ⟨_,An po pv aE5,fun Z α F H σ ρ μ N R g=>?_⟩
 refine so Z α F H σ ρ μ _ R (GE.step (G:=GS X.K EX Z α F N) g (fun _ _ h=>h) (fun h=>h) fun d μ1 x α1 F1 H1 R1 e1 p1 g1=>?_)
 cases h:wu ok d μ1 with
 | none=>rw [h] at g1;exact g1.elim
 | some q =>
  obtain ⟨k,c,ns,ds⟩:=q
  rw [h] at g1
  obtain ⟨a,dx,vs,rfl,rfl,hk,ha,hc,hF,hH,hl,hr⟩:=fo R1 p1 h
  cases hg:Qs nm ns ds with
  | none=>simp only [Option.bind_some,hg] at g1;exact g1.elim
  | some w =>
   simp only [Option.bind_some,hg] at g1
   obtain ⟨u,hu,ru⟩:=K8 hr hg
   refine ⟨a,_,dx,_,u,rfl,hH,(hC c hk).1,(hC c hk).2,by rw [K7];exact hu,?_⟩
   refine sv Z α1 F1 H1 σ ρ μ1 _ (R.to R1 e1) (GE.step (G:=GS X.K EX Z α F N) g1 (fun _ _ h=>h) (fun h=>h) fun y μ2 v α2 F2 H2 R2 e2 p2 g2=>?_)
   cases hz:aQ8 w y with
   | none=>rw [hz] at g2;exact g2.elim
   | some z =>
    rw [hz] at g2
    have g2:GS X.K EX Z α F N (Em ok nm ρ (.ref k) z μ2):=g2
    cases w with
    | int i =>
     cases y with
     | int j =>
      cases hz
      obtain rfl:u=.int i:=ru
      obtain rfl:v=.int j:=p2
      obtain ⟨a',c',dx',fs',μ',ea,hk',hH',hl',R3,g3⟩:=bq (G:=GS X.K EX Z α F N) (y:=.int (i + j)) (fun h=>h) R2 (p1.mono e2) (ui _) g2
      cases ea
      obtain rfl:=hone c c' hk hk'
      exact ⟨i,j,rfl,rfl,dx',fs',hH',hl',g3 σ α2 F2 _ ((R.to R2 (e1.trans e2)).to R3 (Ext.refl _ _)) (e1.trans e2)⟩
     | _=>cases hz
    | _=>cases hz
end
theorem RH.extra {K:PySem.W.Frag} {Z:ZS} {α:List Addr} {F H:Hp} {μ:Mu} {p:Addr} (o:HO) (r:RH K Z α F H μ) (hp:H p=none):RH K Z α F (upd H p o) μ:=by
 refine ⟨fun b u e=>?_,r.len,fun k a c ha hc=>?_,fun b u e=>?_,r.zf,r.zc,r.dis,r.ext⟩
 ·rw [jo (jf (r.sub b u e) hp)];exact r.sub b u e
 ·have h:=r.cell k a c ha hc
  exact h.go (Ext.refl _ _) (fun _=>rfl) fun hd=>let ⟨_,_,z⟩:=h.live hd;jo (jf z hp)
 ·rw [jo (jf (r.zs b u e) hp)];exact r.zs b u e
noncomputable def aa4 (c:Str) (φ:Fn) (ds:List D) (μ:Mu):Res D:=(noX (φ (.ref μ.length::ds) (μ++[.obj c [] []]))).bind fun r μ2=>match r with
 | .non=>.ok (.ref μ.length) μ2
 | _=>.bad
noncomputable def aD0 (c:Str) (φ:Fn) (ms:MAs):MX:=fun ρ μ=>(ms ρ μ).bind (aa4 c φ)
noncomputable def aH0 (P:Program) (w:World) (K:PySem.W.Frag) (mg:Str→Option Value) (base:Heap) (x:Str) (k n:Nat) (φ:Fn):Prop :=
 ∃ f fd ps,mg x=some (.ref (cA K x))∧Mk K (cA K x) f∧qd fd ps∧ps.length=n + 1∧FnOk P w K mg base CX0 k f fd ps (spM K (n + 1) φ)
section
variable {X:Cx} {EX:EXT} {e:Expr} {es:List Expr} {ms:MAs} {p pos:Pos}
theorem aa3 {Z:ZS} {α:List Addr} {F:Hp} {Q:VK} {α1:List Addr} {F1 H1:Hp} {μ1:Mu} {ds:List D} {vs:List V} {c:Str} {φ:Fn} {n:Nat} (R1:RH X.K Z α1 F1 H1 μ1) (e1:Ext α F α1 F1) (r:Reps X.K F1 α1 ds vs) (hl:ds.length=n) (g:GE X.K EX Z α F Q (aa4 c φ ds μ1)) :
  ∀ x dx,H1 x=none→H1 dx=none→dx≠x→spM X.K (n + 1) φ (.ref x::vs) (upd (upd H1 dx (.own x)) x (.ins (cA X.K c) dx [])) (fun v H2=>v=.non∧Q (.ref x) H2) E0:=by
 intro x dx hx hd ne
 have R2:=(R1.extra (.own x) hd).newCell (p:=x) (o':=.ins (cA X.K c) dx []) (c:=.obj c [] []) (by rw [jo (Ne.symm ne)];exact hx) ⟨ad7 R1 hx,dx,[],J4,rfl,jy⟩
 have hrx:Rep X.K F1 (α1++[x]) (.ref μ1.length) (.ref x):=by
  unfold Rep
  exact ⟨x,by rw [← R1.len,List.getElem?_append_right (Nat.le_refl _),Nat.sub_self];rfl,rfl⟩
 refine ⟨Z,α1++[x],F1,.ref μ1.length::ds,μ1++[.obj c [] []],R2,j4 hrx (r.mono (yj _ _ _)),by rw [List.length_cons,hl],?_⟩
 unfold aa4 at g
 cases er:φ (.ref μ1.length::ds) (μ1++[.obj c [] []]) with
 | bad=>rw [er] at g;exact g
 | exc y μ2=>rw [er] at g;exact g.elim
 | ok d μ2 =>
  rw [er] at g
  cases d with
  | non =>
   intro v α' F' H' R' e' r'
   refine ⟨?_,g _ α' F' H' R' (e1.trans ((yj _ _ _).trans e')) (hrx.mono e')⟩
   unfold Rep at r'
   exact r'
  | _=>exact g.elim
theorem am7 {c:Str} {k:Nat} {φ:Fn} (mka:aH0 X.prog X.w X.K X.mg X.base c k 0 φ) (hr:Room (k + 1) X.A) (hg:Gl X c) (hdb:(c == ("__debug__":Str))=false:=by decide):ME X EX (.Call (.Name c p) [] [] pos) (aD0 c φ mNil):=by
 obtain ⟨f,fd,ps,h1,mk,hb,hl,F⟩:=mka
 refine ⟨_,a78 mk F hr hg h1 (.all hb) .nil a86 hdb,fun Z α G H σ ρ μ Q R g=>?_⟩
 intro x dx hx hd ne
 exact aa3 (n:=0) R.hp (Ext.refl _ _) jy rfl g x dx hx hd ne
end
end M
set_option Elab.async false
set_option linter.all false
set_option maxRecDepth 100000
set_option maxHeartbeats 4000000
namespace M
open PySem PySem.Spec PyProof.Rows L2
section
variable {P:Program} {w:World} {K:PySem.W.Frag} {mg:Str→Option Value} {base:Heap}
theorem ad8 {x qual:Str} {st:Stmt} {N ps:List Str} {k j n:Nat} {b:MSt} {f:Addr} {fd:FuncData} (F:Fun K x qual st f fd) (S:FnScope N ps (defScope st)) (hj:N.length - ps.length=j) (hn:ps.length=n)
  (hb:∀ (cdv:Value) (A:Around) (outer:List Env) (s:Shared) (H:Hp) (E:XK),Room k (A.deeper (envOfC qual (defScope st) s.heap.objs.size f cdv)) →
   MSs (Wa CX0 P w K mg base N qual (defScope st) f cdv A outer s H E).nox NoX (defBody st) b):FnOk P w K mg base CX0 (k + 1) f fd ps (spM K n (fnOf j b)):=by
 subst hn
 exact at9 F S hj hb
noncomputable def MkD (K:PySem.W.Frag) (mg:Str→Option Value) (x qual:Str) (st:Stmt) (ps:List Str):Prop:=∃ f fd,mg x=some (.ref (cA K x))∧Mk K (cA K x) f∧Fun K "__init__" qual st f fd∧qd fd ps
theorem am5 {x qual:Str} {st:Stmt} {ps:List Str} {k n:Nat} {φ:Fn} (D:MkD K mg x qual st ps) (hn:ps.length=n + 1) (hb:∀ (f:Addr) (fd:FuncData),Fun K "__init__" qual st f fd→FnOk P w K mg base CX0 k f fd ps (spM K (n + 1) φ)):aH0 P w K mg base x k n φ:=by
 obtain ⟨f,fd,h1,h2,h3,h4⟩:=D
 exact ⟨f,fd,ps,h1,h2,h4,hn,hb f fd h3⟩
end
noncomputable def Bq:MX:=fun _ μ=>.ok (.ref μ.length) (μ++[.dic [] []])
theorem am8 {X:Cx} {EX:EXT} {pos:Pos}:ME X EX (.Dict [] [] pos) Bq:=by
 refine ⟨_,a81,fun Z α F H σ ρ μ Q R g=>?_⟩
 intro p hp
 have R1:=R.hp.newCell (p:=p) (o':=.dK []) (c:=.dic [] []) hp ⟨ad7 R.hp hp,[],J4,rfl,jy⟩
 refine g _ (α++[p]) F _ R1 (yj _ _ _) ?_
 unfold Rep
 exact ⟨p,by rw [← R.hp.len,List.getElem?_append_right (Nat.le_refl _),Nat.sub_self];rfl,rfl⟩
theorem len_0 {β:Type} {us:List β} (h:us.length=0):us=[]:=List.length_eq_zero_iff.mp h
theorem dc {β:Type} {us:List β} {n:Nat} (h:us.length=n + 1):∃ a vs,us=a::vs∧vs.length=n:=by
 cases us with
 | nil=>cases h
 | cons a vs=>exact ⟨a,vs,rfl,Nat.succ.inj h⟩
theorem len_1 {β:Type} {us:List β} (h:us.length=1):∃ a,us=[a]:=by
 obtain ⟨a,vs,rfl,q⟩:=dc h
 cases len_0 q
 exact ⟨a,rfl⟩
theorem len_2 {β:Type} {us:List β} (h:us.length=2):∃ a b,us=[a,b]:=by
 obtain ⟨a,vs,rfl,q⟩:=dc h
 obtain ⟨b,rfl⟩:=len_1 q
 exact ⟨a,b,rfl⟩
theorem len_3 {β:Type} {us:List β} (h:us.length=3):∃ a b c,us=[a,b,c]:=by
 obtain ⟨a,vs,rfl,q⟩:=dc h
 obtain ⟨b,c,rfl⟩:=len_2 q
 exact ⟨a,b,c,rfl⟩
theorem len_4 {β:Type} {us:List β} (h:us.length=4):∃ a b c d,us=[a,b,c,d]:=by
 obtain ⟨a,vs,rfl,q⟩:=dc h
 obtain ⟨b,c,d,rfl⟩:=len_3 q
 exact ⟨a,b,c,d,rfl⟩
theorem len_5 {β:Type} {us:List β} (h:us.length=5):∃ a b c d e,us=[a,b,c,d,e]:=by
 obtain ⟨a,vs,rfl,q⟩:=dc h
 obtain ⟨b,c,d,e,rfl⟩:=len_4 q
 exact ⟨a,b,c,d,e,rfl⟩
end M
set_option Elab.async false
set_option linter.all false
set_option maxRecDepth 100000
set_option maxHeartbeats 4000000
namespace M
open PySem PySem.Spec PyProof.Rows L2
noncomputable def ay5 (d:D) (μ:Mu):Res D:=match d with
 | .ref k=>match μ[k]? with
  | some (.lst ds)=>match ds[ds.length - 1]? with
   | some y=>.ok y (μ.set k (.lst ds.dropLast))
   | none=>.bad
  | _=>.bad
 | _=>.bad
noncomputable def an2 (mo:MX):MX:=fun ρ μ=>(mo ρ μ).bind fun d μ1=>ay5 d μ1
section
variable {X:Cx} {EX:EXT} {o:Expr} {mo:MX}
theorem Reps.dropLast {K:PySem.W.Frag} {F:Hp} {α:List Addr}:∀ {ds:List D} {vs:List V},Reps K F α ds vs→Reps K F α ds.dropLast vs.dropLast
 | [],vs,h=>by
  unfold Reps at h
  rw [h]
  exact jy
 | [d],vs,h=>by
  have:=h.length
  match vs,this with
  | [v],_=>exact jy
 | d::e::ds,vs,h=>by
  unfold Reps at h
  obtain ⟨v,r,rfl,h1,h2⟩:=h
  have hl:=h2.length
  match r,hl,h2 with
  | w::r,_,h2 =>
   rw [List.dropLast_cons₂,List.dropLast_cons₂]
   exact j4 h1 (Reps.dropLast h2)
theorem Reps.at {K:PySem.W.Frag} {F:Hp} {α:List Addr} {y:D}:∀ {ds:List D} {vs:List V} {i:Nat},Reps K F α ds vs→ds[i]? =some y→∃ v,vs[i]? =some v∧Rep K F α y v
 | [],vs,i,h,e=>by simp at e
 | d::ds,vs,0,h,e=>by
  unfold Reps at h
  obtain ⟨v,r,rfl,h1,h2⟩:=h
  have e:d=y:=by simpa using e
  subst e
  exact ⟨v,rfl,h1⟩
 | d::ds,vs,i + 1,h,e=>by
  unfold Reps at h
  obtain ⟨v,r,rfl,h1,h2⟩:=h
  obtain ⟨u,hu,ru⟩:=Reps.at (i:=i) h2 (by simpa using e)
  exact ⟨u,by simpa using hu,ru⟩
theorem aC6 {apos cpos:Pos} (ho:ME X EX o mo)
  (hbase:attributeBase o "pop" X.env (eval o X.env)=eval o X.env:=by rfl)
  (hline:(apos.endLine == cpos.line)=true:=by rfl) :
  ME X EX (.Call (.Attribute o "pop" apos) [] [] cpos) (an2 mo):=by
 obtain ⟨to,po,so⟩:=ho
 refine ⟨_,az4 PySem.F.plainAttrs_list PySem.F.slot_list_pop PySem.F.type_list_pop aC1 po hbase hline,fun Z α F H σ ρ μ Q R g=>?_⟩
 refine so Z α F H σ ρ μ _ R (GE.step (G:=GE X.K EX Z α F Q) g (fun _ _ h=>h) (fun h=>h) fun d μ1 v α1 F1 H1 R1 e1 p1 g1=>?_)
 unfold ay5 at g1
 cases d with
 | ref k =>
  simp only at g1
  cases hc:μ1[k]? with
  | none=>rw [hc] at g1;exact g1.elim
  | some cc =>
   rw [hc] at g1
   cases cc with
   | lst ds =>
    simp only at g1
    cases hy:ds[ds.length - 1]? with
    | none=>rw [hy] at g1;exact g1.elim
    | some y =>
     rw [hy] at g1
     obtain ⟨q,us,rfl,hα,hH,hr,hF⟩:=Cv R1 p1 hc
     obtain ⟨u,hu,ru⟩:=Reps.at hr hy
     refine ⟨.inl ⟨rfl,us,.inl (.inl hH)⟩,q,us,u,rfl,rfl,hH,by rw [← hr.length];exact hu,?_⟩
     exact g1 u α1 F1 _ (R1.setCell hα hc (by simp) ⟨hF,_,J4,Reps.dropLast hr⟩) e1 ru
   | _=>exact g1.elim
 | _=>exact g1.elim
noncomputable def wd:List D→Option (List Int)
 | []=>some []
 | .int b::r=>(wd r).map (b:: ·)
 | _=>none
noncomputable def aE7:GL:=fun ds=>match ds with
 | [.lst xs]=>(wd xs).map fun bs=>.int bs.sum
 | _=>none
theorem B3 {K:PySem.W.Frag} {F:Hp} {α:List Addr}:∀ {ds:List D} {vs:List V} {bs:List Int},Reps K F α ds vs→wd ds=some bs→vs=bs.map V.int
 | [],vs,bs,h,e=>by
  cases e
  unfold Reps at h
  exact h
 | d::ds,vs,bs,h,e=>by
  unfold Reps at h
  obtain ⟨v,vr,rfl,h1,h2⟩:=h
  cases d with
  | int b =>
   simp only [wd,Option.map_eq_some_iff] at e
   obtain ⟨br,e1,rfl⟩:=e
   unfold Rep at h1
   rw [h1,B3 h2 e1]
   rfl
  | _=>cases e
theorem b6:∀ {bs:List Int} {us:List Value},J7 (bs.map V.int) us→∃ xs:List (Int×Tok),us.toArray=intItems xs.toArray∧xs.map (·.1)=bs
 | [],us,h=>by cases h;exact ⟨[],by simp [intItems],rfl⟩
 | b::bs,us,h=>by
  cases h with
  | cons r rr =>
   obtain ⟨t,r⟩:=r
   obtain ⟨xs,e1,e2⟩:=b6 rr
   refine ⟨(b,t)::xs,?_,by rw [List.map_cons,e2]⟩
   rw [r]
   unfold intItems at e1 ⊢
   rw [List.map_toArray] at e1 ⊢
   rw [List.map_cons]
   have e3:=congrArg Array.toList e1
   simp only [List.toList_toArray] at e3
   rw [e3]
theorem a21 (hc:X.calm=true):qe X (.builtin "sum") (fun xs H Q=>∃ (p:Addr) (bs:List Int),xs=[.ref p]∧SqL X.K H p (bs.map V.int)∧Q (.int bs.sum) H):=by
 intro pins s σ H xs us Q I r h
 obtain ⟨p,bs,rfl,hq,q⟩:=h
 obtain ⟨u,rfl,rx⟩:=Ww r
 cases rx
 obtain ⟨its,r',pl,hz⟩:=I.list hq
 obtain ⟨xs,e1,e2⟩:=b6 r'
 have hl:=pl.isList
 rw [e1] at hl
 refine sum_intListG (I.ok.hd hc) hl fun h' tk t' hk=>?_
 have e3:preSum (numAt xs.toArray) xs.toArray.size=bs.sum:=by
  rw [preSum_eq,List.take_of_length_le (by simp),← e2]
 rw [e3]
 exact ⟨.int _,H,I.kept (t':=tk) hk,⟨_,rfl⟩,q⟩
theorem aG1 (hc:X.calm=true):Xf X (.builtin "sum") aE7:=by
 refine ⟨_,a21 hc,fun Z α F H μ ds c vs Q R hp hg k=>?_⟩
 match ds,hg with
 | [.lst xs],hg =>
  obtain ⟨v,r,rfl,⟨q,us,rfl,hs,hr⟩,hq⟩:=hp
  have hq:r=[]:=hq
  subst hq
  simp only [aE7,Option.map_eq_some_iff] at hg
  obtain ⟨bs,e,rfl⟩:=hg
  exact ⟨q,bs,rfl,by rw [← B3 hr e];exact hs,k _ F H R (J9.refl _) (ui _)⟩
end
end M
set_option Elab.async false
set_option linter.all false
set_option maxRecDepth 100000
set_option maxHeartbeats 4000000
namespace M
open PySem PySem.Spec PyProof.Rows L2
theorem Xt {P:Program} {w:World} {K:PySem.W.Frag} {mg:Str→Option Value} {base:Heap} {x:Str} {st:Stmt} {ps:List Str} {k n:Nat} (D:J5 K mg x st ps) (hn:ps.length=n):Jo P w K mg base x k n (fun _ _=>.bad):=by
 refine az D hn fun f fd F=>⟨fun vs H Q E h=>?_,fun A outer s H args us vs Q E _ _ _ _ h=>?_⟩
 ·obtain ⟨Z,α,F,ds,μ,R,r,hl,g⟩:=h
  rw [← r.length,hl,hn]
 ·obtain ⟨Z,α,F,ds,μ,R,r,hl,g⟩:=h
  exact g.elim
theorem a03 {l b:Addr} {xs ys:Array Value} {n m:Nat} {sl:Array (Option Value)} (h0:xs.size + ys.size≤sizeLine) :
  Meets (Builtin.«list.extend» ⟨[.ref l,.ref b],[]⟩) (fun _ R s=>s.heap.get? l=some { cls:=.type "list",dict:=none,data:=.seq xs n,slots:=#[]}∧s.heap.get? b=some { cls:=.type "list",dict:=none,data:=.seq ys m,slots:=sl} ∧
   R (.ok (.ret Value.none)) { s with heap:=s.heap.update l (Obj.mapSeq fun x=>x++ys),toks:=s.toks}) :=
 .of_wp fun prog w A R s h=>by
  have hn:¬ (!xs.isEmpty && Builtin.List.listTooLong (xs.size + ys.size))=true:=by rw [d8 h0,Bool.and_false];exact Bool.false_ne_true
  obtain ⟨hp,g,d,tk,os⟩:=s
  obtain ⟨hl,hb,h⟩:=h
  have f1:=AutoSeq1.idx_int
  have f2:=AutoSeq1.sub_tuple_tuple
  have f3:=AutoSeq1.sub_list_list
  have f4:=AutoSeq1.sub_tuple_list
  have f5:=AutoSeq1.sub_list_tuple
  have h1:xs.size≤sizeLine:=by omega
  have h2:(xs++ys).size≤sizeLine + 1:=by rw [Array.size_append];omega
  wp_walk using (wpAny_updateSeq hl rfl (hz:=h1) (_hz':=h2)),AutoSeq1.wpAny_loadPart' hl,AutoSeq1.wpAny_loadPart' hb
  exact ⟨_,rfl,h⟩
section
variable {X:Cx} {EX:EXT} {o a:Expr} {mo m:MX} {ms:MAs}
noncomputable def rExt (K:PySem.W.Frag):V→List V→Hp→VK→Prop:=fun x vs H Q=>∃ l b xs zs,x=.ref l∧vs=[.ref b]∧H l=some (.lst xs)∧SqL K H b zs∧xs.length + zs.length≤sizeLine∧Q .non (upd H l (.lst (xs++zs)))
theorem aC2:MtM X "list.extend" (rExt X.K):=by
 intro pins s σ H x vs v us Q I rx rv h
 obtain ⟨l,b,xs,zs,rfl,rfl,hH,hB,hz,q⟩:=h
 cases rx
 obtain ⟨u,rfl,ru⟩:=rv.one
 cases ru
 obtain ⟨z,its,n,r,hl,e⟩:=I.lstM hH
 obtain ⟨its2,r2,pl,hz2⟩:=I.list hB
 obtain ⟨ob,m,e2,c2,d2,dat⟩:=pl
 have hl2:=r2.length
 have e2':s.heap.get? b=some { cls:=.type "list",dict:=none,data:=.seq its2.toArray m,slots:=ob.slots}:=by
  rw [e2]
  cases ob
  simp only at c2 d2 dat
  subst c2 d2 dat
  rfl
 refine call_meets F.slot_list_extend ⟨_,e,rfl⟩ F.entry_list_extend (F.args_list_extend_2 _ _) (a03 (sl:=ob.slots) (n:=n) (m:=m) (xs:=its.toArray) (ys:=its2.toArray) (by rw [List.size_toArray,List.size_toArray];omega)) ⟨e,e2',?_⟩
 refine ⟨.non,_,I.lset (its':=its++its2) hH e (by simp) (r.append r2) ?_,rfl,q⟩
 rw [List.length_append]
 omega
noncomputable def ao9 (d y:D) (μ:Mu):Res D:=match d with
 | .ref k=>match μ[k]?,j8 μ y with
  | some (.lst ds),.lst es=>if ds.length + es.length≤16777216 then .ok .non (μ.set k (.lst (ds++es))) else .bad
  | _,_=>.bad
 | _=>.bad
noncomputable def Q5 (mo m:MX):MX:=fun ρ μ=>(mo ρ μ).bind fun d μ1=>if Wm (j8 μ1 d)=true then (m ρ μ1).bind fun y μ2=>ao9 d y μ2 else .bad
theorem wq {apos cpos:Pos} (ho:ME X EX o mo) (ha:MA X EX [a] ms) (hm:∀ ρ μ,ms ρ μ=(m ρ μ).bind fun d μ1=>.ok [d] μ1)
  (hbase:attributeBase o "extend" X.env (eval o X.env)=eval o X.env:=by rfl)
  (hfew:((backTo cpos (starEach [a] X.env)).all (fun x=> !x.1) && (backToKw cpos (keywordEach [] X.env)).all (fun x=>x.1.isSome)
   && decide ([a].length + ([]:List Keyword).length + (if ([]:List Keyword).isEmpty then 0 else 1) < 30))=true:=by rfl)
  (hline:(apos.endLine == cpos.line)=true:=by rfl) (hs:starEach [a] X.env=(false,eval a X.env)::starEach [] X.env:=by rfl) (hplain:(backTo cpos (starEach [] X.env)).any (·.1)=false:=by rfl) :
  ME X EX (.Call (.Attribute o "extend" apos) [a] [] cpos) (Q5 mo m):=by
 obtain ⟨to,po,so⟩:=ho
 obtain ⟨ta,pa,sa,_⟩:=ha
 refine ⟨_,as1 PySem.F.plainAttrs_list PySem.F.slot_list_extend PySem.F.type_list_extend aC2 po pa hbase hfew hline hs hplain,fun Z α F H σ ρ μ Q R g=>?_⟩
 refine so Z α F H σ ρ μ _ R (GE.step (G:=GE X.K EX Z α F Q) g (fun _ _ h=>h) (fun h=>h) fun d μ1 v α1 F1 H1 R1 e1 p1 g1=>?_)
 by_cases hd:Wm (j8 μ1 d)=true
 ·rw [if_pos hd] at g1
  refine ⟨?_,?_⟩
  ·have k1:=R1.pk p1
   cases hq:j8 μ1 d with
   | lst xs =>
    rw [hq] at k1
    obtain ⟨q,us,rfl,hsq,hr⟩:=k1
    exact .inl ⟨rfl,us,hsq⟩
   | _=>rw [hq] at hd;cases hd
  ·refine sa Z α1 F1 H1 σ ρ μ1 _ (R.to R1 e1) ?_
   rw [hm]
   cases hy:m ρ μ1 with
   | exc x μ2=>rw [hy] at g1;exact g1
   | bad=>rw [hy] at g1;exact g1
   | ok y μ2 =>
    rw [hy] at g1
    intro vs α2 F2 H2 R2 e2 p2
    unfold Reps at p2
    obtain ⟨vy,r,rfl,p2,hr⟩:=p2
    have hr:r=[]:=hr
    subst hr
    have p1':=p1.mono e2
    have k2:=R2.pk p2
    have g1:GE X.K EX Z α F Q (ao9 d y μ2):=g1
    unfold ao9 at g1
    cases d with
    | ref k =>
     simp only at g1
     cases hc:μ2[k]? with
     | none=>rw [hc] at g1;exact g1.elim
     | some cc =>
      rw [hc] at g1
      cases cc with
      | lst ds =>
       cases hz:j8 μ2 y with
       | lst es =>
        rw [hz] at g1 k2
        simp only at g1
        split at g1
        ·rename_i hl
         obtain ⟨q,us,rfl,hα,hH,hr,hF⟩:=Cv R2 p1' hc
         obtain ⟨q2,us2,rfl,hs2,hr2⟩:=k2
         refine ⟨q,q2,us,us2,rfl,rfl,hH,hs2,by rw [← hr.length,← hr2.length,sizeLine_eq];exact hl,?_⟩
         exact g1 .non α2 F2 _ (R2.setCell hα hc (by simp) ⟨hF,_,J4,hr.append hr2⟩) (e1.trans e2) f6
        ·exact g1.elim
       | _=>rw [hz] at g1;exact g1.elim
      | _=>exact g1.elim
    | _=>exact g1.elim
 ·rw [if_neg hd] at g1;exact g1.elim
end
end M
set_option Elab.async false
set_option linter.all false
set_option maxRecDepth 100000
set_option maxHeartbeats 1000000
namespace M
open PySem PySem.Spec PyProof.Rows L2
noncomputable def an4:MSt:=fun _ _=>.bad
theorem C6 {X:Cx} {EX:EXT} {st:Stmt}:MS X EX st an4:=⟨fun _ _ _=>False,fun _ _ _ _ _ _ h=>h.elim,fun Z α F H σ ρ μ N R g=>g⟩
theorem Aa:typeLookup (.type "list_reverseiterator") "__len__"=pure none:=by rw [typeLookup_type,builtinLookup_eq_fast];kernel_rfl
theorem ac5:typeLookup (.type "list_reverseiterator") "__length_hint__"=pure (some (.builtin "list_reverseiterator.__length_hint__")):=by rw [typeLookup_type,builtinLookup_eq_fast];kernel_rfl
theorem ag5:isSubtype (.type "list_reverseiterator") (.type "list_reverseiterator")=pure true:=by rw [isSubtype_type];kernel_rfl
section
variable {prog:Program} {w:World} {A:Around} {E:Value→Shared→Prop} {s:Shared}
theorem ac4 {it l:Addr} {i:Int} {Q:Bool→Shared→Prop} (hit:s.heap.IsRevIter it l i) (h:Q false s):wpAny (model prog w) A (Builtin.List.listLengthHint (.ref it)) Q E s:=by
 unfold Builtin.List.listLengthHint
 refine wpAny_bind (wpAny_specialOf hit.typeIs Aa ?_)
 generalize hid:("list_reverseiterator.__length_hint__":String)=id0
 have hl:=ac5
 rw [hid] at hl
 wp_delta
 refine wpAny_ite_split (fun hab=>absurd hab (by decide)) (fun _=>?_)
 refine wpAny_ite_split (fun hab=>absurd hab (by decide)) (fun _=>?_)
 refine wpAny_bind (wpAny_specialOf hit.typeIs hl ?_)
 dsimp only
 rw [show splitId id0=some ("list_reverseiterator","__length_hint__") from by subst hid;decide +kernel]
 dsimp only
 refine wpAny_bind (wpAny_isInstance (T:="list_reverseiterator") (b:=true) hit.typeIs ag5 ?_)
 refine wpAny_ite_split (fun hab=>absurd hab (by decide)) (fun _=>?_)
 subst hid
 refine wpAny_ite_split (fun _=>?_) (fun hab=>absurd (by decide +kernel) hab)
 exact wpAny_ite_split (fun hab=>absurd hab (by decide +kernel)) (fun _=>wpAny_pure h)
theorem gk {it l:Addr} {items:Array Value} {Q:Value→Shared→Prop} (hh:A.handled=none) (hit:s.heap.IsRevIter it l ((items.size:Int) - 1)) (hl:s.heap.IsList l items) (hne:l≠it) (hz:items.size≤sizeLine)
  (hQ:∀ h' tk acc c,(∀ b o,b≠it→s.heap.get? b=some o→h'.get? b=some o)→h'.get? s.heap.objs.size=some { cls:=.type "list",dict:=none,data:=.seq acc c,slots:=#[]} →
   ItemsOf (fun i v=>items[items.size - 1 - i]? =some v) acc items.size→Q (.ref s.heap.objs.size) { s with heap:=h',toks:=tk}) :
  wpAny (model prog w) A (call (.type "list") [.ref it]) Q E s:=by
 have hlt:it < s.heap.objs.size:=by obtain ⟨o,e,_⟩:=hit;exact Heap.lt_size e
 have hll:l < s.heap.objs.size:=by obtain ⟨o,e,_⟩:=hl;exact Heap.lt_size e
 refine callType_codes (Q₁:=fun obj s₁=>obj=.ref s.heap.objs.size∧s₁={ s with heap:=s.heap.push { cls:=.type "list",data:=.seq #[]}}) F.called_list (F.typeCall_list_1 _) F.entry_list_init (code_list_new _ ⟨rfl,rfl⟩) fun obj s₁ h₁=>?_
 obtain ⟨rfl,rfl⟩:=h₁
 have hS:(s.heap.push { cls:=.type "list",data:=.seq #[]}).get? s.heap.objs.size=some { cls:=.type "list",data:=.seq #[]}:=Heap.get?_push_size _ rfl
 refine ⟨⟨_,hS,rfl⟩,F.args_list_init_2 _ _,?_⟩
 generalize hSd:s.heap.objs.size=S at hS hlt hll hQ
 have hSi:S≠it:=Nat.ne_of_gt hlt
 have hSl:S≠l:=Nat.ne_of_gt hll
 show wpAny _ _ (Builtin.List.listItems (.ref S) >>= fun old=>Builtin.List.listUpdate (.ref S) (fun _=> #[]) >>= fun _=>letGo old.toList.reverse >>= fun _=>Builtin.List.listExtendWith (.ref S) (.ref it) .none) _ _ _
 refine wpAny_bind ?_
 unfold Builtin.List.listItems
 refine wpAny_bind (wpAny_seqItems hS rfl (wpAny_pure ?_))
 show wpAny _ _ (updateSeq S (fun _=> #[]) >>= _) _ _ _
 refine wpAny_bind (wpAny_updateSeq hS rfl ?_)
 have hS₂:=Heap.get?_update_self (Obj.mapSeq (fun _=>(#[]:Array Value))) hS rfl
 have oth:∀ b o,b≠S→s.heap.get? b=some o→((s.heap.push { cls:=.type "list",data:=.seq #[]}).update S (Obj.mapSeq (fun _=>(#[]:Array Value)))).get? b=some o :=
  fun b o hb e=>(Heap.get?_update_other _ _ (Ne.symm hb)).trans (Heap.get?_push_of_some _ e)
 refine wpAny_bind (wpAny_letGo ?_)
 have hit₂:=hit.at fun o e=>oth it o (Ne.symm hSi) e
 have hl₂:=hl.at fun o e=>oth l o (Ne.symm hSl) e
 unfold Builtin.List.listExtendWith
 refine wpAny_bind (wpAny_typeOf (T:="list_reverseiterator") hit₂.typeIs ?_)
 have h1:Builtin.List.listSameRef (.ref S) (.ref it)=false:=by simp [Builtin.List.listSameRef,hSi]
 have h2:(Value.type "list_reverseiterator" == Value.type "list")=false:=by decide
 have h3:(Value.type "list_reverseiterator" == Value.type "tuple")=false:=by decide
 simp only [h1,h2,h3,Bool.or_false,Bool.false_eq_true,if_false]
 refine wpAny_bind (wpAny_pyIter_revIter hit₂ ?_)
 refine wpAny_bind (wpAny_holding (ac4 hit₂ ?_))
 refine wpAny_ite_split (fun hab=>absurd hab (by decide +kernel)) (fun _=>?_)
 have W:=(Walks.listRev (prog:=prog) (w:=w) (A:=A.in1.in1) hh it l hne items).toS
 refine wpAny_pure ⟨plainId_quiet F.plain_extend_loop _,codeAny_extend_loopS W hz S (fun hm=>?_) .none items.size 0 _ #[] _ rfl (Nat.zero_le _) ⟨Nat.zero_le _,by simpa using hit₂,hl₂⟩ hS₂ (ItemsOf.nil _) fun s' acc' c' hm hS' hacc=>?_⟩
 ·simp only [List.mem_cons,List.not_mem_nil,or_false] at hm
  exact hm.elim hSi hSl
 ·rw [Moved.eq_with hm]
  refine ⟨rfl,hQ s'.heap s'.toks acc' c' (fun b o hb e=>hm.heap b o (fun hmem=>?_) (oth b o (fun z=>?_) e)) hS' hacc⟩
  ·simp only [List.mem_cons,List.not_mem_nil,or_false] at hmem
   rcases hmem with z | z
   ·rw [z,← hSd] at e
    exact Nat.lt_irrefl _ (Heap.lt_size e)
   ·exact hb z
  ·rw [z,← hSd] at e
   exact Nat.lt_irrefl _ (Heap.lt_size e)
end
section
variable {X:Cx} {EX:EXT} {a:Expr} {ma:MX} {p1 p2 q1 q2:Pos}
noncomputable def revL (d:D):Option D:=match d with
 | .lst xs=>some (.lst xs.reverse)
 | _=>none
noncomputable def Xy (m:MX):MX:=fun ρ μ=>(m ρ μ).bind fun d μ1=>ofO μ1 (revL (j8 μ1 d))
theorem Ej {K:PySem.W.Frag} {F:Hp} {α:List Addr}:∀ {ds:List D} {vs:List V},Reps K F α ds vs→Reps K F α ds.reverse vs.reverse
 | [],vs,h=>by
  unfold Reps at h
  rw [h]
  exact jy
 | d::ds,vs,h=>by
  unfold Reps at h
  obtain ⟨v,r,rfl,h1,h2⟩:=h
  rw [List.reverse_cons,List.reverse_cons]
  exact (Ej h2).append (j4 h1 jy)
theorem Es:∀ {vs:List V} {us:List Value},J7 vs us→J7 vs.reverse us.reverse
 | _,_,.nil=>.nil
 | _,_,.cons r rr=>by
  rw [List.reverse_cons,List.reverse_cons]
  exact (Es rr).append (.cons r .nil)
theorem a08 {its:List Value} {acc:Array Value} (h:ItemsOf (fun i v=>its.toArray[its.toArray.size - 1 - i]? =some v) acc its.toArray.size):acc=its.reverse.toArray:=by
 obtain ⟨h1,h2⟩:=h
 have h1:acc.size=its.length:=h1
 apply Array.ext
 ·rw [h1,List.size_toArray,List.length_reverse]
 ·intro i hi hj
  have:its.toArray[its.toArray.size - 1 - i]? =some acc[i]:=h2 i acc[i] (Array.getElem?_eq_getElem hi)
  rw [List.getElem?_toArray,List.size_toArray] at this
  have hi':i < its.length:=by rw [← h1];exact hi
  have e:its.reverse.toArray[i]? =some acc[i]:=by
   rw [List.getElem?_toArray,List.getElem?_reverse hi']
   exact this
  rw [Array.getElem?_eq_getElem hj] at e
  exact (Option.some.inj e).symm
theorem C9 (hc:X.calm=true) (hg:Gl X "list") (hm:X.mg "list"=none) (hg2:Gl X "reversed") (hm2:X.mg "reversed"=none) (ha:ME X EX a ma)
  (hs:starEach [.Call (.Name "reversed" p1) [a] [] q1] X.env=[(false,eval (.Call (.Name "reversed" p1) [a] [] q1) X.env)]:=by rfl) (hs2:starEach [a] X.env=[(false,eval a X.env)]:=by rfl) :
  ME X EX (.Call (.Name "list" p2) [.Call (.Name "reversed" p1) [a] [] q1] [] q2) (Xy ma):=by
 obtain ⟨t,pt,st,lt⟩:=ma_cons ha ma_nil (by rw [hs2];rfl)
 refine ⟨fun σ H Q=>∀ pins s,Inv X pins σ H s→wpAny (model X.prog X.w) X.A (eval (.Call (.Name "list" p2) [.Call (.Name "reversed" p1) [a] [] q1] [] q2) X.env) (EP X pins σ Q) X.xe s,fun pins s σ H Q I h=>h pins s I,fun Z α F H σ ρ μ Q R g pins s I=>?_⟩
 have hw:t σ H fun vs H1=>∃ x α1 F1 μ1 xs,RH X.K Z α1 F1 H1 μ1∧Ext α F α1 F1∧Reps X.K F1 α1 [x] vs∧j8 μ1 x=.lst xs∧(∀ v α' F' H',RH X.K Z α' F' H' μ1→Ext α F α' F'→Rep X.K F' α' (.lst xs.reverse) v→Q v H'):=by
  refine st Z α F H σ ρ μ _ R ?_
  unfold Xy at g
  unfold mCons
  cases h1:ma ρ μ with
  | exc x μ1=>rw [h1] at g;exact g
  | bad=>rw [h1] at g;exact g
  | ok x μ1 =>
   rw [h1] at g
   simp only [bind_ok,mNil] at g ⊢
   intro vs α1 F1 H1 R1 e1 r1
   cases q1:j8 μ1 x with
   | lst xs =>
    rw [q1] at g
    exact ⟨x,α1,F1,μ1,xs,R1,e1,r1,q1,fun v α' F' H' R' e' r'=>g v α' F' H' R' e' r'⟩
   | _=>rw [q1] at g;exact g.elim
 refine Call_ (qo I hg hm M.boot_list (PyProof.Rows.callWith_type1 ?_ (by rw [hs];rfl) rfl))
 rw [hs]
 refine Calls.spliced_cons (Call_ (qo I hg2 hm2 PyProof.Rows.boot_reversed (PyProof.Rows.callWith_type1 (thn (pt q1 pins s σ H _ I hw) fun us s1 ⟨vs,H1,I1,rr,q⟩=>?_) (by rw [hs2];rfl) rfl)))
 obtain ⟨x,α1,F1,μ1,xs,R1,e1,r1,q1,fin⟩:=q
 unfold Reps at r1
 obtain ⟨v,r,rfl,p1,hr⟩:=r1
 have hr:r=[]:=hr
 subst hr
 obtain ⟨u1,rfl,rv⟩:=Ww rr
 have k1:=R1.pk p1
 rw [q1] at k1
 obtain ⟨l,v1,rfl,hsq,hr⟩:=k1
 cases rv
 obtain ⟨its,r',pl,hz⟩:=I1.list hsq
 have hl:=pl.isList
 have hll:l < s1.heap.objs.size:=by obtain ⟨o,e,_⟩:=hl;exact Heap.lt_size e
 refine call_reversed_list hl (Calls.spliced_nil ?_)
 have hlen:=r'.length
 refine gk (I.ok.hd hc) ⟨_,Heap.get?_push_size _ rfl,rfl,rfl⟩ (hl.push _) (Nat.ne_of_lt hll) (by rw [List.size_toArray,← hlen];exact hz) fun h' tk acc c kp hS' hacc=>?_
 have hacc:=a08 hacc
 subst hacc
 have hsz:(s1.heap.push (revObj l ((its.toArray.size:Int) - 1))).objs.size=s1.heap.objs.size + 1:=Heap.size_push ..
 rw [hsz] at hS' ⊢
 have I2:Inv X pins σ (upd H1 (s1.heap.objs.size + 1) (.lst v1.reverse)) { s1 with heap:=h',toks:=tk} :=
  I1.laid (t':=tk) (fun b o e=>kp b o (fun z=>by rw [z] at e;exact Nat.lt_irrefl _ (Heap.lt_size e)) (Heap.get?_push_of_some _ e)) (Nat.le_succ _) ⟨by rw [List.length_reverse];exact hz,its.reverse,c,Es r',hS'⟩
 have hf:H1 (s1.heap.objs.size + 1)=none:=I1.hok.fresh (Nat.le_succ _)
 obtain ⟨a1,a2,a3⟩:=Q7 R1 (Ej hr) hf
 exact ⟨.ref _,_,I2,rfl,fin _ α1 _ _ a1 (e1.trans ⟨a2,fun _ _ h=>h⟩) a3⟩
end
end M
set_option Elab.async false
set_option linter.all false
set_option maxRecDepth 100000
set_option maxHeartbeats 1000000
namespace M
open PySem PySem.Spec PyProof.Rows L2
theorem fnC {P:Program} {w:World} {K:PySem.W.Frag} {mg:Str→Option Value} {base:Heap} {x:Str} {st:Stmt} {ps:List Str} {k n j:Nat} {b:MSt} (D:J5 K mg x st ps) (N G:List Str) (S:FnScope N ps (defScope st)) (hl:aD1 (defScope st) N=true) (hg:glB (defScope st) G=true) (hj:N.length - ps.length=j) (hn:ps.length=n)
  (hb:∀ (f:Addr) (cdv:Value) (A:Around) (outer:List Env) (s:Shared) (H:Hp) (E:XK),Room k (A.deeper (envOfC x (defScope st) s.heap.objs.size f cdv))→Ct (Wa CX0 P w K mg base N x (defScope st) f cdv A outer s H E).nox N G→MSs (Wa CX0 P w K mg base N x (defScope st) f cdv A outer s H E).nox NoX (defBody st) b) :
  Jo P w K mg base x (k + 1) n (fnOf j b) :=
 az D hn fun f fd F=>a9 F S hj hn fun cdv A outer s H E hr=>hb f cdv A outer s H E hr (ae4 S.nd (Cu hl) (ac8 hg) hr)
noncomputable def Jz (K:PySem.W.Frag) (x:Str) (st:Stmt):Prop:=∃ (f:Addr) (oc:Value) (od:Option Addr) (kV doc pm:Value) (an:Option Addr) (cdv ct:Value) (osl:Array (Option Value)),PySem.W.nsIn K mainGlobals x=some (some (.ref f))∧K.lookup f=some ⟨oc,od,.func (PySem.W.fnOf x x (defArgs st) (defBody st) (defScope st) .none kV doc pm an cdv ct),osl⟩∧PySem.W.codeIn K cdv x=true∧PySem.W.keepIn K (.ref f)=true
theorem jh {K:PySem.W.Frag} {mg:Str→Option Value} {h:Heap} {x:Str} {st:Stmt} {ps:List Str} (X:K.In h) (G:h.Ns mainGlobals mg) (d:Jz K x st) (hb:∀ (kV doc pm:Value) (an:Option Addr) (cdv ct:Value),qd (PySem.W.fnOf x x (defArgs st) (defBody st) (defScope st) .none kV doc pm an cdv ct) ps):J5 K mg x st ps:=by
 obtain ⟨f,oc,od,kV,doc,pm,an,cdv,ct,osl,a,l,c,k⟩:=d
 exact aF7 X G a l c k (hb kV doc pm an cdv ct)
theorem dfact {K:PySem.W.Frag} {x:Str} {st:Stmt} {f:Addr} {oc:Value} {od an:Option Addr} {osl:Array (Option Value)} {kV doc pm cdv ct:Value} (a:PySem.W.nsIn K mainGlobals x=some (some (.ref f))) (l:K.lookup f=some ⟨oc,od,.func (PySem.W.fnOf x x (defArgs st) (defBody st) (defScope st) .none kV doc pm an cdv ct),osl⟩)
  (c:PySem.W.codeIn K cdv x=true) (k:PySem.W.keepIn K (.ref f)=true):Jz K x st:=⟨f,oc,od,kV,doc,pm,an,cdv,ct,osl,a,l,c,k⟩
end M
set_option Elab.async false
set_option linter.all false
set_option maxRecDepth 100000
set_option maxHeartbeats 1000000
namespace M
open PySem PySem.Spec PyProof.Rows L2
section
variable {X:Cx} {EX:EXT}
end
end M
set_option Elab.async false
set_option linter.all false
set_option maxRecDepth 100000
set_option maxHeartbeats 4000000
local macro_rules | `(tactic| walk_at "bs")=> `(tactic| (rename_i us hl;first | (have e := M.len_0 hl;subst e;rfl) | (obtain ⟨_, e⟩ := M.len_1 hl;subst e;rfl) | (obtain ⟨_, _, e⟩ := M.len_2 hl;subst e;rfl) | (obtain ⟨_, _, _, e⟩ := M.len_3 hl;subst e;rfl) | (obtain ⟨_, _, _, _, e⟩ := M.len_4 hl;subst e;rfl) | (obtain ⟨_, _, _, _, _, e⟩ := M.len_5 hl;subst e;rfl)))
local macro_rules | `(tactic| walk_at "dm")=> `(tactic| (refine' M.dfact ?a ?l ?c ?k;(case a=>k_is);(case l=>k_is);(case c=>k_is);(case k=>k_is)))
namespace K20
open PySem PySem.Spec PyProof.Rows L2 M
noncomputable def top (i:Nat):Stmt:=PySem.Challenge.pw_netsieve_k20_whole_compiled.main.body.getD i (.Pass ⟨0,0,0,0⟩)
noncomputable abbrev a57:Stmt:=top 54
noncomputable abbrev ar6:Stmt:=top 55
noncomputable abbrev bb:Stmt:=top 79
noncomputable abbrev aJ6:Stmt:=top 59
noncomputable abbrev El:Stmt:=top 72
noncomputable abbrev bg:Stmt:=top 73
noncomputable abbrev zy:Stmt:=top 40
noncomputable abbrev Yt:Stmt:=top 39
noncomputable abbrev zd:Stmt:=top 38
noncomputable abbrev q9:Stmt:=top 36
noncomputable abbrev zx:Stmt:=top 37
noncomputable abbrev X4:Stmt:=top 35
noncomputable abbrev X1:Stmt:=top 29
noncomputable abbrev X2:Stmt:=top 10
noncomputable abbrev Qo:Stmt:=top 11
noncomputable abbrev Wu:Stmt:=top 24
noncomputable abbrev Yh:Stmt:=top 25
noncomputable abbrev qz:Stmt:=top 23
noncomputable abbrev Yi:Stmt:=top 30
noncomputable abbrev qx:Stmt:=top 28
noncomputable abbrev qy:Stmt:=top 32
noncomputable abbrev Yz:Stmt:=top 31
noncomputable abbrev U2:Stmt:=top 27
noncomputable abbrev Qn:Stmt:=top 26
noncomputable abbrev bc:Stmt:=top 63
noncomputable abbrev bf:Stmt:=top 64
noncomputable abbrev bh:Stmt:=top 65
noncomputable abbrev Gc:Stmt:=top 66
noncomputable abbrev Vm:Stmt:=top 62
noncomputable abbrev s_p_Machine__init__:Stmt:=(ap3 (top 42)).getD 0 (.Pass ⟨0,0,0,0⟩)
noncomputable abbrev X0:Stmt:=top 46
noncomputable abbrev ze:Stmt:=top 47
noncomputable abbrev Vl:Stmt:=top 50
noncomputable abbrev Wv:Stmt:=top 14
noncomputable abbrev Y5:Stmt:=top 13
noncomputable abbrev xa:Stmt:=top 12
noncomputable abbrev Wt:Stmt:=top 49
noncomputable abbrev xb:Stmt:=top 48
noncomputable abbrev G0:Stmt:=top 52
noncomputable abbrev X3:Stmt:=top 51
noncomputable abbrev Ws:Stmt:=top 45
noncomputable abbrev G1:Stmt:=top 44
noncomputable abbrev be:Stmt:=top 43
noncomputable abbrev bj:Stmt:=top 56
noncomputable abbrev Gb:Stmt:=top 68
noncomputable abbrev Vn:Stmt:=top 67
noncomputable abbrev bn:Stmt:=top 77
noncomputable abbrev a55:Stmt:=top 78
noncomputable abbrev bd:Stmt:=top 80
noncomputable abbrev j9:Str→Bool:=fun c=>(["Machine"]:List Str).contains c
noncomputable def Jb:List Nat:=[98,111,116,104]
theorem ye:(Str.ofString "both")=⟨Jb.toArray⟩:=by decide +kernel
noncomputable def Jw:List Nat:=[101,105,116,104,101,114]
theorem yy:(Str.ofString "either")=⟨Jw.toArray⟩:=by decide +kernel
noncomputable def ut:List Nat:=[116,114,117,116,104]
theorem uk:(Str.ofString "truth")=⟨ut.toArray⟩:=by decide +kernel
noncomputable def js:List Nat:=[110,117,109,98,101,114]
theorem Ji:(Str.ofString "number")=⟨js.toArray⟩:=by decide +kernel
noncomputable def uh:List Nat:=[115,97,109,101]
theorem Xb:(Str.ofString "same")=⟨uh.toArray⟩:=by decide +kernel
noncomputable def yz:List Nat:=[108,101,110]
theorem zl:(Str.ofString "len")=⟨yz.toArray⟩:=by decide +kernel
noncomputable def jd:List Nat:=[108,101,97,115,116]
theorem Zy:(Str.ofString "least")=⟨jd.toArray⟩:=by decide +kernel
noncomputable def w_not:List Nat:=[110,111,116]
theorem xn:(Str.ofString "not")=⟨w_not.toArray⟩:=by decide +kernel
noncomputable def Jm:List Nat:=[117,110,108,105,107,101]
theorem Wx:(Str.ofString "unlike")=⟨Jm.toArray⟩:=by decide +kernel
noncomputable def ur:List Nat:=[98,101,108,111,119]
theorem V7:(Str.ofString "below")=⟨ur.toArray⟩:=by decide +kernel
noncomputable def J1:List Nat:=[97,98,111,118,101]
theorem x9:(Str.ofString "above")=⟨J1.toArray⟩:=by decide +kernel
noncomputable def U1:List Nat:=[109,111,115,116]
theorem gf:(Str.ofString "most")=⟨U1.toArray⟩:=by decide +kernel
noncomputable def Uj:List Nat:=[108,111,97,100]
theorem zm:(Str.ofString "load")=⟨Uj.toArray⟩:=by decide +kernel
noncomputable def Jc:List Nat:=[112,108,117,115]
theorem w8:(Str.ofString "plus")=⟨Jc.toArray⟩:=by decide +kernel
noncomputable def Jt:List Nat:=[109,105,110,117,115]
theorem Qa:(Str.ofString "minus")=⟨Jt.toArray⟩:=by decide +kernel
noncomputable def Jx:List Nat:=[116,105,109,101,115]
theorem Qd:(Str.ofString "times")=⟨Jx.toArray⟩:=by decide +kernel
noncomputable def jb:List Nat:=[111,118,101,114]
theorem qc:(Str.ofString "over")=⟨jb.toArray⟩:=by decide +kernel
noncomputable def J3:List Nat:=[114,101,115,116]
theorem Xa:(Str.ofString "rest")=⟨J3.toArray⟩:=by decide +kernel
noncomputable def Jh:List Nat:=[97,110,100]
theorem xm:(Str.ofString "and")=⟨Jh.toArray⟩:=by decide +kernel
noncomputable def Ux:List Nat:=[111,114]
theorem v5:(Str.ofString "or")=⟨Ux.toArray⟩:=by decide +kernel
noncomputable def uz:List Nat:=[120,111,114]
theorem xp:(Str.ofString "xor")=⟨uz.toArray⟩:=by decide +kernel
noncomputable def w_left:List Nat:=[108,101,102,116]
theorem qb:(Str.ofString "left")=⟨w_left.toArray⟩:=by decide +kernel
noncomputable def w_right:List Nat:=[114,105,103,104,116]
theorem V6:(Str.ofString "right")=⟨w_right.toArray⟩:=by decide +kernel
noncomputable def ue:List Nat:=[116,101,108,108]
theorem zn:(Str.ofString "tell")=⟨ue.toArray⟩:=by decide +kernel
noncomputable def Yj:List Nat:=[115,116,101,112]
theorem Up:(Str.ofString "step")=⟨Yj.toArray⟩:=by decide +kernel
noncomputable def Zc:List Nat:=[115,101,116]
theorem Ev:(Str.ofString "set")=⟨Zc.toArray⟩:=by decide +kernel
noncomputable def w_tax:List Nat:=[116,97,120]
theorem w_tax_eq:(Str.ofString "tax")=⟨w_tax.toArray⟩:=by decide +kernel
noncomputable def w_x:List Nat:=[120]
theorem a36:(Str.ofString "x")=⟨w_x.toArray⟩:=by decide +kernel
noncomputable def w_keep:List Nat:=[107,101,101,112]
theorem w_keep_eq:(Str.ofString "keep")=⟨w_keep.toArray⟩:=by decide +kernel
noncomputable def U5:List Nat:=[102,101,116,99,104]
theorem x8:(Str.ofString "fetch")=⟨U5.toArray⟩:=by decide +kernel
noncomputable def Zb:List Nat:=[100,111,120]
theorem Eu:(Str.ofString "dox")=⟨Zb.toArray⟩:=by decide +kernel
noncomputable def Uw:List Nat:=[106,117,109,112]
theorem zk:(Str.ofString "jump")=⟨Uw.toArray⟩:=by decide +kernel
noncomputable def Gh:List Nat:=[102,105,114,115,116]
theorem c6:(Str.ofString "first")=⟨Gh.toArray⟩:=by decide +kernel
noncomputable def u6:List Nat:=[101,113,117,97,108]
theorem c7:(Str.ofString "equal")=⟨u6.toArray⟩:=by decide +kernel
noncomputable def yg:List Nat:=[105,102,120]
theorem zj:(Str.ofString "ifx")=⟨yg.toArray⟩:=by decide +kernel
noncomputable def yf:List Nat:=[115,101,116,120]
theorem gh:(Str.ofString "setx")=⟨yf.toArray⟩:=by decide +kernel
noncomputable def xo:List Nat:=[116,120,97]
theorem a37:(Str.ofString "txa")=⟨xo.toArray⟩:=by decide +kernel
noncomputable def gy:List Nat:=[100,111]
theorem b0:(Str.ofString "do")=⟨gy.toArray⟩:=by decide +kernel
noncomputable def x0:List Nat:=[105,102]
theorem v7:(Str.ofString "if")=⟨x0.toArray⟩:=by decide +kernel
noncomputable def U4:List Nat:=[116,101,108,108,97]
theorem Qb:(Str.ofString "tella")=⟨U4.toArray⟩:=by decide +kernel
noncomputable def Xc:List Nat:=[115,105,122,101]
theorem Ax:(Str.ofString "size")=⟨Xc.toArray⟩:=by decide +kernel
noncomputable def w9:List Nat:=[98,97,115,101]
theorem Aw:(Str.ofString "base")=⟨w9.toArray⟩:=by decide +kernel
noncomputable def Zz:List Nat:=[115,108,111,116]
theorem Ay:(Str.ofString "slot")=⟨Zz.toArray⟩:=by decide +kernel
noncomputable def Gi:List Nat:=[111,112]
theorem ag0:(Str.ofString "op")=⟨Gi.toArray⟩:=by decide +kernel
noncomputable def Jy:List Nat:=[100,105,115,116,97,110,99,101]
theorem gx:(Str.ofString "distance")=⟨Jy.toArray⟩:=by decide +kernel
noncomputable def Qc:List Nat:=[116,101,115,116]
noncomputable def a38:List Nat:=[97,116]
noncomputable def Et:List Nat:=[97,110,121]
noncomputable def c_OPS:D:=(.tup [(.str Jc),(.str Jt),(.str Jx),(.str jb),(.str J3),(.str Jh),(.str Ux),(.str uz),(.str w_left),(.str w_right)])
noncomputable def c_SLOTS:D:=(.int 8)
noncomputable def kc:List DK:=[.inr uh,.inr Jm,.inr J1,.inr U1,.inr jd,.inr ur]
noncomputable def Kl:List D:=[(.tup [(.str u6),(.bl true)]),(.tup [(.str u6),(.bl false)]),(.tup [(.str J1),(.bl true)]),(.tup [(.str J1),(.bl false)]),(.tup [(.str jd),(.bl true)]),(.tup [(.str jd),(.bl false)])]
noncomputable def c_MOST_STEPS:D:=(.int 2000)
noncomputable def ka:List DK:=[.inr Uj,.inr yz,.inr Zc,.inr yf,.inr w_tax,.inr xo,.inr w_keep,.inr U5,.inr gy,.inr Zb,.inr Uw,.inr x0,.inr yg,.inr ue,.inr U4]
noncomputable def Kk:List D:=[(.tup [(.str Xc),(.str w9),(.str js)]),(.tup []),(.tup [(.str js)]),(.tup [(.str js)]),(.tup []),(.tup []),(.tup [(.str Zz)]),(.tup [(.str Zz)]),(.tup [(.str Gi),(.str js)]),(.tup [(.str Gi)]),(.tup [(.str Jy)]),(.tup [(.str Qc),(.str js),(.str Jy),(.str Jy)]),(.tup [(.str Qc),(.str Jy),(.str Jy)]),(.tup [(.str js)]),(.tup [])]
noncomputable def c_ROUND:D:=(.int 4294967296)
noncomputable def c_SIZES:D:=(.tup [(.int 1),(.int 2),(.int 4)])
noncomputable def c_FARTHEST:D:=(.int 2000)
noncomputable def c_BASES:D:=(.tup [(.str a38),(.str w_x)])
noncomputable def c_TESTS:D:=(.tup [(.str u6),(.str J1),(.str jd),(.str Et)])
noncomputable def c_DIVIDING:D:=(.tup [(.str jb),(.str J3)])
noncomputable def c_SHIFTING:D:=(.tup [(.str w_left),(.str w_right)])
noncomputable def c_WIDTH:D:=(.int 32)
noncomputable def aG7:MSt:=(jz (jl (mTru (mVar 0))
  (jt (mBin gIdx (mVar 0) (mBin Jp (mVar 1) (jm uj (mCons (mVar 0) mNil)))))
  jx)
  (jt (mC (.int 0))))
noncomputable def Cm:Fn:=fnOf 0 aG7
noncomputable def aQ4:MSt:=(jz (Js 2 (mBin Jp (mBin Jj (mCall Cm (mCons (mVar 0) (mCons (mVar 1) mNil))) (mBin Uh (mC (.int 104729)) (mBin Jj (mVar 1) (mC (.int 1))))) (mC (.int 4294967291))))
  (jz (Js 2 (mBin Jp (mBin Uh (mVar 2) (mC (.int 48271))) (mC (.int 4294967279))))
  (jt (mBin Jp (mBin Jj (mBin Uh (mBin Ug (mVar 2) (mC (.int 64))) (mC (.int 69621))) (mVar 2)) (mC (.int 4294967231))))))
noncomputable def Y8:Fn:=fnOf 1 aQ4
noncomputable def Q8:MSt:=(jz (Js 5 (mCall Y8 (mCons (mVar 0) (mCons (mBin Jj (mC (.int 70)) (mVar 4)) mNil))))
  (jz (Js 6 (ua (mCons (ja (mCons (mC (.str js)) (mCons (mBin Jp (mBin Ug (mVar 5) (mC (.int 2))) (mC (.int 4))) mNil))) (mCons (ja (mCons (mC (.str js)) (mCons (mBin Jp (mBin Ug (mVar 5) (mC (.int 8))) (mC (.int 61))) mNil))) mNil))))
  (jz (Js 7 (ua (mCons (ja (mCons (mC (.str uh)) (mCons (ja (mCons (mC (.str yz)) mNil)) (mCons (mBin gIdx (mVar 6) (mC (.int 1))) mNil)))) (mCons (ja (mCons (mC (.str jd)) (mCons (ja (mCons (mC (.str yz)) mNil)) (mCons (mBin gIdx (mVar 6) (mC (.int 0))) mNil)))) mNil))))
  (Js 3 (ja (mCons (mBin gIdx (mVar 2) (mC (.int 0))) (mCons (mVar 3) (mCons (ja (mCons (mBin gIdx (mVar 2) (mC (.int 1))) (mCons (mBin gIdx (mVar 7) (mBin Jp (mVar 5) (mC (.int 2)))) (mCons (mBin gIdx (mVar 7) (mBin yu (mC (.int 1)) (mBin Jp (mVar 5) (mC (.int 2))))) mNil)))) mNil))))))))
noncomputable def aq1:MSt:=(jz (Js 2 (mBin gIdx (ua (mCons (ja (mCons (mC (.str Jb)) (mCons (mC (.str Jw)) mNil))) (mCons (ja (mCons (mC (.str Jw)) (mCons (mC (.str Jb)) mNil))) mNil))) (mBin Jp (mCall Y8 (mCons (mVar 0) (mCons (mC (.int 57)) mNil))) (mC (.int 2)))))
  (jz (Js 3 (ja (mCons (mC (.str ut)) (mCons (mBin gEq (mBin gIdx (mVar 2) (mC (.int 0))) (mC (.str Jb))) mNil))))
  (jz (qr (gN 4) (uo (mVar 1)) Q8)
  (jt (mVar 3)))))
noncomputable def Fq:Fn:=fnOf 6 aq1
noncomputable def b_op:MSt:=(jt (mBin gIdx (ua (mCons (mC (.str Jc)) (mCons (mC (.str Jt)) (mCons (mC (.str Jx)) (mCons (mC (.str jb)) (mCons (mC (.str J3)) (mCons (mC (.str Jh)) (mCons (mC (.str Ux)) (mCons (mC (.str uz)) (mCons (mC (.str w_left)) (mCons (mC (.str w_right)) mNil))))))))))) (mBin Jp (mVar 0) (mC (.int 10)))))
noncomputable def aF2:Fn:=fnOf 0 b_op
noncomputable def Ka (R:Nat→Fn):MSt:=(jz (Js 3 (mCall Y8 (mCons (mVar 0) (mCons (mVar 1) mNil))))
  (jz (jl (mOr (mTest (mBin gEq (mVar 2) (mC (.int 0)))) (mTest (mBin gLt (mBin Jp (mVar 3) (mC (.int 5))) (mC (.int 2)))))
  (jz (Js 4 (mBin gIdx (ua (mCons (mC (.int 0)) (mCons (mC (.int 1)) (mCons (mC (.int 2)) (mCons (mC (.int 7)) (mCons (mC (.int 12)) (mCons (mC (.int 20)) (mCons (mC (.int 33)) (mCons (mC (.int 255)) (mCons (mC (.int 4294967295)) (mCons (mBin Jp (mVar 3) (mC (.int 4294967296))) mNil))))))))))) (mBin Jp (mBin Ug (mVar 3) (mC (.int 5))) (mC (.int 10)))))
  (jt (mBin gIdx (ua (mCons (ja (mCons (mC (.str yz)) mNil)) (mCons (ja (mCons (mC (.str js)) (mCons (mVar 4) mNil))) (mCons (ja (mCons (mC (.str js)) (mCons (mVar 4) mNil))) mNil)))) (mBin Jp (mBin Ug (mVar 3) (mC (.int 50))) (mC (.int 3))))))
  jx)
  (jz (jl (mTest (mBin gEq (mBin Jp (mVar 3) (mC (.int 5))) (mC (.int 2))))
  (jt (ja (mCons (mC (.str Uj)) (mCons (mBin gIdx (ua (mCons (mC (.int 1)) (mCons (mC (.int 2)) (mCons (mC (.int 4)) mNil)))) (mBin Jp (mBin Ug (mVar 3) (mC (.int 5))) (mC (.int 3)))) (mCons (mCall (R 0) (mCons (mVar 0) (mCons (mBin Jj (mBin Uh (mC (.int 3)) (mVar 1)) (mC (.int 1))) (mCons (mBin yu (mVar 2) (mC (.int 1))) mNil)))) mNil)))))
  jx)
  (jz (Js 5 (mCall (R 0) (mCons (mVar 0) (mCons (mBin Jj (mBin Uh (mC (.int 3)) (mVar 1)) (mC (.int 1))) (mCons (mBin yu (mVar 2) (mC (.int 1))) mNil)))))
  (jt (ja (mCons (mCall aF2 (mCons (mBin Ug (mVar 3) (mC (.int 5))) mNil)) (mCons (mVar 5) (mCons (mCall (R 0) (mCons (mVar 0) (mCons (mBin Jj (mBin Uh (mC (.int 3)) (mVar 1)) (mC (.int 2))) (mCons (mBin yu (mVar 2) (mC (.int 1))) mNil)))) mNil)))))))))
noncomputable def yd:Nat→Nat→Fn
 | 0=>fun _ _ _=>.bad
 | k + 1=>fun i=>match i with
  | _=>fnOf 3 (Ka (yd k))
noncomputable def Kv:Fn:=yd 8 0
noncomputable def Xi (R:Nat→Fn):MSt:=(jz (Js 3 (mCall Y8 (mCons (mVar 0) (mCons (mVar 1) mNil))))
  (jz (jl (mAnd (mTest (mBin gGt (mVar 2) (mC (.int 0)))) (mTest (mBin gLt (mBin Jp (mVar 3) (mC (.int 5))) (mC (.int 3)))))
  (jz (Js 4 (mCall (R 0) (mCons (mVar 0) (mCons (mBin Jj (mBin Uh (mC (.int 2)) (mVar 1)) (mC (.int 1))) (mCons (mBin yu (mVar 2) (mC (.int 1))) mNil)))))
  (jz (jl (mTest (mBin gEq (mBin Jp (mVar 3) (mC (.int 5))) (mC (.int 0))))
  (jt (ja (mCons (mC (.str w_not)) (mCons (mVar 4) mNil))))
  jx)
  (jt (ja (mCons (mBin gIdx (ua (mCons (mC (.str Jb)) (mCons (mC (.str Jw)) mNil))) (mBin yu (mBin Jp (mVar 3) (mC (.int 5))) (mC (.int 1)))) (mCons (mVar 4) (mCons (mCall (R 0) (mCons (mVar 0) (mCons (mBin Jj (mBin Uh (mC (.int 2)) (mVar 1)) (mC (.int 2))) (mCons (mBin yu (mVar 2) (mC (.int 1))) mNil)))) mNil)))))))
  jx)
  (jz (jl (mTest (mBin gEq (mBin Jp (mBin Ug (mVar 3) (mC (.int 5))) (mC (.int 7))) (mC (.int 0))))
  (jt (ja (mCons (mC (.str ut)) (mCons (mBin gEq (mBin Jp (mBin Ug (mVar 3) (mC (.int 35))) (mC (.int 2))) (mC (.int 0))) mNil))))
  jx)
  (jz (Js 5 (mBin gIdx (ua (mCons (mC (.str uh)) (mCons (mC (.str Jm)) (mCons (mC (.str ur)) (mCons (mC (.str J1)) (mCons (mC (.str U1)) (mCons (mC (.str jd)) mNil))))))) (mBin Jp (mBin Ug (mVar 3) (mC (.int 35))) (mC (.int 6)))))
  (jt (ja (mCons (mVar 5) (mCons (mCall Kv (mCons (mVar 0) (mCons (mBin Jj (mBin Uh (mC (.int 5)) (mVar 1)) (mC (.int 3))) (mCons (mC (.int 2)) mNil)))) (mCons (mCall Kv (mCons (mVar 0) (mCons (mBin Jj (mBin Uh (mC (.int 5)) (mVar 1)) (mC (.int 4))) (mCons (mC (.int 1)) mNil)))) mNil)))))))))
noncomputable def Uv:Nat→Nat→Fn
 | 0=>fun _ _ _=>.bad
 | k + 1=>fun i=>match i with
  | _=>fnOf 3 (Xi (Uv k))
noncomputable def ax:Fn:=Uv 8 0
noncomputable def Xh:MSt:=(jz (jl (mTest (mBin gGe (mVar 1) (mC c_SLOTS)))
  an4
  jx)
  (jt (ua (mCons (ja (mCons (mC (.str js)) (mCons (mBin gIdx (mVar 0) (mC (.int 1))) (mCons (mVar 1) mNil)))) (mCons (ja (mCons (mC (.str Yj)) (mCons (ja (mCons (mC (.str w_keep)) (mCons (mVar 1) mNil))) mNil))) (mCons (ja (mCons (mC (.str js)) (mCons (mBin gIdx (mVar 0) (mC (.int 2))) (mCons (mBin Jj (mVar 1) (mC (.int 1))) mNil)))) (mCons (ja (mCons (mC (.str Yj)) (mCons (ja (mCons (mC (.str w_tax)) mNil)) mNil))) (mCons (ja (mCons (mC (.str Yj)) (mCons (ja (mCons (mC (.str U5)) (mCons (mVar 1) mNil))) mNil))) mNil))))))))
noncomputable def U9:Fn:=fnOf 0 Xh
noncomputable def Qr:MSt:=(jz (jl (mTest (mBin gEq (mBin gIdx (mVar 0) (mC (.int 0))) (mC (.str js))))
  (jt (ua (mCons (ja (mCons (mC (.str Yj)) (mCons (ja (mCons (mC (.str Zc)) (mCons (mBin gIdx (mVar 0) (mC (.int 1))) mNil))) mNil))) mNil)))
  jx)
  (jz (jl (mTest (mBin gEq (mBin gIdx (mVar 0) (mC (.int 0))) (mC (.str Uj))))
  (jt (ua (mCons (ja (mCons (mC (.str js)) (mCons (mBin gIdx (mVar 0) (mC (.int 2))) (mCons (mVar 1) mNil)))) (mCons (ja (mCons (mC (.str Yj)) (mCons (ja (mCons (mC (.str w_tax)) mNil)) mNil))) (mCons (ja (mCons (mC (.str Yj)) (mCons (ja (mCons (mC (.str Uj)) (mCons (mBin gIdx (mVar 0) (mC (.int 1))) (mCons (mC (.str w_x)) (mCons (mC (.int 0)) mNil))))) mNil))) mNil)))))
  jx)
  (jz (jl (mTest (mBin gIn (mBin gIdx (mVar 0) (mC (.int 0))) (mC c_OPS)))
  (jt (mBin Jj (mCall U9 (mCons (mVar 0) (mCons (mVar 1) mNil))) (ua (mCons (ja (mCons (mC (.str Yj)) (mCons (ja (mCons (mC (.str Zb)) (mCons (mBin gIdx (mVar 0) (mC (.int 0))) mNil))) mNil))) mNil))))
  jx)
  (jt (ua (mCons (ja (mCons (mC (.str Yj)) (mCons (ja (mCons (mC (.str yz)) mNil)) mNil))) mNil))))))
noncomputable def Uf:Fn:=fnOf 0 Qr
noncomputable def W9:MSt:=(jz (Js 3 (mBin U8 (mC (.dic kc Kl)) (mVar 0)))
  (jz (jl (mTru (mBin gIdx (mVar 3) (mC (.int 1))))
  (jt (ja (mCons (mC (.str yg)) (mCons (mBin gIdx (mVar 3) (mC (.int 0))) (mCons (mVar 1) (mCons (mVar 2) mNil))))))
  jx)
  (jt (ja (mCons (mC (.str yg)) (mCons (mBin gIdx (mVar 3) (mC (.int 0))) (mCons (mVar 2) (mCons (mVar 1) mNil))))))))
noncomputable def Y0:Fn:=fnOf 1 W9
noncomputable def Kc:MSt:=(jl (mTest (mBin gEq (mBin gIdx (mVar 0) (mC (.int 0))) (mC (.str ut))))
  (um (U6 (mVar 3) (ja (mCons (mC (.str Uw)) (mCons (mBin yu (jm uj (mCons (mVar 3) mNil)) (mIf (mTru (mBin gIdx (mVar 0) (mC (.int 1)))) (mVar 1) (mVar 2))) mNil)))))
  (jl (mTest (mBin gEq (mBin gIdx (mVar 0) (mC (.int 0))) (mC (.str w_not))))
  (um (U6 (mVar 4) (ja (mCons (mC (.str ut)) (mCons (mBin gIdx (mVar 0) (mC (.int 1))) (mCons (mVar 2) (mCons (mVar 1) mNil)))))))
  (jl (mTest (mBin gIn (mBin gIdx (mVar 0) (mC (.int 0))) (ja (mCons (mC (.str Jb)) (mCons (mC (.str Jw)) mNil)))))
  (um (Q5 (mVar 4) (ua (mCons (ja (mCons (mC (.str Gh)) (mCons (mVar 0) (mCons (mVar 1) (mCons (mVar 2) mNil))))) (mCons (ja (mCons (mC (.str ut)) (mCons (mBin gIdx (mVar 0) (mC (.int 2))) (mCons (mVar 1) (mCons (mVar 2) mNil))))) mNil)))))
  (jz (um (U6 (mVar 3) (mCall Y0 (mCons (mBin gIdx (mVar 0) (mC (.int 0))) (mCons (mBin yu (jm uj (mCons (mVar 3) mNil)) (mVar 1)) (mCons (mBin yu (jm uj (mCons (mVar 3) mNil)) (mVar 2)) mNil))))))
  (um (Q5 (mVar 4) (mCall U9 (mCons (mVar 0) (mCons (mC (.int 0)) mNil)))))))))
noncomputable def Yc:Fn:=fnOf 0 Kc
noncomputable def Xg:MSt:=(jz (jl (mTest (mBin gEq (mBin gIdx (mVar 0) (mC (.int 0))) (mC (.str Jb))))
  (jt (ja (mCons (mC (.str ut)) (mCons (mBin gIdx (mVar 0) (mC (.int 1))) (mCons (mVar 3) (mCons (mVar 2) mNil))))))
  jx)
  (jt (ja (mCons (mC (.str ut)) (mCons (mBin gIdx (mVar 0) (mC (.int 1))) (mCons (mVar 1) (mCons (mVar 3) mNil)))))))
noncomputable def yn:Fn:=fnOf 0 Xg
noncomputable def Ut:MSt:=(jz (Js 3 (an2 (mVar 2)))
  (jl (mTest (mBin gEq (mBin gIdx (mVar 3) (mC (.int 0))) (mC (.str Yj))))
  (um (U6 (mVar 1) (mBin gIdx (mVar 3) (mC (.int 1)))))
  (jl (mTest (mBin gEq (mBin gIdx (mVar 3) (mC (.int 0))) (mC (.str js))))
  (um (Q5 (mVar 2) (mCall Uf (mCons (mBin gIdx (mVar 3) (mC (.int 1))) (mCons (mBin gIdx (mVar 3) (mC (.int 2))) mNil)))))
  (jl (mTest (mBin gEq (mBin gIdx (mVar 3) (mC (.int 0))) (mC (.str ut))))
  (um (mCall Yc (mCons (mBin gIdx (mVar 3) (mC (.int 1))) (mCons (mBin gIdx (mVar 3) (mC (.int 2))) (mCons (mBin gIdx (mVar 3) (mC (.int 3))) (mCons (mVar 1) (mCons (mVar 2) mNil)))))))
  (um (U6 (mVar 2) (mCall yn (mCons (mBin gIdx (mVar 3) (mC (.int 1))) (mCons (mBin gIdx (mVar 3) (mC (.int 2))) (mCons (mBin gIdx (mVar 3) (mC (.int 3))) (mCons (jm uj (mCons (mVar 1) mNil)) mNil)))))))))))
noncomputable def Ey:MSt:=(jz (Js 1 (Wp (mCons (ja (mCons (mC (.str ue)) (mCons (mC (.int 0)) mNil))) (mCons (ja (mCons (mC (.str ue)) (mCons (mC (.int 1)) mNil))) mNil))))
  (jz (Js 2 (Wp (mCons (ja (mCons (mC (.str ut)) (mCons (mVar 0) (mCons (mC (.int 2)) (mCons (mC (.int 1)) mNil))))) mNil)))
  (jz (Cw 3000 (mTest (mBin gGt (jm uj (mCons (mVar 2) mNil)) (mC (.int 0)))) Ut)
  (jt (Xy (mVar 1))))))
noncomputable def Yq:Fn:=fnOf 3 Ey
noncomputable def E8:MSt:=(jt (aN4 (mCons (mC (.bl false)) mNil) (mC c_SLOTS)))
noncomputable def Xs:Fn:=fnOf 0 E8
noncomputable def E9:MSt:=(jt (Ud (gm .int (mVar 0)) (ko (gm .bool (mVar 0)))))
noncomputable def ym:Fn:=fnOf 0 E9
noncomputable def gj:MSt:=(jt (Ud (mCall ym (mCons (mVar 0) mNil)) (Ye gLe gLt (mC (.int 0)) (mVar 0) (mC c_ROUND))))
noncomputable def Qf:Fn:=fnOf 0 gj
noncomputable def Dh:MSt:=(jz (jl (mTest (mBin gEq (mVar 0) (mC (.str js))))
  (jt (mCall Qf (mCons (mVar 1) mNil)))
  jx)
  (jz (jl (mTest (mBin gEq (mVar 0) (mC (.str Xc))))
  (jt (Ud (mCall ym (mCons (mVar 1) mNil)) (mBin gIn (mVar 1) (mC c_SIZES))))
  jx)
  (jz (jl (mTest (mBin gEq (mVar 0) (mC (.str Zz))))
  (jt (Ud (mCall ym (mCons (mVar 1) mNil)) (Ye gLe gLt (mC (.int 0)) (mVar 1) (mC c_SLOTS))))
  jx)
  (jz (jl (mTest (mBin gEq (mVar 0) (mC (.str Jy))))
  (jt (Ud (mCall ym (mCons (mVar 1) mNil)) (Ye gLe gLe (mC (.int 0)) (mVar 1) (mC c_FARTHEST))))
  jx)
  (jz (jl (mTest (mBin gEq (mVar 0) (mC (.str w9))))
  (jt (mBin gIn (mVar 1) (mC c_BASES)))
  jx)
  (jz (jl (mTest (mBin gEq (mVar 0) (mC (.str Gi))))
  (jt (mBin gIn (mVar 1) (mC c_OPS)))
  jx)
  (jt (mBin gIn (mVar 1) (mC c_TESTS)))))))))
noncomputable def Ur:Fn:=fnOf 0 Dh
noncomputable def xq:MSt:=(jz (jl (mTest (mBin gIn (mVar 0) (mC c_DIVIDING)))
  (jt (mBin gNe (mVar 1) (mC (.int 0))))
  jx)
  (jz (jl (mTest (mBin gIn (mVar 0) (mC c_SHIFTING)))
  (jt (mBin gLt (mVar 1) (mC c_WIDTH)))
  jx)
  (jt (mC (.bl true)))))
noncomputable def uy:Fn:=fnOf 0 xq
noncomputable def Di:MSt:=(jz (jl (mOr (mNot (mTru (gm .tuple (mVar 0)))) (mTest (mBin gEq (jm uj (mCons (mVar 0) mNil)) (mC (.int 0)))))
  (jt (mC (.bl false)))
  jx)
  (jz (jl (mOr (mNot (mTru (gm .str (mBin gIdx (mVar 0) (mC (.int 0)))))) (mTest (mBin (xt true) (mBin gIdx (mVar 0) (mC (.int 0))) (mC (.dic ka Kk)))))
  (jt (mC (.bl false)))
  jx)
  (jz (Js 1 (mBin U8 (mC (.dic ka Kk)) (mBin gIdx (mVar 0) (mC (.int 0)))))
  (jz (jl (mTest (mBin gNe (jm uj (mCons (mVar 0) mNil)) (mBin Jj (mC (.int 1)) (jm uj (mCons (mVar 1) mNil)))))
  (jt (mC (.bl false)))
  jx)
  (jz (jl (mNot (mTru (jm Co (mCons (ug 2 [] (Wk (Us (gN 0) (Us (gN 1) Wl))) (ff true true (mVar 1) (mSl (mVar 0) (Qj (mC (.int 1))) ab5)) mTT (mCall Ur (mCons (mVar 0) (mCons (mVar 1) mNil)))) mNil))))
  (jt (mC (.bl false)))
  jx)
  (jt (gn (mBin gNe (mBin gIdx (mVar 0) (mC (.int 0))) (mC (.str gy))) (mCall uy (mCons (mBin gIdx (mVar 0) (mC (.int 1))) (mCons (mBin gIdx (mVar 0) (mC (.int 2))) mNil))))))))))
noncomputable def jc:Fn:=fnOf 1 Di
noncomputable def xr:MSt:=(jt (Ud (mBin gEq (mBin gIdx (mVar 0) (mC (.int 0))) (mC (.str U5))) (ko (mBin gIdx (mVar 1) (mBin gIdx (mVar 0) (mC (.int 1)))))))
noncomputable def uc:Fn:=fnOf 0 xr
noncomputable def Kb:MSt:=(jz (Js 2 (mBin Jj (mVar 0) (mC (.int 1))))
  (jz (jl (mTest (mBin gIn (mBin gIdx (mVar 1) (mC (.int 0))) (ja (mCons (mC (.str ue)) (mCons (mC (.str U4)) mNil)))))
  (jt (ua mNil))
  jx)
  (jz (jl (mTest (mBin gEq (mBin gIdx (mVar 1) (mC (.int 0))) (mC (.str Uw))))
  (jt (ua (mCons (mBin Jj (mVar 2) (mBin gIdx (mVar 1) (mC (.int 1)))) mNil)))
  jx)
  (jz (jl (mTest (mBin gIn (mBin gIdx (mVar 1) (mC (.int 0))) (ja (mCons (mC (.str x0)) (mCons (mC (.str yg)) mNil)))))
  (jt (ua (mCons (mBin Jj (mVar 2) (mBin gIdx (mVar 1) (dg (mC (.int 2))))) (mCons (mBin Jj (mVar 2) (mBin gIdx (mVar 1) (dg (mC (.int 1))))) mNil))))
  jx)
  (jt (ua (mCons (mVar 2) mNil)))))))
noncomputable def yk:Fn:=fnOf 1 Kb
noncomputable def Qh:MSt:=(jz (Js 4 (fc (mVar 0) (mVar 3) (mVar 2)))
  (fe (mVar 0) (mVar 3) (ug 2 [] (Wk (Us (gN 0) (Us (gN 1) Wl))) (ff false false (mVar 4) (mVar 2)) mTT (Ud (mVar 0) (mVar 1)))))
noncomputable def Dg:MSt:=(qr (gN 3) (U3 (mVar 1)) Qh)
noncomputable def zv:Fn:=fnOf 2 Dg
noncomputable def v0:MSt:=(jz (jl (mTest (mBin gNe (mBin gIdx (mVar 0) (mC (.int 0))) (mC (.str w_keep))))
  (jt (mVar 1))
  jx)
  (jt (ug 2 [0] (Wk (Us (gN 0) (Us (gN 1) Wl))) (kn (mVar 1)) mTT (gn (mVar 1) (mBin gEq (mVar 0) (mBin gIdx (mVar 2) (mC (.int 1))))))))
noncomputable def Ua:Fn:=fnOf 0 v0
noncomputable def Jq:MSt:=(jz (jl (mNot (mTru (mCall jc (mCons (mVar 3) mNil))))
  (jt (mVar 2))
  jx)
  (jz (jl (mAnd (mTest (mBin (xt false) (mVar 2) (mVar 1))) (mTru (mCall uc (mCons (mVar 3) (mCons (mBin U8 (mVar 1) (mVar 2)) mNil)))))
  (jt (mVar 2))
  jx)
  (jz (Js 4 (mCall yk (mCons (mVar 2) (mCons (mVar 3) mNil))))
  (jz (jl (mTru (jm ad4 (mCons (ug 1 [0] (gN 0) (U3 (mVar 4)) mTT (mBin gGe (mVar 0) (jm uj (mCons (mVar 1) mNil)))) mNil)))
  (jt (mVar 2))
  jx)
  (jl (mTest (mBin (xt false) (mVar 2) (mVar 1)))
  (um (mCall zv (mCons (mVar 1) (mCons (mVar 4) (mCons (mCall Ua (mCons (mVar 3) (mCons (mBin U8 (mVar 1) (mVar 2)) mNil))) mNil)))))
  jx)))))
noncomputable def Zf:MSt:=(jz (jl (mNot (mTest (Ye gLe gLe (mC (.int 1)) (jm uj (mCons (mVar 0) mNil)) (mC c_MOST_STEPS))))
  (jt (mC (.int 0)))
  jx)
  (jz (Js 1 (df [.inl 0] (mCons (mCall Xs mNil) mNil)))
  (jz (qr (Wk (Us (gN 2) (Us (gN 3) Wl))) (kn (mVar 0)) Jq)
  (jt (mC .non)))))
noncomputable def uw:Fn:=fnOf 4 Zf
noncomputable def gi:MSt:=(jt (Zh (mCall uw (mCons (mVar 0) mNil))))
noncomputable def Uc:Fn:=fnOf 0 gi
noncomputable def ap9:MSt:=(jz (jl (mTest (mBin gIn (mBin gIdx (mVar 0) (mC (.int 0))) (ja (mCons (mC (.str ue)) (mCons (mC (.str U4)) mNil)))))
  (jt (ua mNil))
  jx)
  (jz (jl (mTest (mBin gEq (mBin gIdx (mVar 0) (mC (.int 0))) (mC (.str Uw))))
  (jt (ua (mCons (mBin Jj (mBin Jj (mVar 1) (mC (.int 1))) (mBin gIdx (mVar 0) (mC (.int 1)))) mNil)))
  jx)
  (jz (jl (mTest (mBin gIn (mBin gIdx (mVar 0) (mC (.int 0))) (ja (mCons (mC (.str x0)) (mCons (mC (.str yg)) mNil)))))
  (jt (ua (mCons (mBin Jj (mBin Jj (mVar 1) (mC (.int 1))) (mBin gIdx (mVar 0) (dg (mC (.int 2))))) (mCons (mBin Jj (mBin Jj (mVar 1) (mC (.int 1))) (mBin gIdx (mVar 0) (dg (mC (.int 1))))) mNil))))
  jx)
  (jt (ua (mCons (mBin Jj (mVar 1) (mC (.int 1))) mNil))))))
noncomputable def Yp:Fn:=fnOf 0 ap9
noncomputable def wj:MSt:=(jl (mTest (mBin zr (mVar 3) (mVar 1)))
  (um (U6 (mVar 1) (mVar 3)))
  jx)
noncomputable def wl:MSt:=(jl (mTest (mBin gIn (mVar 2) (mVar 1)))
  (qr (gN 3) (U3 (mCall Yp (mCons (mBin gIdx (mVar 0) (mVar 2)) (mCons (mVar 2) mNil)))) wj)
  jx)
noncomputable def ap7:MSt:=(jz (Js 1 (Wp (mCons (mC (.int 0)) mNil)))
  (jz (qr (gN 2) (uo (jm uj (mCons (mVar 0) mNil))) wl)
  (jt (mVar 1))))
noncomputable def Fs:Fn:=fnOf 3 ap7
noncomputable def wm:MSt:=(jl (mTest (mBin zr (mVar 4) (mVar 2)))
  (um (U6 (mVar 2) (mVar 4)))
  jx)
noncomputable def wn:MSt:=(jl (mAnd (mTest (mBin gIn (mVar 3) (mVar 2))) (mTest (mBin gNe (mBin gIdx (mVar 0) (mVar 3)) (ja (mCons (mC (.str w_keep)) (mCons (mVar 1) mNil))))))
  (qr (gN 4) (U3 (mCall Yp (mCons (mBin gIdx (mVar 0) (mVar 3)) (mCons (mVar 3) mNil)))) wm)
  jx)
noncomputable def ap6:MSt:=(jz (Js 2 (Wp (mCons (mC (.int 0)) mNil)))
  (jz (qr (gN 3) (uo (jm uj (mCons (mVar 0) mNil))) wn)
  (jt (mVar 2))))
noncomputable def vn:Fn:=fnOf 3 ap6
noncomputable def wg:MSt:=(jz (jl (mAnd (mTest (mBin gEq (mBin gIdx (mBin gIdx (mVar 0) (mVar 2)) (mC (.int 0))) (mC (.str U5)))) (mAnd (mTest (mBin gIn (mVar 2) (mVar 1))) (mTest (mBin gIn (mVar 2) (mCall vn (mCons (mVar 0) (mCons (mBin gIdx (mBin gIdx (mVar 0) (mVar 2)) (mC (.int 1))) mNil)))))))
  (jt (mVar 2))
  jx)
  (jl (mNot (mTru (jm Co (mCons (ug 1 [0] (gN 0) (U3 (mCall Yp (mCons (mBin gIdx (mVar 0) (mVar 2)) (mCons (mVar 2) mNil)))) mTT (mBin gLt (mVar 0) (jm uj (mCons (mVar 1) mNil)))) mNil))))
  (jt (mVar 2))
  jx))
noncomputable def aq0:MSt:=(jz (Js 1 (mCall Fs (mCons (mVar 0) mNil)))
  (jz (qr (gN 2) (uo (jm uj (mCons (mVar 0) mNil))) wg)
  (jt (dg (mC (.int 1))))))
noncomputable def f_fault:Fn:=fnOf 2 aq0
noncomputable def af2:MSt:=(jz (Js 2 (mBin gIdx (ua (mCons (mC (.int 0)) (mCons (mC (.int 1)) (mCons (mC (.int 3)) (mCons (mC (.int 20)) (mCons (mC (.int 34)) (mCons (mC (.int 60)) mNil))))))) (mBin Jp (mCall Y8 (mCons (mVar 0) (mCons (mVar 1) mNil))) (mC (.int 6)))))
  (jt (ug 1 [0,1] (gN 0) (uo (mVar 2)) mTT (mBin Jp (mBin Ug (mCall Y8 (mCons (mVar 1) (mCons (mBin Jj (mBin Jj (mVar 2) (mC (.int 1))) (mBin Jp (mVar 0) (mC (.int 40)))) mNil))) (mBin Jj (mC (.int 1)) (mVar 0))) (mC (.int 256))))))
noncomputable def Kw:Fn:=fnOf 1 af2
noncomputable def Qq:MSt:=(jz (yq j9 "hand" (mVar 0) (mC (.int 0)))
  (jz (yq j9 "other" (mVar 0) (mC (.int 0)))
  (jz (yq j9 "slots" (mVar 0) Bq)
  (jz (yq j9 "place" (mVar 0) (mC (.int 0)))
  (jz (yq j9 "done" (mVar 0) (mC (.int 0)))
  (yq j9 "told" (mVar 0) (mC .non)))))))
noncomputable def u5:Fn:=fnOf 0 Qq
noncomputable def E7:MSt:=(jl (mTest (mBin gEq (mBin gIdx (mVar 1) (mC (.int 0))) (mC (.str yf))))
  (yq j9 "other" (mVar 0) (mBin gIdx (mVar 1) (mC (.int 1))))
  (jl (mTest (mBin gEq (mBin gIdx (mVar 1) (mC (.int 0))) (mC (.str w_tax))))
  (yq j9 "other" (mVar 0) (u8 j9 "hand" (mVar 0)))
  (fe (u8 j9 "slots" (mVar 0)) (mBin gIdx (mVar 1) (mC (.int 1))) (u8 j9 "hand" (mVar 0)))))
noncomputable def Zr:Fn:=fnOf 0 E7
noncomputable def W8:MSt:=(jl (mTest (Zh (mVar 1)))
  (yq j9 "told" (mVar 0) (mC (.int 0)))
  (yq j9 "hand" (mVar 0) (mVar 1)))
noncomputable def u9:Fn:=fnOf 0 W8
noncomputable def Ys:MSt:=(Js 3 (mBin Jj (mBin Uh (mVar 3) (mC (.int 256))) (mVar 4)))
noncomputable def Cg:MSt:=(jz (jl (mOr (mTest (mBin gLt (mVar 2) (mC (.int 0)))) (mTest (mBin gGt (mBin Jj (mVar 2) (mVar 1)) (jm uj (mCons (mVar 0) mNil)))))
  (jt (mC .non))
  jx)
  (jz (Js 3 (mC (.int 0)))
  (jz (qr (gN 4) (U3 (mSl (mVar 0) (Qj (mVar 2)) (Qj (mBin Jj (mVar 2) (mVar 1))))) Ys)
  (jt (mVar 3)))))
noncomputable def Yb:Fn:=fnOf 2 Cg
noncomputable def Wf:MSt:=(jz (jl (mTest (mBin gGe (mVar 2) (mC c_WIDTH)))
  (jt (mC (.int 0)))
  jx)
  (jz (Js 3 (jm ad2 (mCons (mVar 2) (mCons (mC (.int 0)) mNil))))
  (jt (mIf (mTest (mBin gEq (mVar 0) (mC (.str w_left)))) (mBin ao7 (mVar 1) (mVar 3)) (mBin ao6 (mVar 1) (mVar 3))))))
noncomputable def yw:Fn:=fnOf 1 Wf
noncomputable def Jd:MSt:=(jz (jl (mTest (mBin gEq (mVar 0) (mC (.str Jc))))
  (jt (mBin Jj (mVar 1) (mVar 2)))
  jx)
  (jz (jl (mTest (mBin gEq (mVar 0) (mC (.str Jt))))
  (jt (mBin yu (mVar 1) (mVar 2)))
  jx)
  (jz (jl (mTest (mBin gEq (mVar 0) (mC (.str Jx))))
  (jt (mBin Uh (mVar 1) (mVar 2)))
  jx)
  (jz (jl (mTest (mBin gEq (mVar 0) (mC (.str jb))))
  (jt (mBin Ug (mVar 1) (mVar 2)))
  jx)
  (jz (jl (mTest (mBin gEq (mVar 0) (mC (.str J3))))
  (jt (mBin Jp (mVar 1) (mVar 2)))
  jx)
  (jz (jl (mTest (mBin gEq (mVar 0) (mC (.str Jh))))
  (jt (mBin ao8 (mVar 1) (mVar 2)))
  jx)
  (jz (jl (mTest (mBin gEq (mVar 0) (mC (.str Ux))))
  (jt (mBin aE8 (mVar 1) (mVar 2)))
  jx)
  (jz (jl (mTest (mBin gEq (mVar 0) (mC (.str uz))))
  (jt (mBin aE6 (mVar 1) (mVar 2)))
  jx)
  (jt (mCall yw (mCons (mVar 0) (mCons (mVar 1) (mCons (mVar 2) mNil)))))))))))))
noncomputable def jk:Fn:=fnOf 0 Jd
noncomputable def yi:MSt:=(jz (jl (mAnd (mTest (mBin gIn (mVar 0) (mC c_DIVIDING))) (mTest (mBin gEq (mVar 2) (mC (.int 0)))))
  (jt (mC .non))
  jx)
  (jt (mBin Jp (mCall jk (mCons (mVar 0) (mCons (mVar 1) (mCons (mVar 2) mNil)))) (mC c_ROUND))))
noncomputable def jq:Fn:=fnOf 0 yi
noncomputable def Df:MSt:=(jz (jl (mTest (mBin (xt true) (mVar 1) (u8 j9 "slots" (mVar 0))))
  an4
  jx)
  (jt (mBin U8 (u8 j9 "slots" (mVar 0)) (mVar 1))))
noncomputable def Wi:Fn:=fnOf 0 Df
noncomputable def E6:MSt:=(jz (jl (mTest (mBin gEq (mBin gIdx (mVar 1) (mC (.int 0))) (mC (.str Uj))))
  (jz (Js 3 (mIf (mTest (mBin gEq (mBin gIdx (mVar 1) (mC (.int 2))) (mC (.str w_x)))) (u8 j9 "other" (mVar 0)) (mC (.int 0))))
  (jt (mCall Yb (mCons (mVar 2) (mCons (mBin gIdx (mVar 1) (mC (.int 1))) (mCons (mBin Jj (mVar 3) (mBin gIdx (mVar 1) (mC (.int 3)))) mNil))))))
  jx)
  (jz (jl (mTest (mBin gEq (mBin gIdx (mVar 1) (mC (.int 0))) (mC (.str yz))))
  (jt (jm uj (mCons (mVar 2) mNil)))
  jx)
  (jz (jl (mTest (mBin gEq (mBin gIdx (mVar 1) (mC (.int 0))) (mC (.str Zc))))
  (jt (mBin gIdx (mVar 1) (mC (.int 1))))
  jx)
  (jz (jl (mTest (mBin gEq (mBin gIdx (mVar 1) (mC (.int 0))) (mC (.str xo))))
  (jt (u8 j9 "other" (mVar 0)))
  jx)
  (jz (jl (mTest (mBin gEq (mBin gIdx (mVar 1) (mC (.int 0))) (mC (.str gy))))
  (jt (mCall jq (mCons (mBin gIdx (mVar 1) (mC (.int 1))) (mCons (u8 j9 "hand" (mVar 0)) (mCons (mBin gIdx (mVar 1) (mC (.int 2))) mNil)))))
  jx)
  (jz (jl (mTest (mBin gEq (mBin gIdx (mVar 1) (mC (.int 0))) (mC (.str Zb))))
  (jt (mCall jq (mCons (mBin gIdx (mVar 1) (mC (.int 1))) (mCons (u8 j9 "hand" (mVar 0)) (mCons (u8 j9 "other" (mVar 0)) mNil)))))
  jx)
  (jt (mCall Wi (mCons (mVar 0) (mCons (mBin gIdx (mVar 1) (mC (.int 1))) mNil))))))))))
noncomputable def yo:Fn:=fnOf 1 E6
noncomputable def a28:MSt:=(jz (jl (mTest (mBin gEq (mVar 0) (mC (.str u6))))
  (jt (mBin gEq (mVar 1) (mVar 2)))
  jx)
  (jz (jl (mTest (mBin gEq (mVar 0) (mC (.str J1))))
  (jt (mBin gGt (mVar 1) (mVar 2)))
  jx)
  (jz (jl (mTest (mBin gEq (mVar 0) (mC (.str jd))))
  (jt (mBin gGe (mVar 1) (mVar 2)))
  jx)
  (jt (mBin gNe (mBin ao8 (mVar 1) (mVar 2)) (mC (.int 0)))))))
noncomputable def Qz:Fn:=fnOf 0 a28
noncomputable def Ez:MSt:=(jz (jl (mTest (mBin gEq (mBin gIdx (mVar 1) (mC (.int 0))) (mC (.str Uw))))
  (jt (mBin gIdx (mVar 1) (mC (.int 1))))
  jx)
  (jz (jl (mTest (mBin gEq (mBin gIdx (mVar 1) (mC (.int 0))) (mC (.str x0))))
  (jt (mIf (mTru (mCall Qz (mCons (mBin gIdx (mVar 1) (mC (.int 1))) (mCons (u8 j9 "hand" (mVar 0)) (mCons (mBin gIdx (mVar 1) (mC (.int 2))) mNil))))) (mBin gIdx (mVar 1) (mC (.int 3))) (mBin gIdx (mVar 1) (mC (.int 4)))))
  jx)
  (jz (jl (mTest (mBin gEq (mBin gIdx (mVar 1) (mC (.int 0))) (mC (.str yg))))
  (jt (mIf (mTru (mCall Qz (mCons (mBin gIdx (mVar 1) (mC (.int 1))) (mCons (u8 j9 "hand" (mVar 0)) (mCons (u8 j9 "other" (mVar 0)) mNil))))) (mBin gIdx (mVar 1) (mC (.int 2))) (mBin gIdx (mVar 1) (mC (.int 3)))))
  jx)
  (jt (mC (.int 0))))))
noncomputable def Yr:Fn:=fnOf 0 Ez
noncomputable def De:MSt:=(jz (jl (mTest (mBin gEq (mBin gIdx (mVar 1) (mC (.int 0))) (mC (.str ue))))
  (yq j9 "told" (mVar 0) (mBin gIdx (mVar 1) (mC (.int 1))))
  (jl (mTest (mBin gEq (mBin gIdx (mVar 1) (mC (.int 0))) (mC (.str U4))))
  (yq j9 "told" (mVar 0) (u8 j9 "hand" (mVar 0)))
  (jl (mTest (mBin gIn (mBin gIdx (mVar 1) (mC (.int 0))) (ja (mCons (mC (.str yf)) (mCons (mC (.str w_tax)) (mCons (mC (.str w_keep)) mNil))))))
  (um (mCall Zr (mCons (mVar 0) (mCons (mVar 1) mNil))))
  (jl (mTest (mBin zr (mBin gIdx (mVar 1) (mC (.int 0))) (ja (mCons (mC (.str Uw)) (mCons (mC (.str x0)) (mCons (mC (.str yg)) mNil))))))
  (um (mCall u9 (mCons (mVar 0) (mCons (mCall yo (mCons (mVar 0) (mCons (mVar 1) (mCons (mVar 2) mNil)))) mNil))))
  jx))))
  (jz (de j9 "done" (mVar 0) (mC (.int 1)))
  (de j9 "place" (mVar 0) (mBin Jj (mC (.int 1)) (mCall Yr (mCons (mVar 0) (mCons (mVar 1) mNil)))))))
noncomputable def yv:Fn:=fnOf 0 De
noncomputable def Uu:MSt:=(jz (jl (mTest (mBin gGe (u8 j9 "place" (mVar 2)) (jm uj (mCons (mVar 0) mNil))))
  an4
  jx)
  (um (mCall yv (mCons (mVar 2) (mCons (mBin gIdx (mVar 0) (u8 j9 "place" (mVar 2))) (mCons (mVar 1) mNil))))))
noncomputable def a29:MSt:=(jz (Js 2 (aD0 "Machine" u5 mNil))
  (jz (Cw 2100 (mTest (Zh (u8 j9 "told" (mVar 2)))) Uu)
  (jt (mVar 2))))
noncomputable def wc:Fn:=fnOf 1 a29
noncomputable def ap8:MSt:=(jt (u8 j9 "told" (mCall wc (mCons (mVar 0) (mCons (mVar 1) mNil)))))
noncomputable def vm:Fn:=fnOf 0 ap8
noncomputable def ap5:MSt:=(jt (Ud (gm .int (mVar 0)) (ko (gm .bool (mVar 0)))))
noncomputable def ay:Fn:=fnOf 0 ap5
noncomputable def aq2:MSt:=(jz (jl (mTest (mBin gGt (mBin Jj (mVar 1) (mVar 2)) (jm uj (mCons (mVar 0) mNil))))
  (jt (mC .non))
  jx)
  (jt (jm aE7 (mCons (ug 1 [0,1,2] (gN 0) (uo (mVar 2)) mTT (mBin Uh (mBin gIdx (mVar 1) (mBin Jj (mVar 2) (mVar 0))) (mBin gIdx (ua (mCons (mC (.int 1)) (mCons (mC (.int 256)) (mCons (mC (.int 65536)) (mCons (mC (.int 16777216)) mNil))))) (mBin yu (mBin yu (mVar 3) (mC (.int 1))) (mVar 0))))) mNil))))
noncomputable def Qy:Fn:=fnOf 0 aq2
noncomputable def u7:MSt:=(Js 1 (mIf (mTest (mBin gEq (mVar 0) (mC (.str w_left)))) (mBin Uh (mVar 1) (mC (.int 2))) (mBin Ug (mVar 1) (mC (.int 2)))))
noncomputable def yp:MSt:=(jz (Js 6 (ja (mCons (mBin Jp (mBin Ug (mVar 1) (mVar 5)) (mC (.int 2))) (mCons (mBin Jp (mBin Ug (mVar 2) (mVar 5)) (mC (.int 2))) mNil))))
  (jz (Js 4 (mBin Jj (mVar 4) (mBin Uh (mVar 5) (jm Wj (mCons (mBin U8 (an3 [.inr Jh,.inr Ux,.inr uz] (mCons (mBin gEq (mVar 6) (ja (mCons (mC (.int 1)) (mCons (mC (.int 1)) mNil)))) (mCons (mBin gNe (mVar 6) (ja (mCons (mC (.int 0)) (mCons (mC (.int 0)) mNil)))) (mCons (mBin gNe (mBin gIdx (mVar 6) (mC (.int 0))) (mBin gIdx (mVar 6) (mC (.int 1)))) mNil)))) (mVar 0)) mNil)))))
  (Js 5 (mBin Uh (mVar 5) (mC (.int 2))))))
noncomputable def Uq:MSt:=(jz (jl (mTest (mBin gIn (mVar 0) (ja (mCons (mC (.str jb)) (mCons (mC (.str J3)) mNil)))))
  (jz (jl (mTest (mBin gEq (mVar 2) (mC (.int 0))))
  (jt (mC .non))
  jx)
  (jt (mIf (mTest (mBin gEq (mVar 0) (mC (.str jb)))) (mBin Ug (mVar 1) (mVar 2)) (mBin yu (mVar 1) (mBin Uh (mBin Ug (mVar 1) (mVar 2)) (mVar 2))))))
  jx)
  (jz (jl (mTest (mBin gIn (mVar 0) (ja (mCons (mC (.str w_left)) (mCons (mC (.str w_right)) mNil)))))
  (jz (qr (gN 3) (uo (jm aE9 (mCons (mVar 2) (mCons (mC (.int 33)) mNil)))) u7)
  (jt (mBin Jp (mVar 1) (mC (.int 4294967296)))))
  jx)
  (jz (jl (mTest (mBin gIn (mVar 0) (ja (mCons (mC (.str Jh)) (mCons (mC (.str Ux)) (mCons (mC (.str uz)) mNil))))))
  (jz (Js 4 (mC (.int 0)))
  (jz (Js 5 (mC (.int 1)))
  (jz (qr (gN 3) (uo (mC (.int 32))) yp)
  (jt (mVar 4)))))
  jx)
  (jt (mBin Jp (mBin U8 (an3 [.inr Jc,.inr Jt,.inr Jx] (mCons (mBin Jj (mVar 1) (mVar 2)) (mCons (mBin yu (mVar 1) (mVar 2)) (mCons (mBin Uh (mVar 1) (mVar 2)) mNil)))) (mVar 0)) (mC (.int 4294967296)))))))
noncomputable def je:Fn:=fnOf 4 Uq
noncomputable def E5 (R:Nat→Fn):MSt:=(jz (jl (mTest (mBin gEq (mBin gIdx (mVar 0) (mC (.int 0))) (mC (.str js))))
  (jt (mBin gIdx (mVar 0) (mC (.int 1))))
  jx)
  (jz (jl (mTest (mBin gEq (mBin gIdx (mVar 0) (mC (.int 0))) (mC (.str yz))))
  (jt (jm uj (mCons (mVar 1) mNil)))
  jx)
  (jz (jl (mTest (mBin gEq (mBin gIdx (mVar 0) (mC (.int 0))) (mC (.str Uj))))
  (jz (Js 2 (mCall (R 0) (mCons (mBin gIdx (mVar 0) (mC (.int 2))) (mCons (mVar 1) mNil))))
  (jt (mIf (mTest (Zh (mVar 2))) (mC .non) (mCall Qy (mCons (mVar 1) (mCons (mVar 2) (mCons (mBin gIdx (mVar 0) (mC (.int 1))) mNil)))))))
  jx)
  (jz (Js 3 (mCall (R 0) (mCons (mBin gIdx (mVar 0) (mC (.int 1))) (mCons (mVar 1) mNil))))
  (jz (Js 4 (mIf (mTest (Zh (mVar 3))) (mC .non) (mCall (R 0) (mCons (mBin gIdx (mVar 0) (mC (.int 2))) (mCons (mVar 1) mNil)))))
  (jt (mIf (mTest (Zh (mVar 4))) (mC .non) (mCall je (mCons (mBin gIdx (mVar 0) (mC (.int 0))) (mCons (mVar 3) (mCons (mVar 4) mNil)))))))))))
noncomputable def Yg:Nat→Nat→Fn
 | 0=>fun _ _ _=>.bad
 | k + 1=>fun i=>match i with
  | _=>fnOf 3 (E5 (Yg k))
noncomputable def Ft:Fn:=Yg 12 0
noncomputable def Zp (R:Nat→Fn):MSt:=(jz (jl (mTest (mBin gEq (mBin gIdx (mVar 0) (mC (.int 0))) (mC (.str ut))))
  (jt (jm Wj (mCons (mBin gIdx (mVar 0) (mC (.int 1))) mNil)))
  jx)
  (jz (jl (mTest (mBin gIn (mBin gIdx (mVar 0) (mC (.int 0))) (ja (mCons (mC (.str w_not)) (mCons (mC (.str Jb)) (mCons (mC (.str Jw)) mNil))))))
  (jz (Js 2 (mCall (R 0) (mCons (mBin gIdx (mVar 0) (mC (.int 1))) (mCons (mVar 1) mNil))))
  (jz (jl (mOr (mTest (mBin gLt (mVar 2) (mC (.int 0)))) (mTest (mBin gEq (mBin gIdx (mVar 0) (mC (.int 0))) (mC (.str w_not)))))
  (jt (mIf (mTest (mBin gLt (mVar 2) (mC (.int 0)))) (mVar 2) (mBin yu (mC (.int 1)) (mVar 2))))
  jx)
  (jt (mIf (mTest (mBin gEq (mVar 2) (jm Wj (mCons (mBin gEq (mBin gIdx (mVar 0) (mC (.int 0))) (mC (.str Jw))) mNil)))) (mVar 2) (mCall (R 0) (mCons (mBin gIdx (mVar 0) (mC (.int 2))) (mCons (mVar 1) mNil)))))))
  jx)
  (jz (Js 2 (mCall Ft (mCons (mBin gIdx (mVar 0) (mC (.int 1))) (mCons (mVar 1) mNil))))
  (jz (Js 3 (mIf (mTest (Zh (mVar 2))) (mC .non) (mCall Ft (mCons (mBin gIdx (mVar 0) (mC (.int 2))) (mCons (mVar 1) mNil)))))
  (jz (jl (mTest (Zh (mVar 3)))
  (jt (dg (mC (.int 1))))
  jx)
  (jz (Js 4 (df [.inr uh,.inr Jm,.inr ur,.inr J1] (mCons (mBin gEq (mVar 2) (mVar 3)) (mCons (mBin gNe (mVar 2) (mVar 3)) (mCons (mBin gLt (mVar 2) (mVar 3)) (mCons (mBin gGt (mVar 2) (mVar 3)) mNil))))))
  (jz (fe (mVar 4) (mC (.str U1)) (mBin gLe (mVar 2) (mVar 3)))
  (jz (fe (mVar 4) (mC (.str jd)) (mBin gGe (mVar 2) (mVar 3)))
  (jt (jm Wj (mCons (mBin U8 (mVar 4) (mBin gIdx (mVar 0) (mC (.int 0)))) mNil)))))))))))
noncomputable def Y2:Nat→Nat→Fn
 | 0=>fun _ _ _=>.bad
 | k + 1=>fun i=>match i with
  | _=>fnOf 3 (Zp (Y2 k))
noncomputable def ae0:Fn:=Y2 50 0
noncomputable def F0:MSt:=(jz (Js 5 (mCall Kw (mCons (mVar 0) (mCons (mBin Jj (mC (.int 20)) (mBin Uh (mC (.int 11)) (mVar 4))) mNil))))
  (jz (Js 6 (mCall vm (mCons (mVar 3) (mCons (mVar 5) mNil))))
  (jl (mOr (mNot (mTru (mCall ay (mCons (mVar 6) mNil)))) (mTest (mBin gNe (mVar 6) (jm Wj (mCons (mBin gEq (mCall ae0 (mCons (mVar 2) (mCons (mVar 5) mNil))) (mC (.int 1))) mNil)))))
  (jt (mC (.bl false)))
  jx)))
noncomputable def aQ5:MSt:=(jz (Js 1 (mBin gEq (mBin Jp (mCall Y8 (mCons (mVar 0) (mCons (mC (.int 59)) mNil))) (mC (.int 8))) (mC (.int 0))))
  (jz (Js 2 (mIf (mTru (mVar 1)) (mCall Fq (mCons (mVar 0) (mCons (mBin Jj (mC (.int 8)) (mBin Jp (mCall Y8 (mCons (mVar 0) (mCons (mC (.int 58)) mNil))) (mC (.int 23)))) mNil))) (mCall ax (mCons (mVar 0) (mCons (mC (.int 0)) (mCons (mC (.int 2)) mNil))))))
  (jz (Js 3 (mCall Yq (mCons (mVar 2) mNil)))
  (jz (jl (mOr (mNot (mTru (gm .list (mVar 3)))) (mOr (mNot (mTru (mCall Uc (mCons (mVar 3) mNil)))) (mAnd (mNot (mTru (mVar 1))) (mTest (mBin gGe (mCall f_fault (mCons (mVar 3) mNil)) (mC (.int 0)))))))
  (jt (mC (.bl false)))
  jx)
  (jz (qr (gN 4) (uo (mC (.int 3))) F0)
  (jt (mC (.bl true))))))))
noncomputable def f_law:Fn:=fnOf 6 aQ5
structure Tx (w:World) (K:PySem.W.Frag) (mg:Str→Option Value):Prop where
 n_len:mg "len"=none
 n_range:mg "range"=none
 n_list:mg "list"=none
 n_reversed:mg "reversed"=none
 n_isinstance:mg "isinstance"=none
 n_enumerate:mg "enumerate"=none
 n_tuple:mg "tuple"=none
 n_str:mg "str"=none
 n_zip:mg "zip"=none
 n_int:mg "int"=none
 n_bool:mg "bool"=none
 n_all:mg "all"=none
 n_any:mg "any"=none
 n_max:mg "max"=none
 n_sum:mg "sum"=none
 n_min:mg "min"=none
 c_OPS:Uz K mg "OPS" c_OPS
 c_SLOTS:Uz K mg "SLOTS" c_SLOTS
 c_TEST_OF:gz w K mg "TEST_OF" kc Kl
 c_MOST_STEPS:Uz K mg "MOST_STEPS" c_MOST_STEPS
 c_PARTS:gz w K mg "PARTS" ka Kk
 c_ROUND:Uz K mg "ROUND" c_ROUND
 c_SIZES:Uz K mg "SIZES" c_SIZES
 c_FARTHEST:Uz K mg "FARTHEST" c_FARTHEST
 c_BASES:Uz K mg "BASES" c_BASES
 c_TESTS:Uz K mg "TESTS" c_TESTS
 c_DIVIDING:Uz K mg "DIVIDING" c_DIVIDING
 c_SHIFTING:Uz K mg "SHIFTING" c_SHIFTING
 c_WIDTH:Uz K mg "WIDTH" c_WIDTH
 m_Machine:aR3 K mg "Machine"
 o_Machine:Cls K (cA K "Machine")
 na_Machine_hand:yh K (cA K "Machine") "hand"
 na_Machine_other:yh K (cA K "Machine") "other"
 na_Machine_slots:yh K (cA K "Machine") "slots"
 na_Machine_place:yh K (cA K "Machine") "place"
 na_Machine_done:yh K (cA K "Machine") "done"
 na_Machine_told:yh K (cA K "Machine") "told"
 d_p_Machine__init__:MkD K mg "Machine" "Machine.__init__" s_p_Machine__init__ ["self"]
 d_cell:J5 K mg "_law_cell" a57 ["_law_script","_law_k_here"]
 d_mix:J5 K mg "_law_mix" ar6 ["_law_script","_law_k_here"]
 d_chain:J5 K mg "_law_chain" bb ["_law_script","_law_many"]
 d_op:J5 K mg "_law_op" aJ6 ["_law_number_here"]
 d_number:J5 K mg "_law_number" El ["_law_script","_law_base","_law_deep"]
 d_truth:J5 K mg "_law_truth" bg ["_law_script","_law_base","_law_deep"]
 d_p_tasks_of_pair:J5 K mg "tasks_of_pair" zy ["tree","slot"]
 d_p_tasks_of_number:J5 K mg "tasks_of_number" Yt ["tree","slot"]
 d_p_step_of_test:J5 K mg "step_of_test" zd ["comparison","to_yes","to_no"]
 d_p_make_truth:J5 K mg "make_truth" q9 ["tree","yes","no","made","waiting"]
 d_p_task_of_first:J5 K mg "task_of_first" zx ["tree","yes","no","second"]
 d_p_compiled:J5 K mg "compiled" X4 ["tree"]
 d_p_no_slots:J5 K mg "no_slots" X1 []
 d_p_is_whole:J5 K mg "is_whole" X2 ["thing"]
 d_p_is_number:J5 K mg "is_number" Qo ["thing"]
 d_p_is_part:J5 K mg "is_part" Wu ["kind","part"]
 d_p_can_be_done_by:J5 K mg "can_be_done_by" Yh ["op","k"]
 d_p_is_step:J5 K mg "is_step" qz ["thing"]
 d_p_lacks_its_slot:J5 K mg "lacks_its_slot" Yi ["step","slots"]
 d_p_goals_from:J5 K mg "goals_from" qx ["place","step"]
 d_p_hand_on:J5 K mg "hand_on" qy ["kept","goals","slots"]
 d_p_kept_behind:J5 K mg "kept_behind" Yz ["step","slots"]
 d_p_first_wrong_place:J5 K mg "first_wrong_place" U2 ["code"]
 d_p_is_let_in:J5 K mg "is_let_in" Qn ["code"]
 d_goals:J5 K mg "_law_goals" bc ["_law_step_here","_law_at"]
 d_there:J5 K mg "_law_there" bf ["_law_code_here"]
 d_unset:J5 K mg "_law_unset" bh ["_law_code_here","_law_slot"]
 d_fault:J5 K mg "_law_fault" Gc ["_law_code_here"]
 d_packet:J5 K mg "_law_packet" Vm ["_law_script","_law_base"]
 d_p_put_away:J5 K mg "put_away" X0 ["machine","step"]
 d_p_take_in_hand:J5 K mg "take_in_hand" ze ["machine","value"]
 d_p_loaded:J5 K mg "loaded" Vl ["packet","size","start"]
 d_p_shifted:J5 K mg "shifted" Wv ["op","one","often"]
 d_p_plainly_reckoned:J5 K mg "plainly_reckoned" Y5 ["op","one","other"]
 d_p_reckoned:J5 K mg "reckoned" xa ["op","one","other"]
 d_p_fetched:J5 K mg "fetched" Wt ["machine","slot"]
 d_p_value_of:J5 K mg "value_of" xb ["machine","step","packet"]
 d_p_holds:J5 K mg "holds" G0 ["test","one","other"]
 d_p_distance:J5 K mg "distance" X3 ["machine","step"]
 d_p_do_step:J5 K mg "do_step" Ws ["machine","step","packet"]
 d_p_ended:J5 K mg "ended" G1 ["code","packet"]
 d_p_run:J5 K mg "run" be ["code","packet"]
 d_whole:J5 K mg "_law_whole" bj ["_law_found"]
 d_bytes:J5 K mg "_law_bytes" Gb ["_law_packet_here","_law_at","_law_size"]
 d_reckoned:J5 K mg "_law_reckoned" Vn ["_law_op_here","_law_one","_law_other"]
 d_worth:J5 K mg "_law_worth" bn ["_law_tree","_law_packet_here"]
 d_says:J5 K mg "_law_says" a55 ["_law_tree","_law_packet_here"]
 d_law:J5 K mg "law" bd ["_law_script"]
section
variable {P:Program} {w:World} {K:PySem.W.Frag} {mg:Str→Option Value} {base:Heap}
theorem al9 (T:Tx w K mg):Jo P w K mg base "_law_cell" 1 2 Cm:=fnC T.d_cell ["_law_script","_law_k_here"] ["len"] ⟨rfl,rfl,rfl,by decide +kernel,rfl,by decide +kernel,by decide +kernel⟩ (by decide +kernel) (by decide +kernel) rfl rfl fun _ _ _ _ _ _ _ hr C=>(j2 (jv (Jg (sv C 0 rfl) (fun _=>rfl))
  (j3 (j5 (me_idx (sv C 0 rfl) (me_bin om_mod (sv C 1 rfl) (me_callB cm_len (C.g 0 rfl) T.n_len PySem.boot_len (ma_cons (sv C 0 rfl) ma_nil rfl))) (fun _ _=>rfl))))
  j6)
  (j3 (j5 me_int)))
theorem ok_mix (T:Tx w K mg):Jo P w K mg base "_law_mix" 2 2 Y8:=fnC T.d_mix ["_law_script","_law_k_here","_law_number_here"] ["_law_cell"] ⟨rfl,rfl,rfl,by decide +kernel,rfl,by decide +kernel,by decide +kernel⟩ (by decide +kernel) (by decide +kernel) rfl rfl fun _ _ _ _ _ _ _ hr C=>(j2 (sa C 2 rfl (me_bin om_mod (me_bin om_add (me_fn (al9 T) (hr.mono (by decide)) (C.g 0 rfl) (ma_cons (sv C 0 rfl) (ma_cons (sv C 1 rfl) ma_nil rfl) rfl) rfl) (me_bin om_mul me_int (me_bin om_add (sv C 1 rfl) me_int))) me_int))
  (j2 (sa C 2 rfl (me_bin om_mod (me_bin om_mul (sv C 2 rfl) me_int) me_int))
  (j3 (j5 (me_bin om_mod (me_bin om_add (me_bin om_mul (me_bin om_div (sv C 2 rfl) me_int) me_int) (sv C 2 rfl)) me_int)))))
theorem aa0 (T:Tx w K mg):Jo P w K mg base "_law_chain" 3 2 Fq:=fnC T.d_chain ["_law_script","_law_many","_law_words","_law_found","_law_k_here","_law_number_here","_law_size","_law_pair"] ["_law_mix","range"] ⟨rfl,rfl,rfl,by decide +kernel,rfl,by decide +kernel,by decide +kernel⟩ (by decide +kernel) (by decide +kernel) rfl rfl fun _ _ _ _ _ _ _ hr C=>(j2 (sa C 2 rfl (me_idx (Ja (ma_cons (ju (ma_cons (me_str ye) (ma_cons (me_str yy) ma_nil rfl) rfl)) (ma_cons (ju (ma_cons (me_str yy) (ma_cons (me_str ye) ma_nil rfl) rfl)) ma_nil rfl) rfl)) (me_bin om_mod (me_fn (ok_mix T) (hr.mono (by decide)) (C.g 0 rfl) (ma_cons (sv C 0 rfl) (ma_cons me_int ma_nil rfl) rfl) rfl) me_int) (fun _ _=>rfl)))
  (j2 (sa C 3 rfl (ju (ma_cons (me_str uk) (ma_cons (me_cmp (om_eq C.un) (me_idx (sv C 2 rfl) me_int (fun _ _=>rfl)) (me_str ye) (nomark _)) ma_nil rfl) rfl)))
  (j2 (Yx PassesOwn.never C.calm (Um (C.g 1 rfl) T.n_range (sv C 1 rfl)) (st C 4 rfl)
  (j2 (sa C 5 rfl (me_fn (ok_mix T) (hr.mono (by decide)) (C.g 0 rfl) (ma_cons (sv C 0 rfl) (ma_cons (me_bin om_add me_int (sv C 4 rfl)) ma_nil rfl) rfl) rfl))
  (j2 (sa C 6 rfl (Ja (ma_cons (ju (ma_cons (me_str Ji) (ma_cons (me_bin om_mod (me_bin om_div (sv C 5 rfl) me_int) me_int) ma_nil rfl) rfl)) (ma_cons (ju (ma_cons (me_str Ji) (ma_cons (me_bin om_mod (me_bin om_div (sv C 5 rfl) me_int) me_int) ma_nil rfl) rfl)) ma_nil rfl) rfl)))
  (j2 (sa C 7 rfl (Ja (ma_cons (ju (ma_cons (me_str Xb) (ma_cons (ju (ma_cons (me_str zl) ma_nil rfl)) (ma_cons (me_idx (sv C 6 rfl) me_int (fun _ _=>rfl)) ma_nil rfl) rfl) rfl)) (ma_cons (ju (ma_cons (me_str Zy) (ma_cons (ju (ma_cons (me_str zl) ma_nil rfl)) (ma_cons (me_idx (sv C 6 rfl) me_int (fun _ _=>rfl)) ma_nil rfl) rfl) rfl)) ma_nil rfl) rfl)))
  (j3 (sa C 3 rfl (ju (ma_cons (me_idx (sv C 2 rfl) me_int (fun _ _=>rfl)) (ma_cons (sv C 3 rfl) (ma_cons (ju (ma_cons (me_idx (sv C 2 rfl) me_int (fun _ _=>rfl)) (ma_cons (me_idx (sv C 7 rfl) (me_bin om_mod (sv C 5 rfl) me_int) (fun _ _=>rfl)) (ma_cons (me_idx (sv C 7 rfl) (me_bin Ui me_int (me_bin om_mod (sv C 5 rfl) me_int)) (fun _ _=>rfl)) ma_nil rfl) rfl) rfl)) ma_nil rfl) rfl) rfl))))))))
  (j3 (j5 (sv C 3 rfl))))))
theorem aN0 (T:Tx w K mg):Jo P w K mg base "_law_op" 1 1 aF2:=fnC T.d_op ["_law_number_here"] [] ⟨rfl,rfl,rfl,by decide +kernel,rfl,by decide +kernel,by decide +kernel⟩ (by decide +kernel) (by decide +kernel) rfl rfl fun _ _ _ _ _ _ _ hr C=>(j3 (j5 (me_idx (Ja (ma_cons (me_str w8) (ma_cons (me_str Qa) (ma_cons (me_str Qd) (ma_cons (me_str qc) (ma_cons (me_str Xa) (ma_cons (me_str xm) (ma_cons (me_str v5) (ma_cons (me_str xp) (ma_cons (me_str qb) (ma_cons (me_str V6) ma_nil rfl) rfl) rfl) rfl) rfl) rfl) rfl) rfl) rfl) rfl)) (me_bin om_mod (sv C 0 rfl) me_int) (fun _ _=>rfl))))
theorem C1 (T:Tx w K mg):∀ k,Jo P w K mg base "_law_number" (3 + k) 3 (yd k 0):=by
 intro k
 induction k with
 | zero=>exact Xt T.d_number rfl
 | succ k ih =>
  have ih0:=ih
  refine ?_
  ·show Jo P w K mg base "_law_number" (3 + k + 1) 3 (fnOf 3 (Ka (yd k)))
   exact fnC T.d_number ["_law_script","_law_base","_law_deep","_law_number_here","_law_k_here","_law_one"] ["_law_mix","_law_number","_law_op"] ⟨rfl,rfl,rfl,by decide +kernel,rfl,by decide +kernel,by decide +kernel⟩ (by decide +kernel) (by decide +kernel) rfl rfl fun _ _ _ _ _ _ _ hr C=>(j2 (sa C 3 rfl (me_fn (ok_mix T) (hr.mono (by omega)) (C.g 0 rfl) (ma_cons (sv C 0 rfl) (ma_cons (sv C 1 rfl) ma_nil rfl) rfl) rfl))
  (j2 (jv (Wq (j7 (om_eq C.un) (sv C 2 rfl) me_int (nomark _)) (xx (j7 om_lt (me_bin om_mod (sv C 3 rfl) me_int) me_int (nomark _)))).t
  (j2 (sa C 4 rfl (me_idx (Ja (ma_cons me_int (ma_cons me_int (ma_cons me_int (ma_cons me_int (ma_cons me_int (ma_cons me_int (ma_cons me_int (ma_cons me_int (ma_cons me_int (ma_cons (me_bin om_mod (sv C 3 rfl) me_int) ma_nil rfl) rfl) rfl) rfl) rfl) rfl) rfl) rfl) rfl) rfl)) (me_bin om_mod (me_bin om_div (sv C 3 rfl) me_int) me_int) (fun _ _=>rfl)))
  (j3 (j5 (me_idx (Ja (ma_cons (ju (ma_cons (me_str zl) ma_nil rfl)) (ma_cons (ju (ma_cons (me_str Ji) (ma_cons (sv C 4 rfl) ma_nil rfl) rfl)) (ma_cons (ju (ma_cons (me_str Ji) (ma_cons (sv C 4 rfl) ma_nil rfl) rfl)) ma_nil rfl) rfl) rfl)) (me_bin om_mod (me_bin om_div (sv C 3 rfl) me_int) me_int) (fun _ _=>rfl)))))
  j6)
  (j2 (jv (j7 (om_eq C.un) (me_bin om_mod (sv C 3 rfl) me_int) me_int (nomark _))
  (j3 (j5 (ju (ma_cons (me_str zm) (ma_cons (me_idx (Ja (ma_cons me_int (ma_cons me_int (ma_cons me_int ma_nil rfl) rfl) rfl)) (me_bin om_mod (me_bin om_div (sv C 3 rfl) me_int) me_int) (fun _ _=>rfl)) (ma_cons (me_fn ih0 (hr.mono (by omega)) (C.g 1 rfl) (ma_cons (sv C 0 rfl) (ma_cons (me_bin om_add (me_bin om_mul me_int (sv C 1 rfl)) me_int) (ma_cons (me_bin Ui (sv C 2 rfl) me_int) ma_nil rfl) rfl) rfl) rfl) ma_nil rfl) rfl) rfl))))
  j6)
  (j2 (sa C 5 rfl (me_fn ih0 (hr.mono (by omega)) (C.g 1 rfl) (ma_cons (sv C 0 rfl) (ma_cons (me_bin om_add (me_bin om_mul me_int (sv C 1 rfl)) me_int) (ma_cons (me_bin Ui (sv C 2 rfl) me_int) ma_nil rfl) rfl) rfl) rfl))
  (j3 (j5 (ju (ma_cons (me_fn (aN0 T) (hr.mono (by omega)) (C.g 2 rfl) (ma_cons (me_bin om_div (sv C 3 rfl) me_int) ma_nil rfl) rfl) (ma_cons (sv C 5 rfl) (ma_cons (me_fn ih0 (hr.mono (by omega)) (C.g 1 rfl) (ma_cons (sv C 0 rfl) (ma_cons (me_bin om_add (me_bin om_mul me_int (sv C 1 rfl)) me_int) (ma_cons (me_bin Ui (sv C 2 rfl) me_int) ma_nil rfl) rfl) rfl) rfl) ma_nil rfl) rfl) rfl))))))))
theorem G7 (T:Tx w K mg):Jo P w K mg base "_law_number" 11 3 Kv:=(C1 T 8)
theorem Ad (T:Tx w K mg):∀ k,Jo P w K mg base "_law_truth" (12 + k) 3 (Uv k 0):=by
 intro k
 induction k with
 | zero=>exact Xt T.d_truth rfl
 | succ k ih =>
  have ih0:=ih
  refine ?_
  ·show Jo P w K mg base "_law_truth" (12 + k + 1) 3 (fnOf 3 (Xi (Uv k)))
   exact fnC T.d_truth ["_law_script","_law_base","_law_deep","_law_number_here","_law_one","_law_test"] ["_law_mix","_law_truth","_law_number"] ⟨rfl,rfl,rfl,by decide +kernel,rfl,by decide +kernel,by decide +kernel⟩ (by decide +kernel) (by decide +kernel) rfl rfl fun _ _ _ _ _ _ _ hr C=>(j2 (sa C 3 rfl (me_fn (ok_mix T) (hr.mono (by omega)) (C.g 0 rfl) (ma_cons (sv C 0 rfl) (ma_cons (sv C 1 rfl) ma_nil rfl) rfl) rfl))
  (j2 (jv (xw (j7 G6 (sv C 2 rfl) me_int (nomark _)) (Q2 (j7 om_lt (me_bin om_mod (sv C 3 rfl) me_int) me_int (nomark _)))).t
  (j2 (sa C 4 rfl (me_fn ih0 (hr.mono (by omega)) (C.g 1 rfl) (ma_cons (sv C 0 rfl) (ma_cons (me_bin om_add (me_bin om_mul me_int (sv C 1 rfl)) me_int) (ma_cons (me_bin Ui (sv C 2 rfl) me_int) ma_nil rfl) rfl) rfl) rfl))
  (j2 (jv (j7 (om_eq C.un) (me_bin om_mod (sv C 3 rfl) me_int) me_int (nomark _))
  (j3 (j5 (ju (ma_cons (me_str xn) (ma_cons (sv C 4 rfl) ma_nil rfl) rfl))))
  j6)
  (j3 (j5 (ju (ma_cons (me_idx (Ja (ma_cons (me_str ye) (ma_cons (me_str yy) ma_nil rfl) rfl)) (me_bin Ui (me_bin om_mod (sv C 3 rfl) me_int) me_int) (fun _ _=>rfl)) (ma_cons (sv C 4 rfl) (ma_cons (me_fn ih0 (hr.mono (by omega)) (C.g 1 rfl) (ma_cons (sv C 0 rfl) (ma_cons (me_bin om_add (me_bin om_mul me_int (sv C 1 rfl)) me_int) (ma_cons (me_bin Ui (sv C 2 rfl) me_int) ma_nil rfl) rfl) rfl) rfl) ma_nil rfl) rfl) rfl))))))
  j6)
  (j2 (jv (j7 (om_eq C.un) (me_bin om_mod (me_bin om_div (sv C 3 rfl) me_int) me_int) me_int (nomark _))
  (j3 (j5 (ju (ma_cons (me_str uk) (ma_cons (me_cmp (om_eq C.un) (me_bin om_mod (me_bin om_div (sv C 3 rfl) me_int) me_int) me_int (nomark _)) ma_nil rfl) rfl))))
  j6)
  (j2 (sa C 5 rfl (me_idx (Ja (ma_cons (me_str Xb) (ma_cons (me_str Wx) (ma_cons (me_str V7) (ma_cons (me_str x9) (ma_cons (me_str gf) (ma_cons (me_str Zy) ma_nil rfl) rfl) rfl) rfl) rfl) rfl)) (me_bin om_mod (me_bin om_div (sv C 3 rfl) me_int) me_int) (fun _ _=>rfl)))
  (j3 (j5 (ju (ma_cons (sv C 5 rfl) (ma_cons (me_fn (G7 T) (hr.mono (by omega)) (C.g 2 rfl) (ma_cons (sv C 0 rfl) (ma_cons (me_bin om_add (me_bin om_mul me_int (sv C 1 rfl)) me_int) (ma_cons me_int ma_nil rfl) rfl) rfl) rfl) (ma_cons (me_fn (G7 T) (hr.mono (by omega)) (C.g 2 rfl) (ma_cons (sv C 0 rfl) (ma_cons (me_bin om_add (me_bin om_mul me_int (sv C 1 rfl)) me_int) (ma_cons me_int ma_nil rfl) rfl) rfl) rfl) ma_nil rfl) rfl) rfl))))))))
theorem a96 (T:Tx w K mg):Jo P w K mg base "_law_truth" 20 3 ax:=(Ad T 8)
theorem Yf (T:Tx w K mg):Jo P w K mg base "tasks_of_pair" 1 2 U9:=fnC T.d_p_tasks_of_pair ["tree","slot"] ["SLOTS"] ⟨rfl,rfl,rfl,by decide +kernel,rfl,by decide +kernel,by decide +kernel⟩ (by decide +kernel) (by decide +kernel) rfl rfl fun _ _ _ _ _ _ _ hr C=>(j2 (jv (j7 om_ge (sv C 1 rfl) (Jf T.c_SLOTS (C.g 0 rfl)) (nomark _))
  (j3 C6)
  j6)
  (j3 (j5 (Ja (ma_cons (ju (ma_cons (me_str Ji) (ma_cons (me_idx (sv C 0 rfl) me_int (fun _ _=>rfl)) (ma_cons (sv C 1 rfl) ma_nil rfl) rfl) rfl)) (ma_cons (ju (ma_cons (me_str Up) (ma_cons (ju (ma_cons (me_str w_keep_eq) (ma_cons (sv C 1 rfl) ma_nil rfl) rfl)) ma_nil rfl) rfl)) (ma_cons (ju (ma_cons (me_str Ji) (ma_cons (me_idx (sv C 0 rfl) me_int (fun _ _=>rfl)) (ma_cons (me_bin om_add (sv C 1 rfl) me_int) ma_nil rfl) rfl) rfl)) (ma_cons (ju (ma_cons (me_str Up) (ma_cons (ju (ma_cons (me_str w_tax_eq) ma_nil rfl)) ma_nil rfl) rfl)) (ma_cons (ju (ma_cons (me_str Up) (ma_cons (ju (ma_cons (me_str x8) (ma_cons (sv C 1 rfl) ma_nil rfl) rfl)) ma_nil rfl) rfl)) ma_nil rfl) rfl) rfl) rfl) rfl)))))
theorem qv (T:Tx w K mg):Jo P w K mg base "tasks_of_number" 2 2 Uf:=fnC T.d_p_tasks_of_number ["tree","slot"] ["OPS","tasks_of_pair"] ⟨rfl,rfl,rfl,by decide +kernel,rfl,by decide +kernel,by decide +kernel⟩ (by decide +kernel) (by decide +kernel) rfl rfl fun _ _ _ _ _ _ _ hr C=>(j2 (jv (j7 (om_eq C.un) (me_idx (sv C 0 rfl) me_int (fun _ _=>rfl)) (me_str Ji) (nomark _))
  (j3 (j5 (Ja (ma_cons (ju (ma_cons (me_str Up) (ma_cons (ju (ma_cons (me_str Ev) (ma_cons (me_idx (sv C 0 rfl) me_int (fun _ _=>rfl)) ma_nil rfl) rfl)) ma_nil rfl) rfl)) ma_nil rfl))))
  j6)
  (j2 (jv (j7 (om_eq C.un) (me_idx (sv C 0 rfl) me_int (fun _ _=>rfl)) (me_str zm) (nomark _))
  (j3 (j5 (Ja (ma_cons (ju (ma_cons (me_str Ji) (ma_cons (me_idx (sv C 0 rfl) me_int (fun _ _=>rfl)) (ma_cons (sv C 1 rfl) ma_nil rfl) rfl) rfl)) (ma_cons (ju (ma_cons (me_str Up) (ma_cons (ju (ma_cons (me_str w_tax_eq) ma_nil rfl)) ma_nil rfl) rfl)) (ma_cons (ju (ma_cons (me_str Up) (ma_cons (ju (ma_cons (me_str zm) (ma_cons (me_idx (sv C 0 rfl) me_int (fun _ _=>rfl)) (ma_cons (me_str a36) (ma_cons me_int ma_nil rfl) rfl) rfl) rfl)) ma_nil rfl) rfl)) ma_nil rfl) rfl) rfl))))
  j6)
  (j2 (jv (j7 (Uk C.un) (me_idx (sv C 0 rfl) me_int (fun _ _=>rfl)) (Jf T.c_OPS (C.g 0 rfl)) rfl)
  (j3 (j5 (me_bin om_add (me_fn (Yf T) (hr.mono (by decide)) (C.g 1 rfl) (ma_cons (sv C 0 rfl) (ma_cons (sv C 1 rfl) ma_nil rfl) rfl) rfl) (Ja (ma_cons (ju (ma_cons (me_str Up) (ma_cons (ju (ma_cons (me_str Eu) (ma_cons (me_idx (sv C 0 rfl) me_int (fun _ _=>rfl)) ma_nil rfl) rfl)) ma_nil rfl) rfl)) ma_nil rfl)))))
  j6)
  (j3 (j5 (Ja (ma_cons (ju (ma_cons (me_str Up) (ma_cons (ju (ma_cons (me_str zl) ma_nil rfl)) ma_nil rfl) rfl)) ma_nil rfl)))))))
theorem X7 (T:Tx w K mg):Jo P w K mg base "step_of_test" 1 3 Y0:=fnC T.d_p_step_of_test ["comparison","to_yes","to_no","row"] ["TEST_OF"] ⟨rfl,rfl,rfl,by decide +kernel,rfl,by decide +kernel,by decide +kernel⟩ (by decide +kernel) (by decide +kernel) rfl rfl fun _ _ _ _ _ _ _ hr C=>(j2 (sa C 3 rfl (dl T.c_TEST_OF (C.g 0 rfl) (sv C 0 rfl) (fun _ _=>rfl)))
  (j2 (jv (Jg (me_idx (sv C 3 rfl) me_int (fun _ _=>rfl)) (fun _=>rfl))
  (j3 (j5 (ju (ma_cons (me_str zj) (ma_cons (me_idx (sv C 3 rfl) me_int (fun _ _=>rfl)) (ma_cons (sv C 1 rfl) (ma_cons (sv C 2 rfl) ma_nil rfl) rfl) rfl) rfl))))
  j6)
  (j3 (j5 (ju (ma_cons (me_str zj) (ma_cons (me_idx (sv C 3 rfl) me_int (fun _ _=>rfl)) (ma_cons (sv C 2 rfl) (ma_cons (sv C 1 rfl) ma_nil rfl) rfl) rfl) rfl))))))
theorem Wd (T:Tx w K mg):Jo P w K mg base "make_truth" 2 5 Yc:=fnC T.d_p_make_truth ["tree","yes","no","made","waiting"] ["len","step_of_test","tasks_of_pair"] ⟨rfl,rfl,rfl,by decide +kernel,rfl,by decide +kernel,by decide +kernel⟩ (by decide +kernel) (by decide +kernel) rfl rfl fun _ _ _ _ _ _ _ hr C=>(j3 (jv (j7 (om_eq C.un) (me_idx (sv C 0 rfl) me_int (fun _ _=>rfl)) (me_str uk) (nomark _))
  (j3 (ud (ya (sv C 3 rfl) (ma_cons (ju (ma_cons (me_str zk) (ma_cons (me_bin Ui (me_callB cm_len (C.g 0 rfl) T.n_len PySem.boot_len (ma_cons (sv C 3 rfl) ma_nil rfl)) (zw (Jg (me_idx (sv C 0 rfl) me_int (fun _ _=>rfl)) (fun _=>rfl)) (sv C 1 rfl) (sv C 2 rfl))) ma_nil rfl) rfl)) ma_nil rfl) (fun _ _=>rfl))))
  (j3 (jv (j7 (om_eq C.un) (me_idx (sv C 0 rfl) me_int (fun _ _=>rfl)) (me_str xn) (nomark _))
  (j3 (ud (ya (sv C 4 rfl) (ma_cons (ju (ma_cons (me_str uk) (ma_cons (me_idx (sv C 0 rfl) me_int (fun _ _=>rfl)) (ma_cons (sv C 2 rfl) (ma_cons (sv C 1 rfl) ma_nil rfl) rfl) rfl) rfl)) ma_nil rfl) (fun _ _=>rfl))))
  (j3 (jv (j7 (Uk C.un) (me_idx (sv C 0 rfl) me_int (fun _ _=>rfl)) (ju (ma_cons (me_str ye) (ma_cons (me_str yy) ma_nil rfl) rfl)) rfl)
  (j3 (ud (wq (sv C 4 rfl) (ma_cons (Ja (ma_cons (ju (ma_cons (me_str c6) (ma_cons (sv C 0 rfl) (ma_cons (sv C 1 rfl) (ma_cons (sv C 2 rfl) ma_nil rfl) rfl) rfl) rfl)) (ma_cons (ju (ma_cons (me_str uk) (ma_cons (me_idx (sv C 0 rfl) me_int (fun _ _=>rfl)) (ma_cons (sv C 1 rfl) (ma_cons (sv C 2 rfl) ma_nil rfl) rfl) rfl) rfl)) ma_nil rfl) rfl)) ma_nil rfl) (fun _ _=>rfl))))
  (j2 (ud (ya (sv C 3 rfl) (ma_cons (me_fn (X7 T) (hr.mono (by decide)) (C.g 1 rfl) (ma_cons (me_idx (sv C 0 rfl) me_int (fun _ _=>rfl)) (ma_cons (me_bin Ui (me_callB cm_len (C.g 0 rfl) T.n_len PySem.boot_len (ma_cons (sv C 3 rfl) ma_nil rfl)) (sv C 1 rfl)) (ma_cons (me_bin Ui (me_callB cm_len (C.g 0 rfl) T.n_len PySem.boot_len (ma_cons (sv C 3 rfl) ma_nil rfl)) (sv C 2 rfl)) ma_nil rfl) rfl) rfl) rfl) ma_nil rfl) (fun _ _=>rfl)))
  (j3 (ud (wq (sv C 4 rfl) (ma_cons (me_fn (Yf T) (hr.mono (by decide)) (C.g 2 rfl) (ma_cons (sv C 0 rfl) (ma_cons me_int ma_nil rfl) rfl) rfl) ma_nil rfl) (fun _ _=>rfl)))))))))))
theorem xy (T:Tx w K mg):Jo P w K mg base "task_of_first" 1 4 yn:=fnC T.d_p_task_of_first ["tree","yes","no","second"] [] ⟨rfl,rfl,rfl,by decide +kernel,rfl,by decide +kernel,by decide +kernel⟩ (by decide +kernel) (by decide +kernel) rfl rfl fun _ _ _ _ _ _ _ hr C=>(j2 (jv (j7 (om_eq C.un) (me_idx (sv C 0 rfl) me_int (fun _ _=>rfl)) (me_str ye) (nomark _))
  (j3 (j5 (ju (ma_cons (me_str uk) (ma_cons (me_idx (sv C 0 rfl) me_int (fun _ _=>rfl)) (ma_cons (sv C 3 rfl) (ma_cons (sv C 2 rfl) ma_nil rfl) rfl) rfl) rfl))))
  j6)
  (j3 (j5 (ju (ma_cons (me_str uk) (ma_cons (me_idx (sv C 0 rfl) me_int (fun _ _=>rfl)) (ma_cons (sv C 1 rfl) (ma_cons (sv C 3 rfl) ma_nil rfl) rfl) rfl) rfl)))))
theorem gp (T:Tx w K mg):Jo P w K mg base "compiled" 3 1 Yq:=fnC T.d_p_compiled ["tree","made","waiting","task"] ["len","tasks_of_number","make_truth","task_of_first","list","reversed"] ⟨rfl,rfl,rfl,by decide +kernel,rfl,by decide +kernel,by decide +kernel⟩ (by decide +kernel) (by decide +kernel) rfl rfl fun _ _ _ _ _ _ _ hr C=>(j2 (sa C 1 rfl (vq (ma_cons (ju (ma_cons (me_str zn) (ma_cons me_int ma_nil rfl) rfl)) (ma_cons (ju (ma_cons (me_str zn) (ma_cons me_int ma_nil rfl) rfl)) ma_nil rfl) rfl)))
  (j2 (sa C 2 rfl (vq (ma_cons (ju (ma_cons (me_str uk) (ma_cons (sv C 0 rfl) (ma_cons me_int (ma_cons me_int ma_nil rfl) rfl) rfl) rfl)) ma_nil rfl)))
  (j2 (dw 3000 PassesOwn.never (j7 G6 (me_callB cm_len (C.g 0 rfl) T.n_len PySem.boot_len (ma_cons (sv C 2 rfl) ma_nil rfl)) me_int (nomark _))
  (j2 (sa C 3 rfl (aC6 (sv C 2 rfl)))
  (j3 (jv (j7 (om_eq C.un) (me_idx (sv C 3 rfl) me_int (fun _ _=>rfl)) (me_str Up) (nomark _))
  (j3 (ud (ya (sv C 1 rfl) (ma_cons (me_idx (sv C 3 rfl) me_int (fun _ _=>rfl)) ma_nil rfl) (fun _ _=>rfl))))
  (j3 (jv (j7 (om_eq C.un) (me_idx (sv C 3 rfl) me_int (fun _ _=>rfl)) (me_str Ji) (nomark _))
  (j3 (ud (wq (sv C 2 rfl) (ma_cons (me_fn (qv T) (hr.mono (by decide)) (C.g 1 rfl) (ma_cons (me_idx (sv C 3 rfl) me_int (fun _ _=>rfl)) (ma_cons (me_idx (sv C 3 rfl) me_int (fun _ _=>rfl)) ma_nil rfl) rfl) rfl) ma_nil rfl) (fun _ _=>rfl))))
  (j3 (jv (j7 (om_eq C.un) (me_idx (sv C 3 rfl) me_int (fun _ _=>rfl)) (me_str uk) (nomark _))
  (j3 (ud (me_fn (Wd T) (hr.mono (by decide)) (C.g 2 rfl) (ma_cons (me_idx (sv C 3 rfl) me_int (fun _ _=>rfl)) (ma_cons (me_idx (sv C 3 rfl) me_int (fun _ _=>rfl)) (ma_cons (me_idx (sv C 3 rfl) me_int (fun _ _=>rfl)) (ma_cons (sv C 1 rfl) (ma_cons (sv C 2 rfl) ma_nil rfl) rfl) rfl) rfl) rfl) rfl)))
  (j3 (ud (ya (sv C 2 rfl) (ma_cons (me_fn (xy T) (hr.mono (by decide)) (C.g 3 rfl) (ma_cons (me_idx (sv C 3 rfl) me_int (fun _ _=>rfl)) (ma_cons (me_idx (sv C 3 rfl) me_int (fun _ _=>rfl)) (ma_cons (me_idx (sv C 3 rfl) me_int (fun _ _=>rfl)) (ma_cons (me_callB cm_len (C.g 0 rfl) T.n_len PySem.boot_len (ma_cons (sv C 1 rfl) ma_nil rfl)) ma_nil rfl) rfl) rfl) rfl) rfl) ma_nil rfl) (fun _ _=>rfl))))))))))))
  (j3 (j5 (C9 C.calm (C.g 4 rfl) T.n_list (C.g 5 rfl) T.n_reversed (sv C 1 rfl)))))))
theorem gr (T:Tx w K mg):Jo P w K mg base "no_slots" 1 0 Xs:=fnC T.d_p_no_slots [] ["SLOTS"] ⟨rfl,rfl,rfl,by decide +kernel,rfl,by decide +kernel,by decide +kernel⟩ (by decide +kernel) (by decide +kernel) rfl rfl fun _ _ _ _ _ _ _ hr C=>(j3 (j5 (aC5 (ma_cons X9 ma_nil rfl) (Jf T.c_SLOTS (C.g 0 rfl)))))
theorem Y3 (T:Tx w K mg):Jo P w K mg base "is_whole" 1 1 ym:=fnC T.d_p_is_whole ["thing"] ["isinstance","int","bool"] ⟨rfl,rfl,rfl,by decide +kernel,rfl,by decide +kernel,by decide +kernel⟩ (by decide +kernel) (by decide +kernel) rfl rfl fun _ _ _ _ _ _ _ hr C=>(j3 (j5 (me_and (xu .int PyProof.Rows.boot_int (C.g 0 rfl) T.n_isinstance (C.g 1 rfl) T.n_int (sv C 0 rfl)) (me_one (C8 (xu .bool M.boot_bool (C.g 0 rfl) T.n_isinstance (C.g 2 rfl) T.n_bool (sv C 0 rfl)))))))
theorem Vc (T:Tx w K mg):Jo P w K mg base "is_number" 2 1 Qf:=fnC T.d_p_is_number ["thing"] ["is_whole","ROUND"] ⟨rfl,rfl,rfl,by decide +kernel,rfl,by decide +kernel,by decide +kernel⟩ (by decide +kernel) (by decide +kernel) rfl rfl fun _ _ _ _ _ _ _ hr C=>(j3 (j5 (me_and (me_fn (Y3 T) (hr.mono (by decide)) (C.g 0 rfl) (ma_cons (sv C 0 rfl) ma_nil rfl) rfl) (me_one (kq Vd om_lt me_int (sv C 0 rfl) (Jf T.c_ROUND (C.g 1 rfl)) rfl)))))
theorem ok_p_is_part (T:Tx w K mg):Jo P w K mg base "is_part" 3 2 Ur:=fnC T.d_p_is_part ["kind","part"] ["is_number","is_whole","SIZES","SLOTS","FARTHEST","BASES","OPS","TESTS"] ⟨rfl,rfl,rfl,by decide +kernel,rfl,by decide +kernel,by decide +kernel⟩ (by decide +kernel) (by decide +kernel) rfl rfl fun _ _ _ _ _ _ _ hr C=>(j2 (jv (j7 (om_eq C.un) (sv C 0 rfl) (me_str Ji) (nomark _))
  (j3 (j5 (me_fn (Vc T) (hr.mono (by decide)) (C.g 0 rfl) (ma_cons (sv C 1 rfl) ma_nil rfl) rfl)))
  j6)
  (j2 (jv (j7 (om_eq C.un) (sv C 0 rfl) (me_str Ax) (nomark _))
  (j3 (j5 (me_and (me_fn (Y3 T) (hr.mono (by decide)) (C.g 1 rfl) (ma_cons (sv C 1 rfl) ma_nil rfl) rfl) (me_one (me_cmp (Uk C.un) (sv C 1 rfl) (Jf T.c_SIZES (C.g 2 rfl)) rfl)))))
  j6)
  (j2 (jv (j7 (om_eq C.un) (sv C 0 rfl) (me_str Ay) (nomark _))
  (j3 (j5 (me_and (me_fn (Y3 T) (hr.mono (by decide)) (C.g 1 rfl) (ma_cons (sv C 1 rfl) ma_nil rfl) rfl) (me_one (kq Vd om_lt me_int (sv C 1 rfl) (Jf T.c_SLOTS (C.g 3 rfl)) rfl)))))
  j6)
  (j2 (jv (j7 (om_eq C.un) (sv C 0 rfl) (me_str gx) (nomark _))
  (j3 (j5 (me_and (me_fn (Y3 T) (hr.mono (by decide)) (C.g 1 rfl) (ma_cons (sv C 1 rfl) ma_nil rfl) rfl) (me_one (kq Vd Vd me_int (sv C 1 rfl) (Jf T.c_FARTHEST (C.g 4 rfl)) rfl)))))
  j6)
  (j2 (jv (j7 (om_eq C.un) (sv C 0 rfl) (me_str Aw) (nomark _))
  (j3 (j5 (me_cmp (Uk C.un) (sv C 1 rfl) (Jf T.c_BASES (C.g 5 rfl)) rfl)))
  j6)
  (j2 (jv (j7 (om_eq C.un) (sv C 0 rfl) (me_str ag0) (nomark _))
  (j3 (j5 (me_cmp (Uk C.un) (sv C 1 rfl) (Jf T.c_OPS (C.g 6 rfl)) rfl)))
  j6)
  (j3 (j5 (me_cmp (Uk C.un) (sv C 1 rfl) (Jf T.c_TESTS (C.g 7 rfl)) rfl)))))))))
theorem Qt (T:Tx w K mg):Jo P w K mg base "can_be_done_by" 1 2 uy:=fnC T.d_p_can_be_done_by ["op","k"] ["DIVIDING","SHIFTING","WIDTH"] ⟨rfl,rfl,rfl,by decide +kernel,rfl,by decide +kernel,by decide +kernel⟩ (by decide +kernel) (by decide +kernel) rfl rfl fun _ _ _ _ _ _ _ hr C=>(j2 (jv (j7 (Uk C.un) (sv C 0 rfl) (Jf T.c_DIVIDING (C.g 0 rfl)) rfl)
  (j3 (j5 (me_cmp (Ql C.un) (sv C 1 rfl) me_int (nomark _))))
  j6)
  (j2 (jv (j7 (Uk C.un) (sv C 0 rfl) (Jf T.c_SHIFTING (C.g 1 rfl)) rfl)
  (j3 (j5 (me_cmp om_lt (sv C 1 rfl) (Jf T.c_WIDTH (C.g 2 rfl)) (nomark _))))
  j6)
  (j3 (j5 X9))))
theorem fy (T:Tx w K mg):Jo P w K mg base "is_step" 4 1 jc:=fnC T.d_p_is_step ["thing","kinds"] ["isinstance","tuple","len","str","PARTS","zip","all","can_be_done_by"] ⟨rfl,rfl,rfl,by decide +kernel,rfl,by decide +kernel,by decide +kernel⟩ (by decide +kernel) (by decide +kernel) rfl rfl fun _ _ _ _ _ _ _ hr C=>(j2 (jv (Wq (zu (Jg (xu .tuple M.boot_tuple (C.g 0 rfl) T.n_isinstance (C.g 1 rfl) T.n_tuple (sv C 0 rfl)) (fun _=>rfl))) (xx (j7 (om_eq C.un) (me_callB cm_len (C.g 2 rfl) T.n_len PySem.boot_len (ma_cons (sv C 0 rfl) ma_nil rfl)) me_int (nomark _)))).t
  (j3 (j5 X9))
  j6)
  (j2 (jv (Wq (zu (Jg (xu .str M.boot_str (C.g 0 rfl) T.n_isinstance (C.g 3 rfl) T.n_str (me_idx (sv C 0 rfl) me_int (fun _ _=>rfl))) (fun _=>rfl))) (xx (C5 T.c_PARTS (C.g 4 rfl) (me_idx (sv C 0 rfl) me_int (fun _ _=>rfl))))).t
  (j3 (j5 X9))
  j6)
  (j2 (sa C 1 rfl (dl T.c_PARTS (C.g 4 rfl) (me_idx (sv C 0 rfl) me_int (fun _ _=>rfl)) (fun _ _=>rfl)))
  (j2 (jv (j7 (Ql C.un) (me_callB cm_len (C.g 2 rfl) T.n_len PySem.boot_len (ma_cons (sv C 0 rfl) ma_nil rfl)) (me_bin om_add me_int (me_callB cm_len (C.g 2 rfl) T.n_len PySem.boot_len (ma_cons (sv C 1 rfl) ma_nil rfl))) (nomark _))
  (j3 (j5 X9))
  j6)
  (j2 (jv (zu (Jg (me_callB (ae5 C.calm) (C.g 6 rfl) T.n_all PyProof.Rows.boot_all (ma_cons (Zt (T:=["kind","part"]) (caps:=[]) (ix:=[]) (ub (show Xk _ (defScope qz)=true by decide +kernel)) (Zq C.hN (by decide +kernel)) C.calm (aa7 true true (C.g 5 rfl) T.n_zip (sv C 1 rfl) (dm (sv C 0 rfl) (fj me_int) am4)) (fun C2 s2 H2 ex2=>have B:Kf _ ["kind","part"] [] ["is_part"]=true:=(by decide +kernel);have C:=Kh (C:=C2) (s:=s2) (H:=H2) (ex:=ex2) C.calm C.un (by decide +kernel) B;And.intro (mt_tup C.calm (mts_cons (stb C 0 rfl (blk_loc B (j:=0) rfl)) (mts_cons (stb C 1 rfl (blk_loc B (j:=1) rfl)) vw))) (And.intro mifs_nil (me_fn (ok_p_is_part T) (hr.mono (by decide)) (C.g 0 rfl) (ma_cons (svb C 0 rfl) (ma_cons (svb C 1 rfl) ma_nil rfl) rfl) rfl)))) ma_nil rfl)) (fun _=>rfl)))
  (j3 (j5 X9))
  j6)
  (j3 (j5 (me_or (me_cmp (Ql C.un) (me_idx (sv C 0 rfl) me_int (fun _ _=>rfl)) (me_str b0) (nomark _)) (me_one (me_fn (Qt T) (hr.mono (by decide)) (C.g 7 rfl) (ma_cons (me_idx (sv C 0 rfl) me_int (fun _ _=>rfl)) (ma_cons (me_idx (sv C 0 rfl) me_int (fun _ _=>rfl)) ma_nil rfl) rfl) rfl))))))))))
theorem Qu (T:Tx w K mg):Jo P w K mg base "lacks_its_slot" 1 2 uc:=fnC T.d_p_lacks_its_slot ["step","slots"] [] ⟨rfl,rfl,rfl,by decide +kernel,rfl,by decide +kernel,by decide +kernel⟩ (by decide +kernel) (by decide +kernel) rfl rfl fun _ _ _ _ _ _ _ hr C=>(j3 (j5 (me_and (me_cmp (om_eq C.un) (me_idx (sv C 0 rfl) me_int (fun _ _=>rfl)) (me_str x8) (nomark _)) (me_one (C8 (me_idx (sv C 1 rfl) (me_idx (sv C 0 rfl) me_int (fun _ _=>rfl)) (fun _ _=>rfl)))))))
theorem Wc (T:Tx w K mg):Jo P w K mg base "goals_from" 1 2 yk:=fnC T.d_p_goals_from ["place","step","after"] [] ⟨rfl,rfl,rfl,by decide +kernel,rfl,by decide +kernel,by decide +kernel⟩ (by decide +kernel) (by decide +kernel) rfl rfl fun _ _ _ _ _ _ _ hr C=>(j2 (sa C 2 rfl (me_bin om_add (sv C 0 rfl) me_int))
  (j2 (jv (j7 (Uk C.un) (me_idx (sv C 1 rfl) me_int (fun _ _=>rfl)) (ju (ma_cons (me_str zn) (ma_cons (me_str Qb) ma_nil rfl) rfl)) rfl)
  (j3 (j5 (Ja ma_nil)))
  j6)
  (j2 (jv (j7 (om_eq C.un) (me_idx (sv C 1 rfl) me_int (fun _ _=>rfl)) (me_str zk) (nomark _))
  (j3 (j5 (Ja (ma_cons (me_bin om_add (sv C 2 rfl) (me_idx (sv C 1 rfl) me_int (fun _ _=>rfl))) ma_nil rfl))))
  j6)
  (j2 (jv (j7 (Uk C.un) (me_idx (sv C 1 rfl) me_int (fun _ _=>rfl)) (ju (ma_cons (me_str v7) (ma_cons (me_str zj) ma_nil rfl) rfl)) rfl)
  (j3 (j5 (Ja (ma_cons (me_bin om_add (sv C 2 rfl) (me_idx (sv C 1 rfl) (wr me_int) (fun _ _=>rfl))) (ma_cons (me_bin om_add (sv C 2 rfl) (me_idx (sv C 1 rfl) (wr me_int) (fun _ _=>rfl))) ma_nil rfl) rfl))))
  j6)
  (j3 (j5 (Ja (ma_cons (sv C 2 rfl) ma_nil rfl))))))))
theorem fx (T:Tx w K mg):Jo P w K mg base "hand_on" 1 3 zv:=fnC T.d_p_hand_on ["kept","goals","slots","goal","before"] ["zip"] ⟨rfl,rfl,rfl,by decide +kernel,rfl,by decide +kernel,by decide +kernel⟩ (by decide +kernel) (by decide +kernel) rfl rfl fun _ _ _ _ _ _ _ hr C=>(j3 (Yx PassesOwn.never C.calm (Q3 (sv C 1 rfl)) (st C 3 rfl)
  (j2 (sa C 4 rfl (ab1 C.un (sv C 0 rfl) (sv C 3 rfl) (sv C 2 rfl) ⟨rfl,rfl,rfl,rfl⟩))
  (j3 (fk C.un (sv C 0 rfl) (sv C 3 rfl) (Zt (T:=["one","other"]) (caps:=[]) (ix:=[]) (ub (show Xk _ (defScope qy)=true by decide +kernel)) (Zq C.hN (by decide +kernel)) C.calm (aa7 false false (C.g 0 rfl) T.n_zip (sv C 4 rfl) (sv C 2 rfl)) (fun C2 s2 H2 ex2=>have B:Kf _ ["one","other"] [] []=true:=(by decide +kernel);have C:=Kh (C:=C2) (s:=s2) (H:=H2) (ex:=ex2) C.calm C.un (by decide +kernel) B;And.intro (mt_tup C.calm (mts_cons (stb C 0 rfl (blk_loc B (j:=0) rfl)) (mts_cons (stb C 1 rfl (blk_loc B (j:=1) rfl)) vw))) (And.intro mifs_nil (me_and (svb C 0 rfl) (me_one (svb C 1 rfl)))))))))))
theorem wv (T:Tx w K mg):Jo P w K mg base "kept_behind" 1 2 Ua:=fnC T.d_p_kept_behind ["step","slots"] ["enumerate"] ⟨rfl,rfl,rfl,by decide +kernel,rfl,by decide +kernel,by decide +kernel⟩ (by decide +kernel) (by decide +kernel) rfl rfl fun _ _ _ _ _ _ _ hr C=>(j2 (jv (j7 (Ql C.un) (me_idx (sv C 0 rfl) me_int (fun _ _=>rfl)) (me_str w_keep_eq) (nomark _))
  (j3 (j5 (sv C 1 rfl)))
  j6)
  (j3 (j5 (Zt (T:=["slot","kept"]) (caps:=["step"]) (ix:=[0]) (ub (show Xk _ (defScope Yz)=true by decide +kernel)) (Zq C.hN (by decide +kernel)) C.calm (Bt (C.g 0 rfl) T.n_enumerate (sv C 1 rfl)) (fun C2 s2 H2 ex2=>have B:Kf _ ["slot","kept"] ["step"] []=true:=(by decide +kernel);have C:=Kh (C:=C2) (s:=s2) (H:=H2) (ex:=ex2) C.calm C.un (by decide +kernel) B;And.intro (mt_tup C.calm (mts_cons (stb C 0 rfl (blk_loc B (j:=0) rfl)) (mts_cons (stb C 1 rfl (blk_loc B (j:=1) rfl)) vw))) (And.intro mifs_nil (me_or (svb C 1 rfl) (me_one (me_cmp (om_eq C.un) (svb C 0 rfl) (me_idx (svb C 2 rfl) me_int (fun _ _=>rfl)) (nomark _))))))))))
theorem Zv (T:Tx w K mg):Jo P w K mg base "first_wrong_place" 5 1 uw:=fnC T.d_p_first_wrong_place ["code","kept","place","step","goals"] ["len","MOST_STEPS","no_slots","enumerate","is_step","lacks_its_slot","goals_from","any","kept_behind","hand_on"] ⟨rfl,rfl,rfl,by decide +kernel,rfl,by decide +kernel,by decide +kernel⟩ (by decide +kernel) (by decide +kernel) rfl rfl fun _ _ _ _ _ _ _ hr C=>(j2 (jv (zu (aa6 Vd Vd me_int (me_callB cm_len (C.g 0 rfl) T.n_len PySem.boot_len (ma_cons (sv C 0 rfl) ma_nil rfl)) (Jf T.c_MOST_STEPS (C.g 1 rfl)) rfl))
  (j3 (j5 me_int))
  j6)
  (j2 (sa C 1 rfl (Bs (a02 (aC8 (gr T) (hr.mono (by decide)) (C.g 2 rfl)) vt) (by decide) rfl rfl (by intro h;cases h) (by decide)))
  (j2 (Yx PassesOwn.never C.calm (Bt (C.g 3 rfl) T.n_enumerate (sv C 0 rfl)) (mt_tup C.calm (mts_cons (st C 2 rfl) (mts_cons (st C 3 rfl) vw)))
  (j2 (jv (zu (Jg (me_fn (fy T) (hr.mono (by decide)) (C.g 4 rfl) (ma_cons (sv C 3 rfl) ma_nil rfl) rfl) (fun _=>rfl)))
  (j3 (j5 (sv C 2 rfl)))
  j6)
  (j2 (jv (xw (aa5 C.un (sv C 2 rfl) (sv C 1 rfl) rfl) (Q2 (Jg (me_fn (Qu T) (hr.mono (by decide)) (C.g 5 rfl) (ma_cons (sv C 3 rfl) (ma_cons (Q4 C.un (sv C 1 rfl) (sv C 2 rfl) (fun _ _=>rfl)) ma_nil rfl) rfl) rfl) (fun _=>rfl)))).t
  (j3 (j5 (sv C 2 rfl)))
  j6)
  (j2 (sa C 4 rfl (me_fn (Wc T) (hr.mono (by decide)) (C.g 6 rfl) (ma_cons (sv C 2 rfl) (ma_cons (sv C 3 rfl) ma_nil rfl) rfl) rfl))
  (j2 (jv (Jg (me_callB (aG4 C.calm) (C.g 7 rfl) T.n_any PyProof.Rows.boot_any (ma_cons (Zt (T:=["goal"]) (caps:=["code"]) (ix:=[0]) (ub (show Xk _ (defScope U2)=true by decide +kernel)) (Zq C.hN (by decide +kernel)) C.calm (Q3 (sv C 4 rfl)) (fun C2 s2 H2 ex2=>have B:Kf _ ["goal"] ["code"] ["len"]=true:=(by decide +kernel);have C:=Kh (C:=C2) (s:=s2) (H:=H2) (ex:=ex2) C.calm C.un (by decide +kernel) B;And.intro (stb C 0 rfl (blk_loc B (j:=0) rfl)) (And.intro mifs_nil (me_cmp om_ge (svb C 0 rfl) (me_callB cm_len (C.g 0 rfl) T.n_len PySem.boot_len (ma_cons (svb C 1 rfl) ma_nil rfl)) (nomark _))))) ma_nil rfl)) (fun _=>rfl))
  (j3 (j5 (sv C 2 rfl)))
  j6)
  (j3 (jv (aa5 C.un (sv C 2 rfl) (sv C 1 rfl) rfl)
  (j3 (ud (me_fn (fx T) (hr.mono (by decide)) (C.g 9 rfl) (ma_cons (sv C 1 rfl) (ma_cons (sv C 4 rfl) (ma_cons (me_fn (wv T) (hr.mono (by decide)) (C.g 8 rfl) (ma_cons (sv C 3 rfl) (ma_cons (Q4 C.un (sv C 1 rfl) (sv C 2 rfl) (fun _ _=>rfl)) ma_nil rfl) rfl) rfl) ma_nil rfl) rfl) rfl) rfl)))
  j6)))))))
  (j3 (j5 zt)))))
theorem Vb (T:Tx w K mg):Jo P w K mg base "is_let_in" 6 1 Uc:=fnC T.d_p_is_let_in ["code"] ["first_wrong_place"] ⟨rfl,rfl,rfl,by decide +kernel,rfl,by decide +kernel,by decide +kernel⟩ (by decide +kernel) (by decide +kernel) rfl rfl fun _ _ _ _ _ _ _ hr C=>(j3 (j5 (aC7 (me_fn (Zv T) (hr.mono (by decide)) (C.g 0 rfl) (ma_cons (sv C 0 rfl) ma_nil rfl) rfl))))
theorem k9 (T:Tx w K mg):Jo P w K mg base "_law_goals" 1 2 Yp:=fnC T.d_goals ["_law_step_here","_law_at"] [] ⟨rfl,rfl,rfl,by decide +kernel,rfl,by decide +kernel,by decide +kernel⟩ (by decide +kernel) (by decide +kernel) rfl rfl fun _ _ _ _ _ _ _ hr C=>(j2 (jv (j7 (Uk C.un) (me_idx (sv C 0 rfl) me_int (fun _ _=>rfl)) (ju (ma_cons (me_str zn) (ma_cons (me_str Qb) ma_nil rfl) rfl)) rfl)
  (j3 (j5 (Ja ma_nil)))
  j6)
  (j2 (jv (j7 (om_eq C.un) (me_idx (sv C 0 rfl) me_int (fun _ _=>rfl)) (me_str zk) (nomark _))
  (j3 (j5 (Ja (ma_cons (me_bin om_add (me_bin om_add (sv C 1 rfl) me_int) (me_idx (sv C 0 rfl) me_int (fun _ _=>rfl))) ma_nil rfl))))
  j6)
  (j2 (jv (j7 (Uk C.un) (me_idx (sv C 0 rfl) me_int (fun _ _=>rfl)) (ju (ma_cons (me_str v7) (ma_cons (me_str zj) ma_nil rfl) rfl)) rfl)
  (j3 (j5 (Ja (ma_cons (me_bin om_add (me_bin om_add (sv C 1 rfl) me_int) (me_idx (sv C 0 rfl) (wr me_int) (fun _ _=>rfl))) (ma_cons (me_bin om_add (me_bin om_add (sv C 1 rfl) me_int) (me_idx (sv C 0 rfl) (wr me_int) (fun _ _=>rfl))) ma_nil rfl) rfl))))
  j6)
  (j3 (j5 (Ja (ma_cons (me_bin om_add (sv C 1 rfl) me_int) ma_nil rfl)))))))
theorem a97 (T:Tx w K mg):Jo P w K mg base "_law_there" 2 1 Fs:=fnC T.d_there ["_law_code_here","_law_found","_law_at","_law_goal"] ["len","range","_law_goals"] ⟨rfl,rfl,rfl,by decide +kernel,rfl,by decide +kernel,by decide +kernel⟩ (by decide +kernel) (by decide +kernel) rfl rfl fun _ _ _ _ _ _ _ hr C=>(j2 (sa C 1 rfl (vq (ma_cons me_int ma_nil rfl)))
  (j2 (Yx PassesOwn.never C.calm (Um (C.g 1 rfl) T.n_range (me_callB cm_len (C.g 0 rfl) T.n_len PySem.boot_len (ma_cons (sv C 0 rfl) ma_nil rfl))) (st C 2 rfl)
  (j3 (jv (j7 (Uk C.un) (sv C 2 rfl) (sv C 1 rfl) rfl)
  (j3 (Yx PassesOwn.never C.calm (Q3 (me_fn (k9 T) (hr.mono (by decide)) (C.g 2 rfl) (ma_cons (me_idx (sv C 0 rfl) (sv C 2 rfl) (fun _ _=>rfl)) (ma_cons (sv C 2 rfl) ma_nil rfl) rfl) rfl)) (st C 3 rfl)
  (j3 (jv (j7 (Ve C.un) (sv C 3 rfl) (sv C 1 rfl) rfl)
  (j3 (ud (ya (sv C 1 rfl) (ma_cons (sv C 3 rfl) ma_nil rfl) (fun _ _=>rfl))))
  j6))))
  j6)))
  (j3 (j5 (sv C 1 rfl)))))
theorem a95 (T:Tx w K mg):Jo P w K mg base "_law_unset" 2 2 vn:=fnC T.d_unset ["_law_code_here","_law_slot","_law_found","_law_at","_law_goal"] ["len","range","_law_goals"] ⟨rfl,rfl,rfl,by decide +kernel,rfl,by decide +kernel,by decide +kernel⟩ (by decide +kernel) (by decide +kernel) rfl rfl fun _ _ _ _ _ _ _ hr C=>(j2 (sa C 2 rfl (vq (ma_cons me_int ma_nil rfl)))
  (j2 (Yx PassesOwn.never C.calm (Um (C.g 1 rfl) T.n_range (me_callB cm_len (C.g 0 rfl) T.n_len PySem.boot_len (ma_cons (sv C 0 rfl) ma_nil rfl))) (st C 3 rfl)
  (j3 (jv (xw (j7 (Uk C.un) (sv C 3 rfl) (sv C 2 rfl) rfl) (Q2 (j7 (Ql C.un) (me_idx (sv C 0 rfl) (sv C 3 rfl) (fun _ _=>rfl)) (ju (ma_cons (me_str w_keep_eq) (ma_cons (sv C 1 rfl) ma_nil rfl) rfl)) (nomark _)))).t
  (j3 (Yx PassesOwn.never C.calm (Q3 (me_fn (k9 T) (hr.mono (by decide)) (C.g 2 rfl) (ma_cons (me_idx (sv C 0 rfl) (sv C 3 rfl) (fun _ _=>rfl)) (ma_cons (sv C 3 rfl) ma_nil rfl) rfl) rfl)) (st C 4 rfl)
  (j3 (jv (j7 (Ve C.un) (sv C 4 rfl) (sv C 2 rfl) rfl)
  (j3 (ud (ya (sv C 2 rfl) (ma_cons (sv C 4 rfl) ma_nil rfl) (fun _ _=>rfl))))
  j6))))
  j6)))
  (j3 (j5 (sv C 2 rfl)))))
theorem a99 (T:Tx w K mg):Jo P w K mg base "_law_fault" 3 1 f_fault:=fnC T.d_fault ["_law_code_here","_law_there_here","_law_at"] ["_law_there","len","range","_law_unset","_law_goals","all"] ⟨rfl,rfl,rfl,by decide +kernel,rfl,by decide +kernel,by decide +kernel⟩ (by decide +kernel) (by decide +kernel) rfl rfl fun _ _ _ _ _ _ _ hr C=>(j2 (sa C 1 rfl (me_fn (a97 T) (hr.mono (by decide)) (C.g 0 rfl) (ma_cons (sv C 0 rfl) ma_nil rfl) rfl))
  (j2 (Yx PassesOwn.never C.calm (Um (C.g 2 rfl) T.n_range (me_callB cm_len (C.g 1 rfl) T.n_len PySem.boot_len (ma_cons (sv C 0 rfl) ma_nil rfl))) (st C 2 rfl)
  (j2 (jv (xw (j7 (om_eq C.un) (me_idx (me_idx (sv C 0 rfl) (sv C 2 rfl) (fun _ _=>rfl)) me_int (fun _ _=>rfl)) (me_str x8) (nomark _)) (xw (j7 (Uk C.un) (sv C 2 rfl) (sv C 1 rfl) rfl) (Q2 (j7 (Uk C.un) (sv C 2 rfl) (me_fn (a95 T) (hr.mono (by decide)) (C.g 3 rfl) (ma_cons (sv C 0 rfl) (ma_cons (me_idx (me_idx (sv C 0 rfl) (sv C 2 rfl) (fun _ _=>rfl)) me_int (fun _ _=>rfl)) ma_nil rfl) rfl) rfl) rfl)))).t
  (j3 (j5 (sv C 2 rfl)))
  j6)
  (j3 (jv (zu (Jg (me_callB (ae5 C.calm) (C.g 5 rfl) T.n_all PyProof.Rows.boot_all (ma_cons (Zt (T:=["_law_goal"]) (caps:=["_law_code_here"]) (ix:=[0]) (ub (show Xk _ (defScope Gc)=true by decide +kernel)) (Zq C.hN (by decide +kernel)) C.calm (Q3 (me_fn (k9 T) (hr.mono (by decide)) (C.g 4 rfl) (ma_cons (me_idx (sv C 0 rfl) (sv C 2 rfl) (fun _ _=>rfl)) (ma_cons (sv C 2 rfl) ma_nil rfl) rfl) rfl)) (fun C2 s2 H2 ex2=>have B:Kf _ ["_law_goal"] ["_law_code_here"] ["len"]=true:=(by decide +kernel);have C:=Kh (C:=C2) (s:=s2) (H:=H2) (ex:=ex2) C.calm C.un (by decide +kernel) B;And.intro (stb C 0 rfl (blk_loc B (j:=0) rfl)) (And.intro mifs_nil (me_cmp om_lt (svb C 0 rfl) (me_callB cm_len (C.g 0 rfl) T.n_len PySem.boot_len (ma_cons (svb C 1 rfl) ma_nil rfl)) (nomark _))))) ma_nil rfl)) (fun _=>rfl)))
  (j3 (j5 (sv C 2 rfl)))
  j6))))
  (j3 (j5 (wr me_int)))))
theorem Ac (T:Tx w K mg):Jo P w K mg base "_law_packet" 3 2 Kw:=fnC T.d_packet ["_law_script","_law_base","_law_size"] ["_law_mix","range"] ⟨rfl,rfl,rfl,by decide +kernel,rfl,by decide +kernel,by decide +kernel⟩ (by decide +kernel) (by decide +kernel) rfl rfl fun _ _ _ _ _ _ _ hr C=>(j2 (sa C 2 rfl (me_idx (Ja (ma_cons me_int (ma_cons me_int (ma_cons me_int (ma_cons me_int (ma_cons me_int (ma_cons me_int ma_nil rfl) rfl) rfl) rfl) rfl) rfl)) (me_bin om_mod (me_fn (ok_mix T) (hr.mono (by decide)) (C.g 0 rfl) (ma_cons (sv C 0 rfl) (ma_cons (sv C 1 rfl) ma_nil rfl) rfl) rfl) me_int) (fun _ _=>rfl)))
  (j3 (j5 (Zt (T:=["_law_k_here"]) (caps:=["_law_script","_law_base"]) (ix:=[0,1]) (ub (show Xk _ (defScope Vm)=true by decide +kernel)) (Zq C.hN (by decide +kernel)) C.calm (Um (C.g 1 rfl) T.n_range (sv C 2 rfl)) (fun C2 s2 H2 ex2=>have B:Kf _ ["_law_k_here"] ["_law_script","_law_base"] ["_law_mix"]=true:=(by decide +kernel);have C:=Kh (C:=C2) (s:=s2) (H:=H2) (ex:=ex2) C.calm C.un (by decide +kernel) B;And.intro (stb C 0 rfl (blk_loc B (j:=0) rfl)) (And.intro mifs_nil (me_bin om_mod (me_bin om_div (me_fn (ok_mix T) (hr.mono (by decide)) (C.g 0 rfl) (ma_cons (svb C 1 rfl) (ma_cons (me_bin om_add (me_bin om_add (svb C 2 rfl) me_int) (me_bin om_mod (svb C 0 rfl) me_int)) ma_nil rfl) rfl) rfl) (me_bin om_add me_int (svb C 0 rfl))) me_int)))))))
theorem Y4:FnScope ["self"] ["self"] (defScope s_p_Machine__init__):=⟨rfl,rfl,rfl,by decide +kernel,rfl,by decide +kernel,by decide +kernel⟩
theorem qq:aD1 (defScope s_p_Machine__init__) ["self"]=true:=by decide +kernel
theorem qk:glB (defScope s_p_Machine__init__) []=true:=by decide +kernel
theorem qu (T:Tx w K mg):aH0 P w K mg base "Machine" 1 0 u5:=by
 refine am5 T.d_p_Machine__init__ rfl fun f fd F=>?_
 refine ad8 F Y4 rfl rfl fun cdv A outer s H E hr=>?_
 have C:=ae4 (CX:=CX0) (P:=P) (w:=w) (K:=K) (mg:=mg) (base:=base) (outer:=outer) (H:=H) (E:=E) Y4.nd (Cu qq) (ac8 qk) hr
 exact ((j2 (Ub (of_mem (by simp only [List.forall_mem_cons,List.not_mem_nil,false_implies,implies_true,and_true];exact ⟨T.o_Machine,T.na_Machine_hand⟩)) (sv C 0 rfl) me_int)
  (j2 (Ub (of_mem (by simp only [List.forall_mem_cons,List.not_mem_nil,false_implies,implies_true,and_true];exact ⟨T.o_Machine,T.na_Machine_other⟩)) (sv C 0 rfl) me_int)
  (j2 (Ub (of_mem (by simp only [List.forall_mem_cons,List.not_mem_nil,false_implies,implies_true,and_true];exact ⟨T.o_Machine,T.na_Machine_slots⟩)) (sv C 0 rfl) am8)
  (j2 (Ub (of_mem (by simp only [List.forall_mem_cons,List.not_mem_nil,false_implies,implies_true,and_true];exact ⟨T.o_Machine,T.na_Machine_place⟩)) (sv C 0 rfl) me_int)
  (j2 (Ub (of_mem (by simp only [List.forall_mem_cons,List.not_mem_nil,false_implies,implies_true,and_true];exact ⟨T.o_Machine,T.na_Machine_done⟩)) (sv C 0 rfl) me_int)
  (j3 (Ub (of_mem (by simp only [List.forall_mem_cons,List.not_mem_nil,false_implies,implies_true,and_true];exact ⟨T.o_Machine,T.na_Machine_told⟩)) (sv C 0 rfl) zt))))))))
theorem gt (T:Tx w K mg):Jo P w K mg base "put_away" 1 2 Zr:=fnC T.d_p_put_away ["machine","step"] [] ⟨rfl,rfl,rfl,by decide +kernel,rfl,by decide +kernel,by decide +kernel⟩ (by decide +kernel) (by decide +kernel) rfl rfl fun _ _ _ _ _ _ _ hr C=>(j3 (jv (j7 (om_eq C.un) (me_idx (sv C 1 rfl) me_int (fun _ _=>rfl)) (me_str gh) (nomark _))
  (j3 (Ub (of_mem (by simp only [List.forall_mem_cons,List.not_mem_nil,false_implies,implies_true,and_true];exact ⟨T.o_Machine,T.na_Machine_other⟩)) (sv C 0 rfl) (me_idx (sv C 1 rfl) me_int (fun _ _=>rfl))))
  (j3 (jv (j7 (om_eq C.un) (me_idx (sv C 1 rfl) me_int (fun _ _=>rfl)) (me_str w_tax_eq) (nomark _))
  (j3 (Ub (of_mem (by simp only [List.forall_mem_cons,List.not_mem_nil,false_implies,implies_true,and_true];exact ⟨T.o_Machine,T.na_Machine_other⟩)) (sv C 0 rfl) (ux (of_mem (by simp only [List.forall_mem_cons,List.not_mem_nil,false_implies,implies_true,and_true];exact ⟨T.o_Machine,T.na_Machine_hand⟩)) (sv C 0 rfl))))
  (j3 (fk C.un (ux (of_mem (by simp only [List.forall_mem_cons,List.not_mem_nil,false_implies,implies_true,and_true];exact ⟨T.o_Machine,T.na_Machine_slots⟩)) (sv C 0 rfl)) (me_idx (sv C 1 rfl) me_int (fun _ _=>rfl)) (ux (of_mem (by simp only [List.forall_mem_cons,List.not_mem_nil,false_implies,implies_true,and_true];exact ⟨T.o_Machine,T.na_Machine_hand⟩)) (sv C 0 rfl))))))))
theorem X6 (T:Tx w K mg):Jo P w K mg base "take_in_hand" 1 2 u9:=fnC T.d_p_take_in_hand ["machine","value"] [] ⟨rfl,rfl,rfl,by decide +kernel,rfl,by decide +kernel,by decide +kernel⟩ (by decide +kernel) (by decide +kernel) rfl rfl fun _ _ _ _ _ _ _ hr C=>(j3 (jv (xv (sv C 1 rfl))
  (j3 (Ub (of_mem (by simp only [List.forall_mem_cons,List.not_mem_nil,false_implies,implies_true,and_true];exact ⟨T.o_Machine,T.na_Machine_told⟩)) (sv C 0 rfl) me_int))
  (j3 (Ub (of_mem (by simp only [List.forall_mem_cons,List.not_mem_nil,false_implies,implies_true,and_true];exact ⟨T.o_Machine,T.na_Machine_hand⟩)) (sv C 0 rfl) (sv C 1 rfl)))))
theorem d7 (T:Tx w K mg):Jo P w K mg base "loaded" 1 3 Yb:=fnC T.d_p_loaded ["packet","size","start","number","byte"] ["len"] ⟨rfl,rfl,rfl,by decide +kernel,rfl,by decide +kernel,by decide +kernel⟩ (by decide +kernel) (by decide +kernel) rfl rfl fun _ _ _ _ _ _ _ hr C=>(j2 (jv (Wq (j7 om_lt (sv C 2 rfl) me_int (nomark _)) (xx (j7 G6 (me_bin om_add (sv C 2 rfl) (sv C 1 rfl)) (me_callB cm_len (C.g 0 rfl) T.n_len PySem.boot_len (ma_cons (sv C 0 rfl) ma_nil rfl)) (nomark _)))).t
  (j3 (j5 zt))
  j6)
  (j2 (sa C 3 rfl me_int)
  (j2 (Yx PassesOwn.never C.calm (Q3 (dm (sv C 0 rfl) (fj (sv C 2 rfl)) (fj (me_bin om_add (sv C 2 rfl) (sv C 1 rfl))))) (st C 4 rfl)
  (j3 (sa C 3 rfl (me_bin om_add (me_bin om_mul (sv C 3 rfl) me_int) (sv C 4 rfl)))))
  (j3 (j5 (sv C 3 rfl))))))
theorem f9 (T:Tx w K mg):Jo P w K mg base "shifted" 1 3 yw:=fnC T.d_p_shifted ["op","one","often","times"] ["WIDTH","max"] ⟨rfl,rfl,rfl,by decide +kernel,rfl,by decide +kernel,by decide +kernel⟩ (by decide +kernel) (by decide +kernel) rfl rfl fun _ _ _ _ _ _ _ hr C=>(j2 (jv (j7 om_ge (sv C 2 rfl) (Jf T.c_WIDTH (C.g 0 rfl)) (nomark _))
  (j3 (j5 me_int))
  j6)
  (j2 (sa C 3 rfl (me_callB (aG3 C.calm) (C.g 1 rfl) T.n_max PyProof.Rows.boot_max (ma_cons (sv C 2 rfl) (ma_cons me_int ma_nil rfl) rfl)))
  (j3 (j5 (zw (j7 (om_eq C.un) (sv C 0 rfl) (me_str qb) (nomark _)) (me_bin aB9 (sv C 1 rfl) (sv C 3 rfl)) (me_bin aB8 (sv C 1 rfl) (sv C 3 rfl)))))))
theorem Zi (T:Tx w K mg):Jo P w K mg base "plainly_reckoned" 2 3 jk:=fnC T.d_p_plainly_reckoned ["op","one","other"] ["shifted"] ⟨rfl,rfl,rfl,by decide +kernel,rfl,by decide +kernel,by decide +kernel⟩ (by decide +kernel) (by decide +kernel) rfl rfl fun _ _ _ _ _ _ _ hr C=>(j2 (jv (j7 (om_eq C.un) (sv C 0 rfl) (me_str w8) (nomark _))
  (j3 (j5 (me_bin om_add (sv C 1 rfl) (sv C 2 rfl))))
  j6)
  (j2 (jv (j7 (om_eq C.un) (sv C 0 rfl) (me_str Qa) (nomark _))
  (j3 (j5 (me_bin Ui (sv C 1 rfl) (sv C 2 rfl))))
  j6)
  (j2 (jv (j7 (om_eq C.un) (sv C 0 rfl) (me_str Qd) (nomark _))
  (j3 (j5 (me_bin om_mul (sv C 1 rfl) (sv C 2 rfl))))
  j6)
  (j2 (jv (j7 (om_eq C.un) (sv C 0 rfl) (me_str qc) (nomark _))
  (j3 (j5 (me_bin om_div (sv C 1 rfl) (sv C 2 rfl))))
  j6)
  (j2 (jv (j7 (om_eq C.un) (sv C 0 rfl) (me_str Xa) (nomark _))
  (j3 (j5 (me_bin om_mod (sv C 1 rfl) (sv C 2 rfl))))
  j6)
  (j2 (jv (j7 (om_eq C.un) (sv C 0 rfl) (me_str xm) (nomark _))
  (j3 (j5 (me_bin Bx (sv C 1 rfl) (sv C 2 rfl))))
  j6)
  (j2 (jv (j7 (om_eq C.un) (sv C 0 rfl) (me_str v5) (nomark _))
  (j3 (j5 (me_bin aC0 (sv C 1 rfl) (sv C 2 rfl))))
  j6)
  (j2 (jv (j7 (om_eq C.un) (sv C 0 rfl) (me_str xp) (nomark _))
  (j3 (j5 (me_bin al3 (sv C 1 rfl) (sv C 2 rfl))))
  j6)
  (j3 (j5 (me_fn (f9 T) (hr.mono (by decide)) (C.g 0 rfl) (ma_cons (sv C 0 rfl) (ma_cons (sv C 1 rfl) (ma_cons (sv C 2 rfl) ma_nil rfl) rfl) rfl) rfl)))))))))))
theorem Qk (T:Tx w K mg):Jo P w K mg base "reckoned" 3 3 jq:=fnC T.d_p_reckoned ["op","one","other"] ["DIVIDING","plainly_reckoned","ROUND"] ⟨rfl,rfl,rfl,by decide +kernel,rfl,by decide +kernel,by decide +kernel⟩ (by decide +kernel) (by decide +kernel) rfl rfl fun _ _ _ _ _ _ _ hr C=>(j2 (jv (xw (j7 (Uk C.un) (sv C 0 rfl) (Jf T.c_DIVIDING (C.g 0 rfl)) rfl) (Q2 (j7 (om_eq C.un) (sv C 2 rfl) me_int (nomark _)))).t
  (j3 (j5 zt))
  j6)
  (j3 (j5 (me_bin om_mod (me_fn (Zi T) (hr.mono (by decide)) (C.g 1 rfl) (ma_cons (sv C 0 rfl) (ma_cons (sv C 1 rfl) (ma_cons (sv C 2 rfl) ma_nil rfl) rfl) rfl) rfl) (Jf T.c_ROUND (C.g 2 rfl))))))
theorem fw (T:Tx w K mg):Jo P w K mg base "fetched" 1 2 Wi:=fnC T.d_p_fetched ["machine","slot"] [] ⟨rfl,rfl,rfl,by decide +kernel,rfl,by decide +kernel,by decide +kernel⟩ (by decide +kernel) (by decide +kernel) rfl rfl fun _ _ _ _ _ _ _ hr C=>(j2 (jv (a01 C.un (sv C 1 rfl) (ux (of_mem (by simp only [List.forall_mem_cons,List.not_mem_nil,false_implies,implies_true,and_true];exact ⟨T.o_Machine,T.na_Machine_slots⟩)) (sv C 0 rfl)) rfl)
  (j3 C6)
  j6)
  (j3 (j5 (Q4 C.un (ux (of_mem (by simp only [List.forall_mem_cons,List.not_mem_nil,false_implies,implies_true,and_true];exact ⟨T.o_Machine,T.na_Machine_slots⟩)) (sv C 0 rfl)) (sv C 1 rfl) (fun _ _=>rfl)))))
theorem gu (T:Tx w K mg):Jo P w K mg base "value_of" 4 3 yo:=fnC T.d_p_value_of ["machine","step","packet","ahead"] ["loaded","len","reckoned","fetched"] ⟨rfl,rfl,rfl,by decide +kernel,rfl,by decide +kernel,by decide +kernel⟩ (by decide +kernel) (by decide +kernel) rfl rfl fun _ _ _ _ _ _ _ hr C=>(j2 (jv (j7 (om_eq C.un) (me_idx (sv C 1 rfl) me_int (fun _ _=>rfl)) (me_str zm) (nomark _))
  (j2 (sa C 3 rfl (zw (j7 (om_eq C.un) (me_idx (sv C 1 rfl) me_int (fun _ _=>rfl)) (me_str a36) (nomark _)) (ux (of_mem (by simp only [List.forall_mem_cons,List.not_mem_nil,false_implies,implies_true,and_true];exact ⟨T.o_Machine,T.na_Machine_other⟩)) (sv C 0 rfl)) me_int))
  (j3 (j5 (me_fn (d7 T) (hr.mono (by decide)) (C.g 0 rfl) (ma_cons (sv C 2 rfl) (ma_cons (me_idx (sv C 1 rfl) me_int (fun _ _=>rfl)) (ma_cons (me_bin om_add (sv C 3 rfl) (me_idx (sv C 1 rfl) me_int (fun _ _=>rfl))) ma_nil rfl) rfl) rfl) rfl))))
  j6)
  (j2 (jv (j7 (om_eq C.un) (me_idx (sv C 1 rfl) me_int (fun _ _=>rfl)) (me_str zl) (nomark _))
  (j3 (j5 (me_callB cm_len (C.g 1 rfl) T.n_len PySem.boot_len (ma_cons (sv C 2 rfl) ma_nil rfl))))
  j6)
  (j2 (jv (j7 (om_eq C.un) (me_idx (sv C 1 rfl) me_int (fun _ _=>rfl)) (me_str Ev) (nomark _))
  (j3 (j5 (me_idx (sv C 1 rfl) me_int (fun _ _=>rfl))))
  j6)
  (j2 (jv (j7 (om_eq C.un) (me_idx (sv C 1 rfl) me_int (fun _ _=>rfl)) (me_str a37) (nomark _))
  (j3 (j5 (ux (of_mem (by simp only [List.forall_mem_cons,List.not_mem_nil,false_implies,implies_true,and_true];exact ⟨T.o_Machine,T.na_Machine_other⟩)) (sv C 0 rfl))))
  j6)
  (j2 (jv (j7 (om_eq C.un) (me_idx (sv C 1 rfl) me_int (fun _ _=>rfl)) (me_str b0) (nomark _))
  (j3 (j5 (me_fn (Qk T) (hr.mono (by decide)) (C.g 2 rfl) (ma_cons (me_idx (sv C 1 rfl) me_int (fun _ _=>rfl)) (ma_cons (ux (of_mem (by simp only [List.forall_mem_cons,List.not_mem_nil,false_implies,implies_true,and_true];exact ⟨T.o_Machine,T.na_Machine_hand⟩)) (sv C 0 rfl)) (ma_cons (me_idx (sv C 1 rfl) me_int (fun _ _=>rfl)) ma_nil rfl) rfl) rfl) rfl)))
  j6)
  (j2 (jv (j7 (om_eq C.un) (me_idx (sv C 1 rfl) me_int (fun _ _=>rfl)) (me_str Eu) (nomark _))
  (j3 (j5 (me_fn (Qk T) (hr.mono (by decide)) (C.g 2 rfl) (ma_cons (me_idx (sv C 1 rfl) me_int (fun _ _=>rfl)) (ma_cons (ux (of_mem (by simp only [List.forall_mem_cons,List.not_mem_nil,false_implies,implies_true,and_true];exact ⟨T.o_Machine,T.na_Machine_hand⟩)) (sv C 0 rfl)) (ma_cons (ux (of_mem (by simp only [List.forall_mem_cons,List.not_mem_nil,false_implies,implies_true,and_true];exact ⟨T.o_Machine,T.na_Machine_other⟩)) (sv C 0 rfl)) ma_nil rfl) rfl) rfl) rfl)))
  j6)
  (j3 (j5 (me_fn (fw T) (hr.mono (by decide)) (C.g 3 rfl) (ma_cons (sv C 0 rfl) (ma_cons (me_idx (sv C 1 rfl) me_int (fun _ _=>rfl)) ma_nil rfl) rfl) rfl)))))))))
theorem Va (T:Tx w K mg):Jo P w K mg base "holds" 1 3 Qz:=fnC T.d_p_holds ["test","one","other"] [] ⟨rfl,rfl,rfl,by decide +kernel,rfl,by decide +kernel,by decide +kernel⟩ (by decide +kernel) (by decide +kernel) rfl rfl fun _ _ _ _ _ _ _ hr C=>(j2 (jv (j7 (om_eq C.un) (sv C 0 rfl) (me_str c7) (nomark _))
  (j3 (j5 (me_cmp (om_eq C.un) (sv C 1 rfl) (sv C 2 rfl) (nomark _))))
  j6)
  (j2 (jv (j7 (om_eq C.un) (sv C 0 rfl) (me_str x9) (nomark _))
  (j3 (j5 (me_cmp G6 (sv C 1 rfl) (sv C 2 rfl) (nomark _))))
  j6)
  (j2 (jv (j7 (om_eq C.un) (sv C 0 rfl) (me_str Zy) (nomark _))
  (j3 (j5 (me_cmp om_ge (sv C 1 rfl) (sv C 2 rfl) (nomark _))))
  j6)
  (j3 (j5 (me_cmp (Ql C.un) (me_bin Bx (sv C 1 rfl) (sv C 2 rfl)) me_int (nomark _)))))))
theorem gq (T:Tx w K mg):Jo P w K mg base "distance" 2 2 Yr:=fnC T.d_p_distance ["machine","step"] ["holds"] ⟨rfl,rfl,rfl,by decide +kernel,rfl,by decide +kernel,by decide +kernel⟩ (by decide +kernel) (by decide +kernel) rfl rfl fun _ _ _ _ _ _ _ hr C=>(j2 (jv (j7 (om_eq C.un) (me_idx (sv C 1 rfl) me_int (fun _ _=>rfl)) (me_str zk) (nomark _))
  (j3 (j5 (me_idx (sv C 1 rfl) me_int (fun _ _=>rfl))))
  j6)
  (j2 (jv (j7 (om_eq C.un) (me_idx (sv C 1 rfl) me_int (fun _ _=>rfl)) (me_str v7) (nomark _))
  (j3 (j5 (zw (Jg (me_fn (Va T) (hr.mono (by decide)) (C.g 0 rfl) (ma_cons (me_idx (sv C 1 rfl) me_int (fun _ _=>rfl)) (ma_cons (ux (of_mem (by simp only [List.forall_mem_cons,List.not_mem_nil,false_implies,implies_true,and_true];exact ⟨T.o_Machine,T.na_Machine_hand⟩)) (sv C 0 rfl)) (ma_cons (me_idx (sv C 1 rfl) me_int (fun _ _=>rfl)) ma_nil rfl) rfl) rfl) rfl) (fun _=>rfl)) (me_idx (sv C 1 rfl) me_int (fun _ _=>rfl)) (me_idx (sv C 1 rfl) me_int (fun _ _=>rfl)))))
  j6)
  (j2 (jv (j7 (om_eq C.un) (me_idx (sv C 1 rfl) me_int (fun _ _=>rfl)) (me_str zj) (nomark _))
  (j3 (j5 (zw (Jg (me_fn (Va T) (hr.mono (by decide)) (C.g 0 rfl) (ma_cons (me_idx (sv C 1 rfl) me_int (fun _ _=>rfl)) (ma_cons (ux (of_mem (by simp only [List.forall_mem_cons,List.not_mem_nil,false_implies,implies_true,and_true];exact ⟨T.o_Machine,T.na_Machine_hand⟩)) (sv C 0 rfl)) (ma_cons (ux (of_mem (by simp only [List.forall_mem_cons,List.not_mem_nil,false_implies,implies_true,and_true];exact ⟨T.o_Machine,T.na_Machine_other⟩)) (sv C 0 rfl)) ma_nil rfl) rfl) rfl) rfl) (fun _=>rfl)) (me_idx (sv C 1 rfl) me_int (fun _ _=>rfl)) (me_idx (sv C 1 rfl) me_int (fun _ _=>rfl)))))
  j6)
  (j3 (j5 me_int)))))
theorem fq (T:Tx w K mg):Jo P w K mg base "do_step" 5 3 yv:=fnC T.d_p_do_step ["machine","step","packet"] ["put_away","value_of","take_in_hand","distance"] ⟨rfl,rfl,rfl,by decide +kernel,rfl,by decide +kernel,by decide +kernel⟩ (by decide +kernel) (by decide +kernel) rfl rfl fun _ _ _ _ _ _ _ hr C=>(j2 (jv (j7 (om_eq C.un) (me_idx (sv C 1 rfl) me_int (fun _ _=>rfl)) (me_str zn) (nomark _))
  (j3 (Ub (of_mem (by simp only [List.forall_mem_cons,List.not_mem_nil,false_implies,implies_true,and_true];exact ⟨T.o_Machine,T.na_Machine_told⟩)) (sv C 0 rfl) (me_idx (sv C 1 rfl) me_int (fun _ _=>rfl))))
  (j3 (jv (j7 (om_eq C.un) (me_idx (sv C 1 rfl) me_int (fun _ _=>rfl)) (me_str Qb) (nomark _))
  (j3 (Ub (of_mem (by simp only [List.forall_mem_cons,List.not_mem_nil,false_implies,implies_true,and_true];exact ⟨T.o_Machine,T.na_Machine_told⟩)) (sv C 0 rfl) (ux (of_mem (by simp only [List.forall_mem_cons,List.not_mem_nil,false_implies,implies_true,and_true];exact ⟨T.o_Machine,T.na_Machine_hand⟩)) (sv C 0 rfl))))
  (j3 (jv (j7 (Uk C.un) (me_idx (sv C 1 rfl) me_int (fun _ _=>rfl)) (ju (ma_cons (me_str gh) (ma_cons (me_str w_tax_eq) (ma_cons (me_str w_keep_eq) ma_nil rfl) rfl) rfl)) rfl)
  (j3 (ud (me_fn (gt T) (hr.mono (by decide)) (C.g 0 rfl) (ma_cons (sv C 0 rfl) (ma_cons (sv C 1 rfl) ma_nil rfl) rfl) rfl)))
  (j3 (jv (j7 (Ve C.un) (me_idx (sv C 1 rfl) me_int (fun _ _=>rfl)) (ju (ma_cons (me_str zk) (ma_cons (me_str v7) (ma_cons (me_str zj) ma_nil rfl) rfl) rfl)) rfl)
  (j3 (ud (me_fn (X6 T) (hr.mono (by decide)) (C.g 2 rfl) (ma_cons (sv C 0 rfl) (ma_cons (me_fn (gu T) (hr.mono (by decide)) (C.g 1 rfl) (ma_cons (sv C 0 rfl) (ma_cons (sv C 1 rfl) (ma_cons (sv C 2 rfl) ma_nil rfl) rfl) rfl) rfl) ma_nil rfl) rfl) rfl)))
  j6)))))))
  (j2 (Bu (of_mem (by simp only [List.forall_mem_cons,List.not_mem_nil,false_implies,implies_true,and_true];exact ⟨T.o_Machine,T.na_Machine_done⟩)) (by intro c c' h h';simp only [List.contains_cons,List.contains_nil,Bool.or_false,beq_iff_eq] at h h';rw [h,h']) (sv C 0 rfl) me_int)
  (j3 (Bu (of_mem (by simp only [List.forall_mem_cons,List.not_mem_nil,false_implies,implies_true,and_true];exact ⟨T.o_Machine,T.na_Machine_place⟩)) (by intro c c' h h';simp only [List.contains_cons,List.contains_nil,Bool.or_false,beq_iff_eq] at h h';rw [h,h']) (sv C 0 rfl) (me_bin om_add me_int (me_fn (gq T) (hr.mono (by decide)) (C.g 3 rfl) (ma_cons (sv C 0 rfl) (ma_cons (sv C 1 rfl) ma_nil rfl) rfl) rfl))))))
theorem C3 (T:Tx w K mg):Jo P w K mg base "ended" 6 2 wc:=fnC T.d_p_ended ["code","packet","machine"] ["Machine","len","do_step"] ⟨rfl,rfl,rfl,by decide +kernel,rfl,by decide +kernel,by decide +kernel⟩ (by decide +kernel) (by decide +kernel) rfl rfl fun _ _ _ _ _ _ _ hr C=>(j2 (sa C 2 rfl (am7 (qu T) (hr.mono (by decide)) (C.g 0 rfl)))
  (j2 (dw 2100 PassesOwn.never (xv (ux (of_mem (by simp only [List.forall_mem_cons,List.not_mem_nil,false_implies,implies_true,and_true];exact ⟨T.o_Machine,T.na_Machine_told⟩)) (sv C 2 rfl)))
  (j2 (jv (j7 om_ge (ux (of_mem (by simp only [List.forall_mem_cons,List.not_mem_nil,false_implies,implies_true,and_true];exact ⟨T.o_Machine,T.na_Machine_place⟩)) (sv C 2 rfl)) (me_callB cm_len (C.g 1 rfl) T.n_len PySem.boot_len (ma_cons (sv C 0 rfl) ma_nil rfl)) (nomark _))
  (j3 C6)
  j6)
  (j3 (ud (me_fn (fq T) (hr.mono (by decide)) (C.g 2 rfl) (ma_cons (sv C 2 rfl) (ma_cons (me_idx (sv C 0 rfl) (ux (of_mem (by simp only [List.forall_mem_cons,List.not_mem_nil,false_implies,implies_true,and_true];exact ⟨T.o_Machine,T.na_Machine_place⟩)) (sv C 2 rfl)) (fun _ _=>rfl)) (ma_cons (sv C 1 rfl) ma_nil rfl) rfl) rfl) rfl)))))
  (j3 (j5 (sv C 2 rfl)))))
theorem a98 (T:Tx w K mg):Jo P w K mg base "run" 7 2 vm:=fnC T.d_p_run ["code","packet"] ["ended"] ⟨rfl,rfl,rfl,by decide +kernel,rfl,by decide +kernel,by decide +kernel⟩ (by decide +kernel) (by decide +kernel) rfl rfl fun _ _ _ _ _ _ _ hr C=>(j3 (j5 (ux (of_mem (by simp only [List.forall_mem_cons,List.not_mem_nil,false_implies,implies_true,and_true];exact ⟨T.o_Machine,T.na_Machine_told⟩)) (me_fn (C3 T) (hr.mono (by decide)) (C.g 0 rfl) (ma_cons (sv C 0 rfl) (ma_cons (sv C 1 rfl) ma_nil rfl) rfl) rfl))))
theorem a94 (T:Tx w K mg):Jo P w K mg base "_law_whole" 1 1 ay:=fnC T.d_whole ["_law_found"] ["isinstance","int","bool"] ⟨rfl,rfl,rfl,by decide +kernel,rfl,by decide +kernel,by decide +kernel⟩ (by decide +kernel) (by decide +kernel) rfl rfl fun _ _ _ _ _ _ _ hr C=>(j3 (j5 (me_and (xu .int PyProof.Rows.boot_int (C.g 0 rfl) T.n_isinstance (C.g 1 rfl) T.n_int (sv C 0 rfl)) (me_one (C8 (xu .bool M.boot_bool (C.g 0 rfl) T.n_isinstance (C.g 2 rfl) T.n_bool (sv C 0 rfl)))))))
theorem aa1 (T:Tx w K mg):Jo P w K mg base "_law_bytes" 1 3 Qy:=fnC T.d_bytes ["_law_packet_here","_law_at","_law_size"] ["len","range","sum"] ⟨rfl,rfl,rfl,by decide +kernel,rfl,by decide +kernel,by decide +kernel⟩ (by decide +kernel) (by decide +kernel) rfl rfl fun _ _ _ _ _ _ _ hr C=>(j2 (jv (j7 G6 (me_bin om_add (sv C 1 rfl) (sv C 2 rfl)) (me_callB cm_len (C.g 0 rfl) T.n_len PySem.boot_len (ma_cons (sv C 0 rfl) ma_nil rfl)) (nomark _))
  (j3 (j5 zt))
  j6)
  (j3 (j5 (me_callB (aG1 C.calm) (C.g 2 rfl) T.n_sum PyProof.Rows.boot_sum (ma_cons (Zt (T:=["_law_k_here"]) (caps:=["_law_packet_here","_law_at","_law_size"]) (ix:=[0,1,2]) (ub (show Xk _ (defScope Gb)=true by decide +kernel)) (Zq C.hN (by decide +kernel)) C.calm (Um (C.g 1 rfl) T.n_range (sv C 2 rfl)) (fun C2 s2 H2 ex2=>have B:Kf _ ["_law_k_here"] ["_law_packet_here","_law_at","_law_size"] []=true:=(by decide +kernel);have C:=Kh (C:=C2) (s:=s2) (H:=H2) (ex:=ex2) C.calm C.un (by decide +kernel) B;And.intro (stb C 0 rfl (blk_loc B (j:=0) rfl)) (And.intro mifs_nil (me_bin om_mul (me_idx (svb C 1 rfl) (me_bin om_add (svb C 2 rfl) (svb C 0 rfl)) (fun _ _=>rfl)) (me_idx (Ja (ma_cons me_int (ma_cons me_int (ma_cons me_int (ma_cons me_int ma_nil rfl) rfl) rfl) rfl)) (me_bin Ui (me_bin Ui (svb C 3 rfl) me_int) (svb C 0 rfl)) (fun _ _=>rfl)))))) ma_nil rfl)))))
theorem d6 (T:Tx w K mg):Jo P w K mg base "_law_reckoned" 1 3 je:=fnC T.d_reckoned ["_law_op_here","_law_one","_law_other","_law_k_here","_law_found","_law_place","_law_two"] ["min","range","int"] ⟨rfl,rfl,rfl,by decide +kernel,rfl,by decide +kernel,by decide +kernel⟩ (by decide +kernel) (by decide +kernel) rfl rfl fun _ _ _ _ _ _ _ hr C=>(j2 (jv (j7 (Uk C.un) (sv C 0 rfl) (ju (ma_cons (me_str qc) (ma_cons (me_str Xa) ma_nil rfl) rfl)) rfl)
  (j2 (jv (j7 (om_eq C.un) (sv C 2 rfl) me_int (nomark _))
  (j3 (j5 zt))
  j6)
  (j3 (j5 (zw (j7 (om_eq C.un) (sv C 0 rfl) (me_str qc) (nomark _)) (me_bin om_div (sv C 1 rfl) (sv C 2 rfl)) (me_bin Ui (sv C 1 rfl) (me_bin om_mul (me_bin om_div (sv C 1 rfl) (sv C 2 rfl)) (sv C 2 rfl)))))))
  j6)
  (j2 (jv (j7 (Uk C.un) (sv C 0 rfl) (ju (ma_cons (me_str qb) (ma_cons (me_str V6) ma_nil rfl) rfl)) rfl)
  (j2 (Yx PassesOwn.never C.calm (Um (C.g 1 rfl) T.n_range (me_callB (aG2 C.calm) (C.g 0 rfl) T.n_min PyProof.Rows.boot_min (ma_cons (sv C 2 rfl) (ma_cons me_int ma_nil rfl) rfl))) (st C 3 rfl)
  (j3 (sa C 1 rfl (zw (j7 (om_eq C.un) (sv C 0 rfl) (me_str qb) (nomark _)) (me_bin om_mul (sv C 1 rfl) me_int) (me_bin om_div (sv C 1 rfl) me_int)))))
  (j3 (j5 (me_bin om_mod (sv C 1 rfl) me_int))))
  j6)
  (j2 (jv (j7 (Uk C.un) (sv C 0 rfl) (ju (ma_cons (me_str xm) (ma_cons (me_str v5) (ma_cons (me_str xp) ma_nil rfl) rfl) rfl)) rfl)
  (j2 (sa C 4 rfl me_int)
  (j2 (sa C 5 rfl me_int)
  (j2 (Yx PassesOwn.never C.calm (Um (C.g 1 rfl) T.n_range me_int) (st C 3 rfl)
  (j2 (sa C 6 rfl (ju (ma_cons (me_bin om_mod (me_bin om_div (sv C 1 rfl) (sv C 5 rfl)) me_int) (ma_cons (me_bin om_mod (me_bin om_div (sv C 2 rfl) (sv C 5 rfl)) me_int) ma_nil rfl) rfl)))
  (j2 (sa C 4 rfl (me_bin om_add (sv C 4 rfl) (me_bin om_mul (sv C 5 rfl) (Z0 Kj (C.g 2 rfl) T.n_int PyProof.Rows.boot_int (ma_cons (Q4 C.un (ab0 (Ue xm (me_cmp (om_eq C.un) (sv C 6 rfl) (ju (ma_cons me_int (ma_cons me_int ma_nil rfl) rfl)) (nomark _)) (Ue v5 (me_cmp (Ql C.un) (sv C 6 rfl) (ju (ma_cons me_int (ma_cons me_int ma_nil rfl) rfl)) (nomark _)) (Ue xp (me_cmp (Ql C.un) (me_idx (sv C 6 rfl) me_int (fun _ _=>rfl)) (me_idx (sv C 6 rfl) me_int (fun _ _=>rfl)) (nomark _)) vt))) (by decide) rfl rfl (by intro h;cases h) (by decide)) (sv C 0 rfl) (fun _ _=>rfl)) ma_nil rfl)))))
  (j3 (sa C 5 rfl (me_bin om_mul (sv C 5 rfl) me_int))))))
  (j3 (j5 (sv C 4 rfl))))))
  j6)
  (j3 (j5 (me_bin om_mod (Q4 C.un (ab0 (Ue w8 (me_bin om_add (sv C 1 rfl) (sv C 2 rfl)) (Ue Qa (me_bin Ui (sv C 1 rfl) (sv C 2 rfl)) (Ue Qd (me_bin om_mul (sv C 1 rfl) (sv C 2 rfl)) vt))) (by decide) rfl rfl (by intro h;cases h) (by decide)) (sv C 0 rfl) (fun _ _=>rfl)) me_int))))))
theorem Ae (T:Tx w K mg):∀ k,Jo P w K mg base "_law_worth" (2 + k) 2 (Yg k 0):=by
 intro k
 induction k with
 | zero=>exact Xt T.d_worth rfl
 | succ k ih =>
  have ih0:=ih
  refine ?_
  ·show Jo P w K mg base "_law_worth" (2 + k + 1) 2 (fnOf 3 (E5 (Yg k)))
   exact fnC T.d_worth ["_law_tree","_law_packet_here","_law_at","_law_one","_law_other"] ["len","_law_worth","_law_bytes","_law_reckoned"] ⟨rfl,rfl,rfl,by decide +kernel,rfl,by decide +kernel,by decide +kernel⟩ (by decide +kernel) (by decide +kernel) rfl rfl fun _ _ _ _ _ _ _ hr C=>(j2 (jv (j7 (om_eq C.un) (me_idx (sv C 0 rfl) me_int (fun _ _=>rfl)) (me_str Ji) (nomark _))
  (j3 (j5 (me_idx (sv C 0 rfl) me_int (fun _ _=>rfl))))
  j6)
  (j2 (jv (j7 (om_eq C.un) (me_idx (sv C 0 rfl) me_int (fun _ _=>rfl)) (me_str zl) (nomark _))
  (j3 (j5 (me_callB cm_len (C.g 0 rfl) T.n_len PySem.boot_len (ma_cons (sv C 1 rfl) ma_nil rfl))))
  j6)
  (j2 (jv (j7 (om_eq C.un) (me_idx (sv C 0 rfl) me_int (fun _ _=>rfl)) (me_str zm) (nomark _))
  (j2 (sa C 2 rfl (me_fn ih0 (hr.mono (by omega)) (C.g 1 rfl) (ma_cons (me_idx (sv C 0 rfl) me_int (fun _ _=>rfl)) (ma_cons (sv C 1 rfl) ma_nil rfl) rfl) rfl))
  (j3 (j5 (zw (xv (sv C 2 rfl)) zt (me_fn (aa1 T) (hr.mono (by omega)) (C.g 2 rfl) (ma_cons (sv C 1 rfl) (ma_cons (sv C 2 rfl) (ma_cons (me_idx (sv C 0 rfl) me_int (fun _ _=>rfl)) ma_nil rfl) rfl) rfl) rfl)))))
  j6)
  (j2 (sa C 3 rfl (me_fn ih0 (hr.mono (by omega)) (C.g 1 rfl) (ma_cons (me_idx (sv C 0 rfl) me_int (fun _ _=>rfl)) (ma_cons (sv C 1 rfl) ma_nil rfl) rfl) rfl))
  (j2 (sa C 4 rfl (zw (xv (sv C 3 rfl)) zt (me_fn ih0 (hr.mono (by omega)) (C.g 1 rfl) (ma_cons (me_idx (sv C 0 rfl) me_int (fun _ _=>rfl)) (ma_cons (sv C 1 rfl) ma_nil rfl) rfl) rfl)))
  (j3 (j5 (zw (xv (sv C 4 rfl)) zt (me_fn (d6 T) (hr.mono (by omega)) (C.g 3 rfl) (ma_cons (me_idx (sv C 0 rfl) me_int (fun _ _=>rfl)) (ma_cons (sv C 3 rfl) (ma_cons (sv C 4 rfl) ma_nil rfl) rfl) rfl) rfl)))))))))
theorem d5 (T:Tx w K mg):Jo P w K mg base "_law_worth" 14 2 Ft:=(Ae T 12)
theorem a93 (T:Tx w K mg):∀ k,Jo P w K mg base "_law_says" (15 + k) 2 (Y2 k 0):=by
 intro k
 induction k with
 | zero=>exact Xt T.d_says rfl
 | succ k ih =>
  have ih0:=ih
  refine ?_
  ·show Jo P w K mg base "_law_says" (15 + k + 1) 2 (fnOf 3 (Zp (Y2 k)))
   exact fnC T.d_says ["_law_tree","_law_packet_here","_law_one","_law_other","_law_good"] ["int","_law_says","_law_worth"] ⟨rfl,rfl,rfl,by decide +kernel,rfl,by decide +kernel,by decide +kernel⟩ (by decide +kernel) (by decide +kernel) rfl rfl fun _ _ _ _ _ _ _ hr C=>(j2 (jv (j7 (om_eq C.un) (me_idx (sv C 0 rfl) me_int (fun _ _=>rfl)) (me_str uk) (nomark _))
  (j3 (j5 (Z0 Kj (C.g 0 rfl) T.n_int PyProof.Rows.boot_int (ma_cons (me_idx (sv C 0 rfl) me_int (fun _ _=>rfl)) ma_nil rfl))))
  j6)
  (j2 (jv (j7 (Uk C.un) (me_idx (sv C 0 rfl) me_int (fun _ _=>rfl)) (ju (ma_cons (me_str xn) (ma_cons (me_str ye) (ma_cons (me_str yy) ma_nil rfl) rfl) rfl)) rfl)
  (j2 (sa C 2 rfl (me_fn ih0 (hr.mono (by omega)) (C.g 1 rfl) (ma_cons (me_idx (sv C 0 rfl) me_int (fun _ _=>rfl)) (ma_cons (sv C 1 rfl) ma_nil rfl) rfl) rfl))
  (j2 (jv (Wq (j7 om_lt (sv C 2 rfl) me_int (nomark _)) (xx (j7 (om_eq C.un) (me_idx (sv C 0 rfl) me_int (fun _ _=>rfl)) (me_str xn) (nomark _)))).t
  (j3 (j5 (zw (j7 om_lt (sv C 2 rfl) me_int (nomark _)) (sv C 2 rfl) (me_bin Ui me_int (sv C 2 rfl)))))
  j6)
  (j3 (j5 (zw (j7 (om_eq C.un) (sv C 2 rfl) (Z0 Kj (C.g 0 rfl) T.n_int PyProof.Rows.boot_int (ma_cons (me_cmp (om_eq C.un) (me_idx (sv C 0 rfl) me_int (fun _ _=>rfl)) (me_str yy) (nomark _)) ma_nil rfl)) (nomark _)) (sv C 2 rfl) (me_fn ih0 (hr.mono (by omega)) (C.g 1 rfl) (ma_cons (me_idx (sv C 0 rfl) me_int (fun _ _=>rfl)) (ma_cons (sv C 1 rfl) ma_nil rfl) rfl) rfl))))))
  j6)
  (j2 (sa C 2 rfl (me_fn (d5 T) (hr.mono (by omega)) (C.g 2 rfl) (ma_cons (me_idx (sv C 0 rfl) me_int (fun _ _=>rfl)) (ma_cons (sv C 1 rfl) ma_nil rfl) rfl) rfl))
  (j2 (sa C 3 rfl (zw (xv (sv C 2 rfl)) zt (me_fn (d5 T) (hr.mono (by omega)) (C.g 2 rfl) (ma_cons (me_idx (sv C 0 rfl) me_int (fun _ _=>rfl)) (ma_cons (sv C 1 rfl) ma_nil rfl) rfl) rfl)))
  (j2 (jv (xv (sv C 3 rfl))
  (j3 (j5 (wr me_int)))
  j6)
  (j2 (sa C 4 rfl (Bs (Ue Xb (me_cmp (om_eq C.un) (sv C 2 rfl) (sv C 3 rfl) (nomark _)) (Ue Wx (me_cmp (Ql C.un) (sv C 2 rfl) (sv C 3 rfl) (nomark _)) (Ue V7 (me_cmp om_lt (sv C 2 rfl) (sv C 3 rfl) (nomark _)) (Ue x9 (me_cmp G6 (sv C 2 rfl) (sv C 3 rfl) (nomark _)) vt)))) (by decide) rfl rfl (by intro h;cases h) (by decide)))
  (j2 (fk C.un (sv C 4 rfl) (me_str gf) (me_cmp Vd (sv C 2 rfl) (sv C 3 rfl) (nomark _)))
  (j2 (fk C.un (sv C 4 rfl) (me_str Zy) (me_cmp om_ge (sv C 2 rfl) (sv C 3 rfl) (nomark _)))
  (j3 (j5 (Z0 Kj (C.g 0 rfl) T.n_int PyProof.Rows.boot_int (ma_cons (Q4 C.un (sv C 4 rfl) (me_idx (sv C 0 rfl) me_int (fun _ _=>rfl)) (fun _ _=>rfl)) ma_nil rfl))))))))))))
theorem al8 (T:Tx w K mg):Jo P w K mg base "_law_says" 65 2 ae0:=(a93 T 50)
theorem a53:FnScope ["_law_script","_law_long","_law_tree","_law_code_here","_law_k_here","_law_packet_here","_law_found"] ["_law_script"] (defScope bd):=⟨rfl,rfl,rfl,by decide +kernel,rfl,by decide +kernel,by decide +kernel⟩
theorem al7 (T:Tx w K mg) {f:Addr} {fd:FuncData} (F:Fun K "law" "law" bd f fd):FnOk P w K mg base CX0 66 f fd ["_law_script"] (spM K 1 f_law):=by
 refine a9 F a53 rfl rfl fun cdv A outer s H E hr=>?_
 have C:=ae4 (CX:=CX0) (P:=P) (w:=w) (K:=K) (mg:=mg) (base:=base) (outer:=outer) (H:=H) (E:=E) a53.nd (Cu (by decide +kernel)) (ac8 (show glB _ ["_law_mix","_law_chain","_law_truth","compiled","isinstance","list","is_let_in","_law_fault","range","_law_packet","run","_law_whole","_law_says","int"]=true from (by decide +kernel))) hr
 exact ((j2 (sa C 1 rfl (me_cmp (om_eq C.un) (me_bin om_mod (me_fn (ok_mix T) (hr.mono (by decide)) (C.g 0 rfl) (ma_cons (sv C 0 rfl) (ma_cons me_int ma_nil rfl) rfl) rfl) me_int) me_int (nomark _)))
  (j2 (sa C 2 rfl (zw (Jg (sv C 1 rfl) (fun _=>rfl)) (me_fn (aa0 T) (hr.mono (by decide)) (C.g 1 rfl) (ma_cons (sv C 0 rfl) (ma_cons (me_bin om_add me_int (me_bin om_mod (me_fn (ok_mix T) (hr.mono (by decide)) (C.g 0 rfl) (ma_cons (sv C 0 rfl) (ma_cons me_int ma_nil rfl) rfl) rfl) me_int)) ma_nil rfl) rfl) rfl) (me_fn (a96 T) (hr.mono (by decide)) (C.g 2 rfl) (ma_cons (sv C 0 rfl) (ma_cons me_int (ma_cons me_int ma_nil rfl) rfl) rfl) rfl)))
  (j2 (sa C 3 rfl (me_fn (gp T) (hr.mono (by decide)) (C.g 3 rfl) (ma_cons (sv C 2 rfl) ma_nil rfl) rfl))
  (j2 (jv (Wq (zu (Jg (xu .list M.boot_list (C.g 4 rfl) T.n_isinstance (C.g 5 rfl) T.n_list (sv C 3 rfl)) (fun _=>rfl))) (Wq (zu (Jg (me_fn (Vb T) (hr.mono (by decide)) (C.g 6 rfl) (ma_cons (sv C 3 rfl) ma_nil rfl) rfl) (fun _=>rfl))) (xx (xw (zu (Jg (sv C 1 rfl) (fun _=>rfl))) (Q2 (j7 om_ge (me_fn (a99 T) (hr.mono (by decide)) (C.g 7 rfl) (ma_cons (sv C 3 rfl) ma_nil rfl) rfl) me_int (nomark _)))).t))).t
  (j3 (j5 X9))
  j6)
  (j2 (Yx PassesOwn.never C.calm (Um (C.g 8 rfl) T.n_range me_int) (st C 4 rfl)
  (j2 (sa C 5 rfl (me_fn (Ac T) (hr.mono (by decide)) (C.g 9 rfl) (ma_cons (sv C 0 rfl) (ma_cons (me_bin om_add me_int (me_bin om_mul me_int (sv C 4 rfl))) ma_nil rfl) rfl) rfl))
  (j2 (sa C 6 rfl (me_fn (a98 T) (hr.mono (by decide)) (C.g 10 rfl) (ma_cons (sv C 3 rfl) (ma_cons (sv C 5 rfl) ma_nil rfl) rfl) rfl))
  (j3 (jv (Wq (zu (Jg (me_fn (a94 T) (hr.mono (by decide)) (C.g 11 rfl) (ma_cons (sv C 6 rfl) ma_nil rfl) rfl) (fun _=>rfl))) (xx (j7 (Ql C.un) (sv C 6 rfl) (Z0 Kj (C.g 13 rfl) T.n_int PyProof.Rows.boot_int (ma_cons (me_cmp (om_eq C.un) (me_fn (al8 T) (hr.mono (by decide)) (C.g 12 rfl) (ma_cons (sv C 2 rfl) (ma_cons (sv C 5 rfl) ma_nil rfl) rfl) rfl) me_int (nomark _)) ma_nil rfl)) (nomark _)))).t
  (j3 (j5 X9))
  j6)))))
  (j3 (j5 X9))))))))
theorem finish {fa:Addr} (hmg:mg "law"=some (.ref fa)) (T:Tx w K mg):∃ fd:FuncData,qd fd ["_law_script"]∧∀ base:Heap,FnOk P w K mg base CX0 66 fa fd ["_law_script"] (spM K 1 f_law):=by
 obtain ⟨f,fd,h1,h2,h3⟩:=T.d_law
 have e:=hmg.symm.trans h1
 cases e
 exact ⟨fd,h3,fun base=>al7 T h2⟩
theorem mkT {h:Heap} (KX:K.In h) (G:h.Ns mainGlobals mg)
    (n_len:PySem.W.nsIn K mainGlobals "len"=some none)
    (n_range:PySem.W.nsIn K mainGlobals "range"=some none)
    (n_list:PySem.W.nsIn K mainGlobals "list"=some none)
    (n_reversed:PySem.W.nsIn K mainGlobals "reversed"=some none)
    (n_isinstance:PySem.W.nsIn K mainGlobals "isinstance"=some none)
    (n_enumerate:PySem.W.nsIn K mainGlobals "enumerate"=some none)
    (n_tuple:PySem.W.nsIn K mainGlobals "tuple"=some none)
    (n_str:PySem.W.nsIn K mainGlobals "str"=some none)
    (n_zip:PySem.W.nsIn K mainGlobals "zip"=some none)
    (n_int:PySem.W.nsIn K mainGlobals "int"=some none)
    (n_bool:PySem.W.nsIn K mainGlobals "bool"=some none)
    (n_all:PySem.W.nsIn K mainGlobals "all"=some none)
    (n_any:PySem.W.nsIn K mainGlobals "any"=some none)
    (n_max:PySem.W.nsIn K mainGlobals "max"=some none)
    (n_sum:PySem.W.nsIn K mainGlobals "sum"=some none)
    (n_min:PySem.W.nsIn K mainGlobals "min"=some none)
    {p_OPS:Addr} {t0_OPS t1_OPS t2_OPS t3_OPS t4_OPS t5_OPS t6_OPS t7_OPS t8_OPS t9_OPS:Tok} {od_OPS:Option Addr} {z_OPS:Nat} {sl_OPS:Array (Option Value)}
    (a_OPS:PySem.W.nsIn K mainGlobals "OPS"=some (some (.ref p_OPS)))
    (l_OPS:K.lookup p_OPS=some ⟨.type "tuple",od_OPS,.seq #[.str ⟨Jc.toArray⟩ t0_OPS,.str ⟨Jt.toArray⟩ t1_OPS,.str ⟨Jx.toArray⟩ t2_OPS,.str ⟨jb.toArray⟩ t3_OPS,.str ⟨J3.toArray⟩ t4_OPS,.str ⟨Jh.toArray⟩ t5_OPS,.str ⟨Ux.toArray⟩ t6_OPS,.str ⟨uz.toArray⟩ t7_OPS,.str ⟨w_left.toArray⟩ t8_OPS,.str ⟨w_right.toArray⟩ t9_OPS] z_OPS,sl_OPS⟩)
    {t_SLOTS:Tok}
    (a_SLOTS:PySem.W.nsIn K mainGlobals "SLOTS"=some (some (.int 8 t_SLOTS)))
    {p_TEST_OF:Addr} {ep_TEST_OF:Nat} {k0_TEST_OF k1_TEST_OF k2_TEST_OF k3_TEST_OF k4_TEST_OF k5_TEST_OF:Tok} {v0_TEST_OF v1_TEST_OF v2_TEST_OF v3_TEST_OF v4_TEST_OF v5_TEST_OF:Addr}
    (a_TEST_OF:PySem.W.nsIn K mainGlobals "TEST_OF"=some (some (.ref p_TEST_OF)))
    (l_TEST_OF:K.lookup p_TEST_OF=some ⟨.type "dict",none,.dict #[⟨PyData.keyHash w.params ⟨uh.toArray⟩,.str ⟨uh.toArray⟩ k0_TEST_OF,.ref v0_TEST_OF⟩,⟨PyData.keyHash w.params ⟨Jm.toArray⟩,.str ⟨Jm.toArray⟩ k1_TEST_OF,.ref v1_TEST_OF⟩,⟨PyData.keyHash w.params ⟨J1.toArray⟩,.str ⟨J1.toArray⟩ k2_TEST_OF,.ref v2_TEST_OF⟩,⟨PyData.keyHash w.params ⟨U1.toArray⟩,.str ⟨U1.toArray⟩ k3_TEST_OF,.ref v3_TEST_OF⟩,⟨PyData.keyHash w.params ⟨jd.toArray⟩,.str ⟨jd.toArray⟩ k4_TEST_OF,.ref v4_TEST_OF⟩,⟨PyData.keyHash w.params ⟨ur.toArray⟩,.str ⟨ur.toArray⟩ k5_TEST_OF,.ref v5_TEST_OF⟩] ep_TEST_OF,#[]⟩)
    (h_TEST_OF:(p_TEST_OF == sysModules)=false)
    {u0_0_TEST_OF:Tok} {od0_TEST_OF:Option Addr} {z0_TEST_OF:Nat} {sl0_TEST_OF:Array (Option Value)}
    (l0_TEST_OF:K.lookup v0_TEST_OF=some ⟨.type "tuple",od0_TEST_OF,.seq #[.str ⟨u6.toArray⟩ u0_0_TEST_OF,.bool true] z0_TEST_OF,sl0_TEST_OF⟩)
    {u1_0_TEST_OF:Tok} {od1_TEST_OF:Option Addr} {z1_TEST_OF:Nat} {sl1_TEST_OF:Array (Option Value)}
    (l1_TEST_OF:K.lookup v1_TEST_OF=some ⟨.type "tuple",od1_TEST_OF,.seq #[.str ⟨u6.toArray⟩ u1_0_TEST_OF,.bool false] z1_TEST_OF,sl1_TEST_OF⟩)
    {u2_0_TEST_OF:Tok} {od2_TEST_OF:Option Addr} {z2_TEST_OF:Nat} {sl2_TEST_OF:Array (Option Value)}
    (l2_TEST_OF:K.lookup v2_TEST_OF=some ⟨.type "tuple",od2_TEST_OF,.seq #[.str ⟨J1.toArray⟩ u2_0_TEST_OF,.bool true] z2_TEST_OF,sl2_TEST_OF⟩)
    {u3_0_TEST_OF:Tok} {od3_TEST_OF:Option Addr} {z3_TEST_OF:Nat} {sl3_TEST_OF:Array (Option Value)}
    (l3_TEST_OF:K.lookup v3_TEST_OF=some ⟨.type "tuple",od3_TEST_OF,.seq #[.str ⟨J1.toArray⟩ u3_0_TEST_OF,.bool false] z3_TEST_OF,sl3_TEST_OF⟩)
    {u4_0_TEST_OF:Tok} {od4_TEST_OF:Option Addr} {z4_TEST_OF:Nat} {sl4_TEST_OF:Array (Option Value)}
    (l4_TEST_OF:K.lookup v4_TEST_OF=some ⟨.type "tuple",od4_TEST_OF,.seq #[.str ⟨jd.toArray⟩ u4_0_TEST_OF,.bool true] z4_TEST_OF,sl4_TEST_OF⟩)
    {u5_0_TEST_OF:Tok} {od5_TEST_OF:Option Addr} {z5_TEST_OF:Nat} {sl5_TEST_OF:Array (Option Value)}
    (l5_TEST_OF:K.lookup v5_TEST_OF=some ⟨.type "tuple",od5_TEST_OF,.seq #[.str ⟨jd.toArray⟩ u5_0_TEST_OF,.bool false] z5_TEST_OF,sl5_TEST_OF⟩)
    {t_MOST_STEPS:Tok}
    (a_MOST_STEPS:PySem.W.nsIn K mainGlobals "MOST_STEPS"=some (some (.int 2000 t_MOST_STEPS)))
    {p_PARTS:Addr} {ep_PARTS:Nat} {k0_PARTS k1_PARTS k2_PARTS k3_PARTS k4_PARTS k5_PARTS k6_PARTS k7_PARTS k8_PARTS k9_PARTS k10_PARTS k11_PARTS k12_PARTS k13_PARTS k14_PARTS:Tok} {v0_PARTS v1_PARTS v2_PARTS v3_PARTS v4_PARTS v5_PARTS v6_PARTS v7_PARTS v8_PARTS v9_PARTS v10_PARTS v11_PARTS v12_PARTS v13_PARTS v14_PARTS:Addr}
    (a_PARTS:PySem.W.nsIn K mainGlobals "PARTS"=some (some (.ref p_PARTS)))
    (l_PARTS:K.lookup p_PARTS=some ⟨.type "dict",none,.dict #[⟨PyData.keyHash w.params ⟨Uj.toArray⟩,.str ⟨Uj.toArray⟩ k0_PARTS,.ref v0_PARTS⟩,⟨PyData.keyHash w.params ⟨yz.toArray⟩,.str ⟨yz.toArray⟩ k1_PARTS,.ref v1_PARTS⟩,⟨PyData.keyHash w.params ⟨Zc.toArray⟩,.str ⟨Zc.toArray⟩ k2_PARTS,.ref v2_PARTS⟩,⟨PyData.keyHash w.params ⟨yf.toArray⟩,.str ⟨yf.toArray⟩ k3_PARTS,.ref v3_PARTS⟩,⟨PyData.keyHash w.params ⟨w_tax.toArray⟩,.str ⟨w_tax.toArray⟩ k4_PARTS,.ref v4_PARTS⟩,⟨PyData.keyHash w.params ⟨xo.toArray⟩,.str ⟨xo.toArray⟩ k5_PARTS,.ref v5_PARTS⟩,⟨PyData.keyHash w.params ⟨w_keep.toArray⟩,.str ⟨w_keep.toArray⟩ k6_PARTS,.ref v6_PARTS⟩,⟨PyData.keyHash w.params ⟨U5.toArray⟩,.str ⟨U5.toArray⟩ k7_PARTS,.ref v7_PARTS⟩,⟨PyData.keyHash w.params ⟨gy.toArray⟩,.str ⟨gy.toArray⟩ k8_PARTS,.ref v8_PARTS⟩,⟨PyData.keyHash w.params ⟨Zb.toArray⟩,.str ⟨Zb.toArray⟩ k9_PARTS,.ref v9_PARTS⟩,⟨PyData.keyHash w.params ⟨Uw.toArray⟩,.str ⟨Uw.toArray⟩ k10_PARTS,.ref v10_PARTS⟩,⟨PyData.keyHash w.params ⟨x0.toArray⟩,.str ⟨x0.toArray⟩ k11_PARTS,.ref v11_PARTS⟩,⟨PyData.keyHash w.params ⟨yg.toArray⟩,.str ⟨yg.toArray⟩ k12_PARTS,.ref v12_PARTS⟩,⟨PyData.keyHash w.params ⟨ue.toArray⟩,.str ⟨ue.toArray⟩ k13_PARTS,.ref v13_PARTS⟩,⟨PyData.keyHash w.params ⟨U4.toArray⟩,.str ⟨U4.toArray⟩ k14_PARTS,.ref v14_PARTS⟩] ep_PARTS,#[]⟩)
    (h_PARTS:(p_PARTS == sysModules)=false)
    {u0_0_PARTS u0_1_PARTS u0_2_PARTS:Tok} {od0_PARTS:Option Addr} {z0_PARTS:Nat} {sl0_PARTS:Array (Option Value)}
    (l0_PARTS:K.lookup v0_PARTS=some ⟨.type "tuple",od0_PARTS,.seq #[.str ⟨Xc.toArray⟩ u0_0_PARTS,.str ⟨w9.toArray⟩ u0_1_PARTS,.str ⟨js.toArray⟩ u0_2_PARTS] z0_PARTS,sl0_PARTS⟩)
    {od1_PARTS:Option Addr} {z1_PARTS:Nat} {sl1_PARTS:Array (Option Value)}
    (l1_PARTS:K.lookup v1_PARTS=some ⟨.type "tuple",od1_PARTS,.seq #[] z1_PARTS,sl1_PARTS⟩)
    {u2_0_PARTS:Tok} {od2_PARTS:Option Addr} {z2_PARTS:Nat} {sl2_PARTS:Array (Option Value)}
    (l2_PARTS:K.lookup v2_PARTS=some ⟨.type "tuple",od2_PARTS,.seq #[.str ⟨js.toArray⟩ u2_0_PARTS] z2_PARTS,sl2_PARTS⟩)
    {u3_0_PARTS:Tok} {od3_PARTS:Option Addr} {z3_PARTS:Nat} {sl3_PARTS:Array (Option Value)}
    (l3_PARTS:K.lookup v3_PARTS=some ⟨.type "tuple",od3_PARTS,.seq #[.str ⟨js.toArray⟩ u3_0_PARTS] z3_PARTS,sl3_PARTS⟩)
    {od4_PARTS:Option Addr} {z4_PARTS:Nat} {sl4_PARTS:Array (Option Value)}
    (l4_PARTS:K.lookup v4_PARTS=some ⟨.type "tuple",od4_PARTS,.seq #[] z4_PARTS,sl4_PARTS⟩)
    {od5_PARTS:Option Addr} {z5_PARTS:Nat} {sl5_PARTS:Array (Option Value)}
    (l5_PARTS:K.lookup v5_PARTS=some ⟨.type "tuple",od5_PARTS,.seq #[] z5_PARTS,sl5_PARTS⟩)
    {u6_0_PARTS:Tok} {od6_PARTS:Option Addr} {z6_PARTS:Nat} {sl6_PARTS:Array (Option Value)}
    (l6_PARTS:K.lookup v6_PARTS=some ⟨.type "tuple",od6_PARTS,.seq #[.str ⟨Zz.toArray⟩ u6_0_PARTS] z6_PARTS,sl6_PARTS⟩)
    {u7_0_PARTS:Tok} {od7_PARTS:Option Addr} {z7_PARTS:Nat} {sl7_PARTS:Array (Option Value)}
    (l7_PARTS:K.lookup v7_PARTS=some ⟨.type "tuple",od7_PARTS,.seq #[.str ⟨Zz.toArray⟩ u7_0_PARTS] z7_PARTS,sl7_PARTS⟩)
    {u8_0_PARTS u8_1_PARTS:Tok} {od8_PARTS:Option Addr} {z8_PARTS:Nat} {sl8_PARTS:Array (Option Value)}
    (l8_PARTS:K.lookup v8_PARTS=some ⟨.type "tuple",od8_PARTS,.seq #[.str ⟨Gi.toArray⟩ u8_0_PARTS,.str ⟨js.toArray⟩ u8_1_PARTS] z8_PARTS,sl8_PARTS⟩)
    {u9_0_PARTS:Tok} {od9_PARTS:Option Addr} {z9_PARTS:Nat} {sl9_PARTS:Array (Option Value)}
    (l9_PARTS:K.lookup v9_PARTS=some ⟨.type "tuple",od9_PARTS,.seq #[.str ⟨Gi.toArray⟩ u9_0_PARTS] z9_PARTS,sl9_PARTS⟩)
    {u10_0_PARTS:Tok} {od10_PARTS:Option Addr} {z10_PARTS:Nat} {sl10_PARTS:Array (Option Value)}
    (l10_PARTS:K.lookup v10_PARTS=some ⟨.type "tuple",od10_PARTS,.seq #[.str ⟨Jy.toArray⟩ u10_0_PARTS] z10_PARTS,sl10_PARTS⟩)
    {u11_0_PARTS u11_1_PARTS u11_2_PARTS u11_3_PARTS:Tok} {od11_PARTS:Option Addr} {z11_PARTS:Nat} {sl11_PARTS:Array (Option Value)}
    (l11_PARTS:K.lookup v11_PARTS=some ⟨.type "tuple",od11_PARTS,.seq #[.str ⟨Qc.toArray⟩ u11_0_PARTS,.str ⟨js.toArray⟩ u11_1_PARTS,.str ⟨Jy.toArray⟩ u11_2_PARTS,.str ⟨Jy.toArray⟩ u11_3_PARTS] z11_PARTS,sl11_PARTS⟩)
    {u12_0_PARTS u12_1_PARTS u12_2_PARTS:Tok} {od12_PARTS:Option Addr} {z12_PARTS:Nat} {sl12_PARTS:Array (Option Value)}
    (l12_PARTS:K.lookup v12_PARTS=some ⟨.type "tuple",od12_PARTS,.seq #[.str ⟨Qc.toArray⟩ u12_0_PARTS,.str ⟨Jy.toArray⟩ u12_1_PARTS,.str ⟨Jy.toArray⟩ u12_2_PARTS] z12_PARTS,sl12_PARTS⟩)
    {u13_0_PARTS:Tok} {od13_PARTS:Option Addr} {z13_PARTS:Nat} {sl13_PARTS:Array (Option Value)}
    (l13_PARTS:K.lookup v13_PARTS=some ⟨.type "tuple",od13_PARTS,.seq #[.str ⟨js.toArray⟩ u13_0_PARTS] z13_PARTS,sl13_PARTS⟩)
    {od14_PARTS:Option Addr} {z14_PARTS:Nat} {sl14_PARTS:Array (Option Value)}
    (l14_PARTS:K.lookup v14_PARTS=some ⟨.type "tuple",od14_PARTS,.seq #[] z14_PARTS,sl14_PARTS⟩)
    {t_ROUND:Tok}
    (a_ROUND:PySem.W.nsIn K mainGlobals "ROUND"=some (some (.int 4294967296 t_ROUND)))
    {p_SIZES:Addr} {t0_SIZES t1_SIZES t2_SIZES:Tok} {od_SIZES:Option Addr} {z_SIZES:Nat} {sl_SIZES:Array (Option Value)}
    (a_SIZES:PySem.W.nsIn K mainGlobals "SIZES"=some (some (.ref p_SIZES)))
    (l_SIZES:K.lookup p_SIZES=some ⟨.type "tuple",od_SIZES,.seq #[.int 1 t0_SIZES,.int 2 t1_SIZES,.int 4 t2_SIZES] z_SIZES,sl_SIZES⟩)
    {t_FARTHEST:Tok}
    (a_FARTHEST:PySem.W.nsIn K mainGlobals "FARTHEST"=some (some (.int 2000 t_FARTHEST)))
    {p_BASES:Addr} {t0_BASES t1_BASES:Tok} {od_BASES:Option Addr} {z_BASES:Nat} {sl_BASES:Array (Option Value)}
    (a_BASES:PySem.W.nsIn K mainGlobals "BASES"=some (some (.ref p_BASES)))
    (l_BASES:K.lookup p_BASES=some ⟨.type "tuple",od_BASES,.seq #[.str ⟨a38.toArray⟩ t0_BASES,.str ⟨w_x.toArray⟩ t1_BASES] z_BASES,sl_BASES⟩)
    {p_TESTS:Addr} {t0_TESTS t1_TESTS t2_TESTS t3_TESTS:Tok} {od_TESTS:Option Addr} {z_TESTS:Nat} {sl_TESTS:Array (Option Value)}
    (a_TESTS:PySem.W.nsIn K mainGlobals "TESTS"=some (some (.ref p_TESTS)))
    (l_TESTS:K.lookup p_TESTS=some ⟨.type "tuple",od_TESTS,.seq #[.str ⟨u6.toArray⟩ t0_TESTS,.str ⟨J1.toArray⟩ t1_TESTS,.str ⟨jd.toArray⟩ t2_TESTS,.str ⟨Et.toArray⟩ t3_TESTS] z_TESTS,sl_TESTS⟩)
    {p_DIVIDING:Addr} {t0_DIVIDING t1_DIVIDING:Tok} {od_DIVIDING:Option Addr} {z_DIVIDING:Nat} {sl_DIVIDING:Array (Option Value)}
    (a_DIVIDING:PySem.W.nsIn K mainGlobals "DIVIDING"=some (some (.ref p_DIVIDING)))
    (l_DIVIDING:K.lookup p_DIVIDING=some ⟨.type "tuple",od_DIVIDING,.seq #[.str ⟨jb.toArray⟩ t0_DIVIDING,.str ⟨J3.toArray⟩ t1_DIVIDING] z_DIVIDING,sl_DIVIDING⟩)
    {p_SHIFTING:Addr} {t0_SHIFTING t1_SHIFTING:Tok} {od_SHIFTING:Option Addr} {z_SHIFTING:Nat} {sl_SHIFTING:Array (Option Value)}
    (a_SHIFTING:PySem.W.nsIn K mainGlobals "SHIFTING"=some (some (.ref p_SHIFTING)))
    (l_SHIFTING:K.lookup p_SHIFTING=some ⟨.type "tuple",od_SHIFTING,.seq #[.str ⟨w_left.toArray⟩ t0_SHIFTING,.str ⟨w_right.toArray⟩ t1_SHIFTING] z_SHIFTING,sl_SHIFTING⟩)
    {t_WIDTH:Tok}
    (a_WIDTH:PySem.W.nsIn K mainGlobals "WIDTH"=some (some (.int 32 t_WIDTH)))
    {q_Machine:Addr}
    (a_Machine:PySem.W.nsIn K mainGlobals "Machine"=some (some (.ref q_Machine)))
    (p1_Machine:PySem.W.plainGet K q_Machine Str.empty=true)
    (p2_Machine:PySem.W.hasDictIn K q_Machine=true)
    (p3_Machine:PySem.W.plainOver K q_Machine=true)
    (p4_Machine:PySem.W.findIn K (.ref q_Machine) "__setattr__"=some (some (.builtin "object.__setattr__")))
    (na_Machine_hand:PySem.W.findIn K (.ref q_Machine) "hand"=some none)
    (na_Machine_other:PySem.W.findIn K (.ref q_Machine) "other"=some none)
    (na_Machine_slots:PySem.W.findIn K (.ref q_Machine) "slots"=some none)
    (na_Machine_place:PySem.W.findIn K (.ref q_Machine) "place"=some none)
    (na_Machine_done:PySem.W.findIn K (.ref q_Machine) "done"=some none)
    (na_Machine_told:PySem.W.findIn K (.ref q_Machine) "told"=some none)
    {q_p_Machine__init__:Addr} {oc_p_Machine__init__ kV_p_Machine__init__ dc_p_Machine__init__ pm_p_Machine__init__ cd_p_Machine__init__ ct_p_Machine__init__:Value} {od_p_Machine__init__ an_p_Machine__init__:Option Addr} {os_p_Machine__init__:Array (Option Value)}
    (i_p_Machine__init__:PySem.W.findIn K (.ref q_Machine) "__init__"=some (some (.ref q_p_Machine__init__)))
    (l_p_Machine__init__:K.lookup q_p_Machine__init__=some ⟨oc_p_Machine__init__,od_p_Machine__init__,.func (PySem.W.fnOf "__init__" "Machine.__init__" (defArgs s_p_Machine__init__) (defBody s_p_Machine__init__) (defScope s_p_Machine__init__) .none kV_p_Machine__init__ dc_p_Machine__init__ pm_p_Machine__init__ an_p_Machine__init__ cd_p_Machine__init__ ct_p_Machine__init__),os_p_Machine__init__⟩)
    (c_p_Machine__init__:PySem.W.codeIn K cd_p_Machine__init__ "Machine.__init__"=true)
    (k_p_Machine__init__:PySem.W.keepIn K (.ref q_p_Machine__init__)=true)
    (m1_p_Machine__init__:PySem.W.makesIn K q_Machine=true)
    (m2_p_Machine__init__:PySem.W.isFn K (.ref q_p_Machine__init__)=true)
    (m3_p_Machine__init__:PySem.W.keepIn K (.ref q_Machine)=true)
    (d_cell:Jz K "_law_cell" a57)
    (d_mix:Jz K "_law_mix" ar6)
    (d_chain:Jz K "_law_chain" bb)
    (d_op:Jz K "_law_op" aJ6)
    (d_number:Jz K "_law_number" El)
    (d_truth:Jz K "_law_truth" bg)
    (d_p_tasks_of_pair:Jz K "tasks_of_pair" zy)
    (d_p_tasks_of_number:Jz K "tasks_of_number" Yt)
    (d_p_step_of_test:Jz K "step_of_test" zd)
    (d_p_make_truth:Jz K "make_truth" q9)
    (d_p_task_of_first:Jz K "task_of_first" zx)
    (d_p_compiled:Jz K "compiled" X4)
    (d_p_no_slots:Jz K "no_slots" X1)
    (d_p_is_whole:Jz K "is_whole" X2)
    (d_p_is_number:Jz K "is_number" Qo)
    (d_p_is_part:Jz K "is_part" Wu)
    (d_p_can_be_done_by:Jz K "can_be_done_by" Yh)
    (d_p_is_step:Jz K "is_step" qz)
    (d_p_lacks_its_slot:Jz K "lacks_its_slot" Yi)
    (d_p_goals_from:Jz K "goals_from" qx)
    (d_p_hand_on:Jz K "hand_on" qy)
    (d_p_kept_behind:Jz K "kept_behind" Yz)
    (d_p_first_wrong_place:Jz K "first_wrong_place" U2)
    (d_p_is_let_in:Jz K "is_let_in" Qn)
    (d_goals:Jz K "_law_goals" bc)
    (d_there:Jz K "_law_there" bf)
    (d_unset:Jz K "_law_unset" bh)
    (d_fault:Jz K "_law_fault" Gc)
    (d_packet:Jz K "_law_packet" Vm)
    (d_p_put_away:Jz K "put_away" X0)
    (d_p_take_in_hand:Jz K "take_in_hand" ze)
    (d_p_loaded:Jz K "loaded" Vl)
    (d_p_shifted:Jz K "shifted" Wv)
    (d_p_plainly_reckoned:Jz K "plainly_reckoned" Y5)
    (d_p_reckoned:Jz K "reckoned" xa)
    (d_p_fetched:Jz K "fetched" Wt)
    (d_p_value_of:Jz K "value_of" xb)
    (d_p_holds:Jz K "holds" G0)
    (d_p_distance:Jz K "distance" X3)
    (d_p_do_step:Jz K "do_step" Ws)
    (d_p_ended:Jz K "ended" G1)
    (d_p_run:Jz K "run" be)
    (d_whole:Jz K "_law_whole" bj)
    (d_bytes:Jz K "_law_bytes" Gb)
    (d_reckoned:Jz K "_law_reckoned" Vn)
    (d_worth:Jz K "_law_worth" bn)
    (d_says:Jz K "_law_says" a55)
    (d_law:Jz K "law" bd):Tx w K mg :=
  ⟨PySem.W.mg_none_of KX G n_len,
   PySem.W.mg_none_of KX G n_range,
   PySem.W.mg_none_of KX G n_list,
   PySem.W.mg_none_of KX G n_reversed,
   PySem.W.mg_none_of KX G n_isinstance,
   PySem.W.mg_none_of KX G n_enumerate,
   PySem.W.mg_none_of KX G n_tuple,
   PySem.W.mg_none_of KX G n_str,
   PySem.W.mg_none_of KX G n_zip,
   PySem.W.mg_none_of KX G n_int,
   PySem.W.mg_none_of KX G n_bool,
   PySem.W.mg_none_of KX G n_all,
   PySem.W.mg_none_of KX G n_any,
   PySem.W.mg_none_of KX G n_max,
   PySem.W.mg_none_of KX G n_sum,
   PySem.W.mg_none_of KX G n_min,
   Yl (vs:=[.str ⟨Jc.toArray⟩,.str ⟨Jt.toArray⟩,.str ⟨Jx.toArray⟩,.str ⟨jb.toArray⟩,.str ⟨J3.toArray⟩,.str ⟨Jh.toArray⟩,.str ⟨Ux.toArray⟩,.str ⟨uz.toArray⟩,.str ⟨w_left.toArray⟩,.str ⟨w_right.toArray⟩]) KX G a_OPS l_OPS (by show 10≤16777216;decide) (.cons ⟨_,rfl⟩ (.cons ⟨_,rfl⟩ (.cons ⟨_,rfl⟩ (.cons ⟨_,rfl⟩ (.cons ⟨_,rfl⟩ (.cons ⟨_,rfl⟩ (.cons ⟨_,rfl⟩ (.cons ⟨_,rfl⟩ (.cons ⟨_,rfl⟩ (.cons ⟨_,rfl⟩ .nil)))))))))) (fun F α=>(j4 (by unfold Rep;rfl) (j4 (by unfold Rep;rfl) (j4 (by unfold Rep;rfl) (j4 (by unfold Rep;rfl) (j4 (by unfold Rep;rfl) (j4 (by unfold Rep;rfl) (j4 (by unfold Rep;rfl) (j4 (by unfold Rep;rfl) (j4 (by unfold Rep;rfl) (j4 (by unfold Rep;rfl) jy))))))))))),
   Z9 KX G a_SLOTS,
   ae [(uh,k0_TEST_OF,v0_TEST_OF),(Jm,k1_TEST_OF,v1_TEST_OF),(J1,k2_TEST_OF,v2_TEST_OF),(U1,k3_TEST_OF,v3_TEST_OF),(jd,k4_TEST_OF,v4_TEST_OF),(ur,k5_TEST_OF,v5_TEST_OF)] KX G a_TEST_OF l_TEST_OF h_TEST_OF (show ([uh,Jm,J1,U1,jd,ur]:List (List Nat)).Nodup by decide) rfl (fun F α=>(j4 (Ju (vs:=[.str ⟨u6.toArray⟩,.bl true]) l0_TEST_OF (by show 2≤16777216;decide) (.cons ⟨_,rfl⟩ (.cons rfl .nil)) (j4 (by unfold Rep;rfl) (j4 (by unfold Rep;rfl) jy))) (j4 (Ju (vs:=[.str ⟨u6.toArray⟩,.bl false]) l1_TEST_OF (by show 2≤16777216;decide) (.cons ⟨_,rfl⟩ (.cons rfl .nil)) (j4 (by unfold Rep;rfl) (j4 (by unfold Rep;rfl) jy))) (j4 (Ju (vs:=[.str ⟨J1.toArray⟩,.bl true]) l2_TEST_OF (by show 2≤16777216;decide) (.cons ⟨_,rfl⟩ (.cons rfl .nil)) (j4 (by unfold Rep;rfl) (j4 (by unfold Rep;rfl) jy))) (j4 (Ju (vs:=[.str ⟨J1.toArray⟩,.bl false]) l3_TEST_OF (by show 2≤16777216;decide) (.cons ⟨_,rfl⟩ (.cons rfl .nil)) (j4 (by unfold Rep;rfl) (j4 (by unfold Rep;rfl) jy))) (j4 (Ju (vs:=[.str ⟨jd.toArray⟩,.bl true]) l4_TEST_OF (by show 2≤16777216;decide) (.cons ⟨_,rfl⟩ (.cons rfl .nil)) (j4 (by unfold Rep;rfl) (j4 (by unfold Rep;rfl) jy))) (j4 (Ju (vs:=[.str ⟨jd.toArray⟩,.bl false]) l5_TEST_OF (by show 2≤16777216;decide) (.cons ⟨_,rfl⟩ (.cons rfl .nil)) (j4 (by unfold Rep;rfl) (j4 (by unfold Rep;rfl) jy))) jy))))))),
   Z9 KX G a_MOST_STEPS,
   ae [(Uj,k0_PARTS,v0_PARTS),(yz,k1_PARTS,v1_PARTS),(Zc,k2_PARTS,v2_PARTS),(yf,k3_PARTS,v3_PARTS),(w_tax,k4_PARTS,v4_PARTS),(xo,k5_PARTS,v5_PARTS),(w_keep,k6_PARTS,v6_PARTS),(U5,k7_PARTS,v7_PARTS),(gy,k8_PARTS,v8_PARTS),(Zb,k9_PARTS,v9_PARTS),(Uw,k10_PARTS,v10_PARTS),(x0,k11_PARTS,v11_PARTS),(yg,k12_PARTS,v12_PARTS),(ue,k13_PARTS,v13_PARTS),(U4,k14_PARTS,v14_PARTS)] KX G a_PARTS l_PARTS h_PARTS (show ([Uj,yz,Zc,yf,w_tax,xo,w_keep,U5,gy,Zb,Uw,x0,yg,ue,U4]:List (List Nat)).Nodup by decide) rfl (fun F α=>(j4 (Ju (vs:=[.str ⟨Xc.toArray⟩,.str ⟨w9.toArray⟩,.str ⟨js.toArray⟩]) l0_PARTS (by show 3≤16777216;decide) (.cons ⟨_,rfl⟩ (.cons ⟨_,rfl⟩ (.cons ⟨_,rfl⟩ .nil))) (j4 (by unfold Rep;rfl) (j4 (by unfold Rep;rfl) (j4 (by unfold Rep;rfl) jy)))) (j4 (Ju (vs:=[]) l1_PARTS (by show 0≤16777216;decide) .nil jy) (j4 (Ju (vs:=[.str ⟨js.toArray⟩]) l2_PARTS (by show 1≤16777216;decide) (.cons ⟨_,rfl⟩ .nil) (j4 (by unfold Rep;rfl) jy)) (j4 (Ju (vs:=[.str ⟨js.toArray⟩]) l3_PARTS (by show 1≤16777216;decide) (.cons ⟨_,rfl⟩ .nil) (j4 (by unfold Rep;rfl) jy)) (j4 (Ju (vs:=[]) l4_PARTS (by show 0≤16777216;decide) .nil jy) (j4 (Ju (vs:=[]) l5_PARTS (by show 0≤16777216;decide) .nil jy) (j4 (Ju (vs:=[.str ⟨Zz.toArray⟩]) l6_PARTS (by show 1≤16777216;decide) (.cons ⟨_,rfl⟩ .nil) (j4 (by unfold Rep;rfl) jy)) (j4 (Ju (vs:=[.str ⟨Zz.toArray⟩]) l7_PARTS (by show 1≤16777216;decide) (.cons ⟨_,rfl⟩ .nil) (j4 (by unfold Rep;rfl) jy)) (j4 (Ju (vs:=[.str ⟨Gi.toArray⟩,.str ⟨js.toArray⟩]) l8_PARTS (by show 2≤16777216;decide) (.cons ⟨_,rfl⟩ (.cons ⟨_,rfl⟩ .nil)) (j4 (by unfold Rep;rfl) (j4 (by unfold Rep;rfl) jy))) (j4 (Ju (vs:=[.str ⟨Gi.toArray⟩]) l9_PARTS (by show 1≤16777216;decide) (.cons ⟨_,rfl⟩ .nil) (j4 (by unfold Rep;rfl) jy)) (j4 (Ju (vs:=[.str ⟨Jy.toArray⟩]) l10_PARTS (by show 1≤16777216;decide) (.cons ⟨_,rfl⟩ .nil) (j4 (by unfold Rep;rfl) jy)) (j4 (Ju (vs:=[.str ⟨Qc.toArray⟩,.str ⟨js.toArray⟩,.str ⟨Jy.toArray⟩,.str ⟨Jy.toArray⟩]) l11_PARTS (by show 4≤16777216;decide) (.cons ⟨_,rfl⟩ (.cons ⟨_,rfl⟩ (.cons ⟨_,rfl⟩ (.cons ⟨_,rfl⟩ .nil)))) (j4 (by unfold Rep;rfl) (j4 (by unfold Rep;rfl) (j4 (by unfold Rep;rfl) (j4 (by unfold Rep;rfl) jy))))) (j4 (Ju (vs:=[.str ⟨Qc.toArray⟩,.str ⟨Jy.toArray⟩,.str ⟨Jy.toArray⟩]) l12_PARTS (by show 3≤16777216;decide) (.cons ⟨_,rfl⟩ (.cons ⟨_,rfl⟩ (.cons ⟨_,rfl⟩ .nil))) (j4 (by unfold Rep;rfl) (j4 (by unfold Rep;rfl) (j4 (by unfold Rep;rfl) jy)))) (j4 (Ju (vs:=[.str ⟨js.toArray⟩]) l13_PARTS (by show 1≤16777216;decide) (.cons ⟨_,rfl⟩ .nil) (j4 (by unfold Rep;rfl) jy)) (j4 (Ju (vs:=[]) l14_PARTS (by show 0≤16777216;decide) .nil jy) jy)))))))))))))))),
   Z9 KX G a_ROUND,
   Yl (vs:=[.int 1,.int 2,.int 4]) KX G a_SIZES l_SIZES (by show 3≤16777216;decide) (.cons ⟨_,rfl⟩ (.cons ⟨_,rfl⟩ (.cons ⟨_,rfl⟩ .nil))) (fun F α=>(j4 (by unfold Rep;rfl) (j4 (by unfold Rep;rfl) (j4 (by unfold Rep;rfl) jy)))),
   Z9 KX G a_FARTHEST,
   Yl (vs:=[.str ⟨a38.toArray⟩,.str ⟨w_x.toArray⟩]) KX G a_BASES l_BASES (by show 2≤16777216;decide) (.cons ⟨_,rfl⟩ (.cons ⟨_,rfl⟩ .nil)) (fun F α=>(j4 (by unfold Rep;rfl) (j4 (by unfold Rep;rfl) jy))),
   Yl (vs:=[.str ⟨u6.toArray⟩,.str ⟨J1.toArray⟩,.str ⟨jd.toArray⟩,.str ⟨Et.toArray⟩]) KX G a_TESTS l_TESTS (by show 4≤16777216;decide) (.cons ⟨_,rfl⟩ (.cons ⟨_,rfl⟩ (.cons ⟨_,rfl⟩ (.cons ⟨_,rfl⟩ .nil)))) (fun F α=>(j4 (by unfold Rep;rfl) (j4 (by unfold Rep;rfl) (j4 (by unfold Rep;rfl) (j4 (by unfold Rep;rfl) jy))))),
   Yl (vs:=[.str ⟨jb.toArray⟩,.str ⟨J3.toArray⟩]) KX G a_DIVIDING l_DIVIDING (by show 2≤16777216;decide) (.cons ⟨_,rfl⟩ (.cons ⟨_,rfl⟩ .nil)) (fun F α=>(j4 (by unfold Rep;rfl) (j4 (by unfold Rep;rfl) jy))),
   Yl (vs:=[.str ⟨w_left.toArray⟩,.str ⟨w_right.toArray⟩]) KX G a_SHIFTING l_SHIFTING (by show 2≤16777216;decide) (.cons ⟨_,rfl⟩ (.cons ⟨_,rfl⟩ .nil)) (fun F α=>(j4 (by unfold Rep;rfl) (j4 (by unfold Rep;rfl) jy))),
   Z9 KX G a_WIDTH,
   (by show mg _=_;rw [Qe a_Machine];exact PySem.W.mg_of KX G a_Machine),
   (by rw [Qe a_Machine];exact ⟨p1_Machine,p2_Machine,p3_Machine,p4_Machine⟩),
   (by rw [Qe a_Machine];exact na_Machine_hand),
   (by rw [Qe a_Machine];exact na_Machine_other),
   (by rw [Qe a_Machine];exact na_Machine_slots),
   (by rw [Qe a_Machine];exact na_Machine_place),
   (by rw [Qe a_Machine];exact na_Machine_done),
   (by rw [Qe a_Machine];exact na_Machine_told),
   ⟨q_p_Machine__init__,_,by rw [Qe a_Machine];exact PySem.W.mg_of KX G a_Machine,by rw [Qe a_Machine];exact ⟨m1_p_Machine__init__,i_p_Machine__init__,m2_p_Machine__init__,m3_p_Machine__init__⟩,ad6 (st:=s_p_Machine__init__) l_p_Machine__init__ c_p_Machine__init__ k_p_Machine__init__,fun us hl=>by obtain ⟨_,rfl⟩:=len_1 hl;rfl⟩,
   jh KX G d_cell (fun _ _ _ _ _ _ _ _=>by walk_at "bs"),
   jh KX G d_mix (fun _ _ _ _ _ _ _ _=>by walk_at "bs"),
   jh KX G d_chain (fun _ _ _ _ _ _ _ _=>by walk_at "bs"),
   jh KX G d_op (fun _ _ _ _ _ _ _ _=>by walk_at "bs"),
   jh KX G d_number (fun _ _ _ _ _ _ _ _=>by walk_at "bs"),
   jh KX G d_truth (fun _ _ _ _ _ _ _ _=>by walk_at "bs"),
   jh KX G d_p_tasks_of_pair (fun _ _ _ _ _ _ _ _=>by walk_at "bs"),
   jh KX G d_p_tasks_of_number (fun _ _ _ _ _ _ _ _=>by walk_at "bs"),
   jh KX G d_p_step_of_test (fun _ _ _ _ _ _ _ _=>by walk_at "bs"),
   jh KX G d_p_make_truth (fun _ _ _ _ _ _ _ _=>by walk_at "bs"),
   jh KX G d_p_task_of_first (fun _ _ _ _ _ _ _ _=>by walk_at "bs"),
   jh KX G d_p_compiled (fun _ _ _ _ _ _ _ _=>by walk_at "bs"),
   jh KX G d_p_no_slots (fun _ _ _ _ _ _ _ _=>by walk_at "bs"),
   jh KX G d_p_is_whole (fun _ _ _ _ _ _ _ _=>by walk_at "bs"),
   jh KX G d_p_is_number (fun _ _ _ _ _ _ _ _=>by walk_at "bs"),
   jh KX G d_p_is_part (fun _ _ _ _ _ _ _ _=>by walk_at "bs"),
   jh KX G d_p_can_be_done_by (fun _ _ _ _ _ _ _ _=>by walk_at "bs"),
   jh KX G d_p_is_step (fun _ _ _ _ _ _ _ _=>by walk_at "bs"),
   jh KX G d_p_lacks_its_slot (fun _ _ _ _ _ _ _ _=>by walk_at "bs"),
   jh KX G d_p_goals_from (fun _ _ _ _ _ _ _ _=>by walk_at "bs"),
   jh KX G d_p_hand_on (fun _ _ _ _ _ _ _ _=>by walk_at "bs"),
   jh KX G d_p_kept_behind (fun _ _ _ _ _ _ _ _=>by walk_at "bs"),
   jh KX G d_p_first_wrong_place (fun _ _ _ _ _ _ _ _=>by walk_at "bs"),
   jh KX G d_p_is_let_in (fun _ _ _ _ _ _ _ _=>by walk_at "bs"),
   jh KX G d_goals (fun _ _ _ _ _ _ _ _=>by walk_at "bs"),
   jh KX G d_there (fun _ _ _ _ _ _ _ _=>by walk_at "bs"),
   jh KX G d_unset (fun _ _ _ _ _ _ _ _=>by walk_at "bs"),
   jh KX G d_fault (fun _ _ _ _ _ _ _ _=>by walk_at "bs"),
   jh KX G d_packet (fun _ _ _ _ _ _ _ _=>by walk_at "bs"),
   jh KX G d_p_put_away (fun _ _ _ _ _ _ _ _=>by walk_at "bs"),
   jh KX G d_p_take_in_hand (fun _ _ _ _ _ _ _ _=>by walk_at "bs"),
   jh KX G d_p_loaded (fun _ _ _ _ _ _ _ _=>by walk_at "bs"),
   jh KX G d_p_shifted (fun _ _ _ _ _ _ _ _=>by walk_at "bs"),
   jh KX G d_p_plainly_reckoned (fun _ _ _ _ _ _ _ _=>by walk_at "bs"),
   jh KX G d_p_reckoned (fun _ _ _ _ _ _ _ _=>by walk_at "bs"),
   jh KX G d_p_fetched (fun _ _ _ _ _ _ _ _=>by walk_at "bs"),
   jh KX G d_p_value_of (fun _ _ _ _ _ _ _ _=>by walk_at "bs"),
   jh KX G d_p_holds (fun _ _ _ _ _ _ _ _=>by walk_at "bs"),
   jh KX G d_p_distance (fun _ _ _ _ _ _ _ _=>by walk_at "bs"),
   jh KX G d_p_do_step (fun _ _ _ _ _ _ _ _=>by walk_at "bs"),
   jh KX G d_p_ended (fun _ _ _ _ _ _ _ _=>by walk_at "bs"),
   jh KX G d_p_run (fun _ _ _ _ _ _ _ _=>by walk_at "bs"),
   jh KX G d_whole (fun _ _ _ _ _ _ _ _=>by walk_at "bs"),
   jh KX G d_bytes (fun _ _ _ _ _ _ _ _=>by walk_at "bs"),
   jh KX G d_reckoned (fun _ _ _ _ _ _ _ _=>by walk_at "bs"),
   jh KX G d_worth (fun _ _ _ _ _ _ _ _=>by walk_at "bs"),
   jh KX G d_says (fun _ _ _ _ _ _ _ _=>by walk_at "bs"),
   jh KX G d_law (fun _ _ _ _ _ _ _ _=>by walk_at "bs")⟩
end
end K20
set_option Elab.async false
set_option linter.all false
set_option maxRecDepth 100000
set_option maxHeartbeats 4000000
namespace K20
open PySem PySem.Spec PyProof.Rows L2 M
noncomputable def opL:List (List Nat):=[Jc,Jt,Jx,jb,J3,Jh,Ux,uz,w_left,w_right]
noncomputable def tsL:List (List Nat):=[u6,J1,jd,Et]
noncomputable def atx:List (List Nat):=[a38,w_x]
noncomputable def cell (ns:List Int) (k:Nat):Int:=if ns=[] then 0 else ns.getD (k % ns.length) 0
noncomputable def sc (ns:List Int):D:=.lst (ns.map .int)
theorem ap4 (ns:List Int) (k:Nat) (μ:Mu):Cm [sc ns,.int k] μ=.ok (.int (cell ns k)) μ:=by
 cases ns with
 | nil=>rfl
 | cons n r =>
  refine jj 0 (v_take rfl (v_bin rfl (v_bin rfl (uq (d:=.int (List.map D.int (n::r)).length) rfl rfl) (Y7 _ _ ?_)) ?_))
  ·rw [List.length_map,List.length_cons];omega
  ·show atI ((n::r).map D.int) ((k:Int) % ((List.map D.int (n::r)).length:Nat))=_
   rw [Qv (Int.emod_nonneg _ (by rw [List.length_map,List.length_cons];omega))]
   have e2:((k:Int) % ((List.map D.int (n::r)).length:Nat)).toNat=k % (n::r).length:=by
    rw [List.length_map]
    omega
   have hk:k % (n::r).length < (n::r).length:=Nat.mod_lt _ (by simp)
   rw [e2,List.getElem?_map,List.getElem?_eq_getElem hk]
   simp only [cell,reduceCtorEq,if_false,Option.map_some]
   rw [List.getD_eq_getElem?_getD,List.getElem?_eq_getElem hk]
   rfl
noncomputable def dv (c:Int) (k:Nat):Int:=(c + 104729 * ((k:Int) + 1)) % 4294967291 * 48271 % 4294967279
noncomputable def mix (ns:List Int) (k:Nat):Int:=(dv (cell ns k) k / 64 * 69621 + dv (cell ns k) k) % 4294967231
theorem aC4 (ns:List Int) (k:Nat) (μ:Mu):Y8 [sc ns,.int k] μ=.ok (.int (mix ns k)) μ:=by
 refine jj 1 ((v_set 2 (d:=.int ((cell ns k + 104729 * ((k:Int) + 1)) % 4294967291)) (v_bin (v_bin (v_call rfl (ap4 ns k μ)) (v_bin rfl (v_bin rfl rfl rfl) (y0 _ _ (by decide) (by decide))) rfl) rfl (Y7 _ _ (by decide)))).trans
  ((v_set 2 (d:=.int (dv (cell ns k) k)) (v_bin (v_bin rfl rfl (qj _ _ (by decide) (by decide))) rfl (Y7 _ _ (by decide)))).trans (v_ret ?_)))
 exact v_bin (x:=.int (dv (cell ns k) k / 64 * 69621 + dv (cell ns k) k)) (v_bin (x:=.int (dv (cell ns k) k / 64 * 69621)) (v_bin (x:=.int (dv (cell ns k) k / 64)) (v_bin (x:=.int (dv (cell ns k) k)) rfl rfl (Z4 _ _ (by decide) (by decide))) rfl (qj _ _ (by decide) (by decide))) rfl rfl) rfl (Y7 _ _ (by decide))
theorem fi (ns:List Int) (k:Nat):0≤mix ns k:=Int.emod_nonneg _ (by decide)
noncomputable def opw (n:Int):List Nat:=opL.getD (n % 10).toNat []
theorem ak9 (n:Int):opw n∈opL:=by
 unfold opw
 have hk:(n % 10).toNat < opL.length:=by show _ < 10;omega
 rw [List.getD_eq_getElem?_getD,List.getElem?_eq_getElem hk]
 exact List.getElem_mem hk
theorem aM9 (n:Int) (μ:Mu):aF2 [.int n] μ=.ok (.str (opw n)) μ:=by
 have hk:(n % 10).toNat < opL.length:=by show _ < 10;omega
 refine jj 0 (v_ret (v_bin (x:=.lst (opL.map .str)) rfl (v_bin rfl rfl (Y7 _ _ (by decide))) ?_))
 show atI (opL.map D.str) (n % 10)=_
 unfold opw
 rw [Qv (by omega),List.getElem?_map,List.getElem?_eq_getElem hk,List.getD_eq_getElem?_getD,List.getElem?_eq_getElem hk]
 rfl
inductive Kd | num | size | slot | dist | base | op | test
noncomputable def Kd.w:Kd→List Nat
 | .num=>js
 | .size=>Xc
 | .slot=>Zz
 | .dist=>Jy
 | .base=>w9
 | .op=>Gi
 | .test=>Qc
theorem au1 (i j:Int) (ρ:En) (μ:Mu) (ma mb mc:MX) (h1:ma ρ μ=.ok (.int 0) μ) (h2:mb ρ μ=.ok (.int i) μ) (h3:mc ρ μ=.ok (.int j) μ):Ye gLe gLt ma mb mc ρ μ=.ok (.bl (decide (0≤i) && decide (i < j))) μ:=by
 rw [Ck,h1,bind_ok,Gr,h2,bind_ok,Gs,deref_int,deref_int,D8]
 by_cases h:0≤i
 ·simp only [h,decide_true,Bool.true_and,Option.bind_some]
  show Res.bind (.ok true μ) _=_
  rw [bind_ok,ae2,h3,bind_ok]
  rfl
 ·simp only [h,decide_false,Bool.false_and]
  rfl
theorem aQ3 (i j:Int) (ρ:En) (μ:Mu) (ma mb mc:MX) (h1:ma ρ μ=.ok (.int 0) μ) (h2:mb ρ μ=.ok (.int i) μ) (h3:mc ρ μ=.ok (.int j) μ):Ye gLe gLe ma mb mc ρ μ=.ok (.bl (decide (0≤i) && decide (i≤j))) μ:=by
 rw [Ck,h1,bind_ok,Gr,h2,bind_ok,Gs,deref_int,deref_int,D8]
 by_cases h:0≤i
 ·simp only [h,decide_true,Bool.true_and,Option.bind_some]
  show Res.bind (.ok true μ) _=_
  rw [bind_ok,ae2,h3,bind_ok]
  rfl
 ·simp only [h,decide_false,Bool.false_and]
  rfl
inductive PlK:Kd→D→Prop
 | num {i:Int}:0≤i→i < 4294967296→PlK .num (.int i)
 | size {i:Int}:i=1∨i=2∨i=4→PlK .size (.int i)
 | slot {i:Int}:0≤i→i < 8→PlK .slot (.int i)
 | dist {i:Int}:0≤i→i≤2000→PlK .dist (.int i)
 | base {x:List Nat}:x∈atx→PlK .base (.str x)
 | op {x:List Nat}:x∈opL→PlK .op (.str x)
 | test {x:List Nat}:x∈tsL→PlK .test (.str x)
theorem ww {P:List Nat→Prop} (h:P Jc∧P Jt∧P Jx∧P jb∧P J3∧P Jh∧P Ux∧P uz∧P w_left∧P w_right):∀ x∈opL,P x:=by
 intro x hx
 simp only [opL,List.mem_cons,List.not_mem_nil,or_false] at hx
 obtain ⟨h1,h2,h3,h4,h5,h6,h7,h8,h9,h10⟩:=h
 rcases hx with rfl | rfl | rfl | rfl | rfl | rfl | rfl | rfl | rfl | rfl <;> assumption
theorem a45 {P:List Nat→Prop} (h:P u6∧P J1∧P jd∧P Et):∀ x∈tsL,P x:=by
 intro x hx
 simp only [tsL,List.mem_cons,List.not_mem_nil,or_false] at hx
 obtain ⟨h1,h2,h3,h4⟩:=h
 rcases hx with rfl | rfl | rfl | rfl <;> assumption
theorem af3 {P:List Nat→Prop} (h:P a38∧P w_x):∀ x∈atx,P x:=by
 intro x hx
 simp only [atx,List.mem_cons,List.not_mem_nil,or_false] at hx
 obtain ⟨h1,h2⟩:=h
 rcases hx with rfl | rfl <;> assumption
theorem Ai {k:Kd} {d:D} (h:PlK k d) (μ:Mu):Ur [.str k.w,d] μ=.ok (.bl true) μ:=by
 cases h with
 | @num i h1 h2 =>
  refine (jj 0 (v_take rfl (v_call rfl (jj 0 (v_ret ((xi rfl).trans (au1 i 4294967296 _ _ _ _ _ rfl rfl rfl))))))).trans ?_
  rw [decide_eq_true h1,decide_eq_true h2];rfl
 | @size i h1=>rcases h1 with rfl | rfl | rfl <;> rfl
 | @slot i h1 h2 =>
  refine (jj 0 ((v_skip rfl).trans ((v_skip rfl).trans (v_take rfl ((xi rfl).trans (au1 i 8 _ _ _ _ _ rfl rfl rfl)))))).trans ?_
  rw [decide_eq_true h1,decide_eq_true h2];rfl
 | @dist i h1 h2 =>
  refine (jj 0 ((v_skip rfl).trans ((v_skip rfl).trans ((v_skip rfl).trans (v_take rfl ((xi rfl).trans (aQ3 i 2000 _ _ _ _ _ rfl rfl rfl))))))).trans ?_
  rw [decide_eq_true h1,decide_eq_true h2];rfl
 | base hx=>revert hx;exact af3 (P:=fun x=>Ur [.str Kd.base.w,.str x] μ=.ok (.bl true) μ) ⟨rfl,rfl⟩ _
 | op hx=>revert hx;exact ww (P:=fun x=>Ur [.str Kd.op.w,.str x] μ=.ok (.bl true) μ) ⟨rfl,rfl,rfl,rfl,rfl,rfl,rfl,rfl,rfl,rfl⟩ _
 | test hx=>revert hx;exact a45 (P:=fun x=>Ur [.str Kd.test.w,.str x] μ=.ok (.bl true) μ) ⟨rfl,rfl,rfl,rfl⟩ _
noncomputable abbrev cTg:MG:=Wk (Us (gN 0) (Us (gN 1) Wl))
noncomputable abbrev cEl:MX:=mCall Ur (mCons (mVar 0) (mCons (mVar 1) mNil))
theorem Gq (μ:Mu):∀ (ps:List (Kd×D)),(∀ p∈ps,PlK p.1 p.2)→∀ (a b:Option D) (acc:List D),J6 cTg mTT cEl (ps.map fun p=>.tup [.str p.1.w,p.2]) [a,b] μ acc=.ok (acc++ps.map fun _=>.bl true) μ
 | [],_,a,b,acc=>by simp [J6]
 | p::ps,h,a,b,acc=>by
  obtain ⟨h1,h2⟩:=List.forall_mem_cons.mp h
  have e:cEl [some (.str p.1.w),some p.2] μ=.ok (.bl true) μ:=v_call rfl (Ai h1 μ)
  have ih:=Gq μ ps h2 (some (.str p.1.w)) (some p.2) (acc++[.bl true])
  rw [List.map_cons,List.map_cons]
  show (noX (cEl [some (.str p.1.w),some p.2] μ)).bind _=_
  rw [e]
  show J6 cTg mTT cEl _ [some (.str p.1.w),some p.2] μ (acc++[.bl true])=_
  rw [ih,List.append_assoc,List.singleton_append]
theorem Dj:∀ ps:List (Kd×D),Zl (ps.map fun _=>.bl true)=some (ps.map fun _=>true)
 | []=>rfl
 | p::ps=>by
  rw [List.map_cons,List.map_cons]
  unfold Zl
  rw [Dj ps]
  rfl
theorem tailG (ps:List (Kd×D)) (hp:∀ p∈ps,PlK p.1 p.2) {ρ:En} {μ:Mu} {r:MSt} (hl:ps.length≤16777216) (hz:ff true true (mVar 1) (mSl (mVar 0) (Qj (mC (.int 1))) ab5) ρ μ=.ok (ps.map fun p=>.tup [.str p.1.w,p.2]) μ) :
  jz (jl (mNot (mTru (jm Co (mCons (ug 2 [] cTg (ff true true (mVar 1) (mSl (mVar 0) (Qj (mC (.int 1))) ab5)) mTT cEl) mNil)))) (jt (mC (.bl false))) jx) r ρ μ=r ρ μ:=by
 have e1:ug 2 [] cTg (ff true true (mVar 1) (mSl (mVar 0) (Qj (mC (.int 1))) ab5)) mTT cEl ρ μ=.ok (.lst (ps.map fun _=>.bl true)) μ:=by
  unfold ug
  rw [hz,bind_ok,if_pos (by rw [List.length_map];exact hl)]
  show (J6 cTg mTT cEl _ [none,none] μ []).bind _=_
  rw [Gq μ ps hp]
  rfl
 refine v_skip (v_not (k:=true) (Za (d:=.bl true) (uq (v_cons e1 v_nil) ?_) rfl))
 show (Zl (ps.map fun _=>.bl true)).map _=_
 rw [Dj]
 simp
theorem aA2 {a b c:D} (ha:PlK .size a) (hb:PlK .base b) (hc:PlK .num c) (μ:Mu):jc [.tup [.str Uj,a,b,c]] μ=.ok (.bl true) μ :=
 jj 1 ((v_skip rfl).trans ((v_skip rfl).trans ((v_set 1 rfl).trans ((v_skip rfl).trans ((tailG [(.size,a),(.base,b),(.num,c)] (List.forall_mem_cons.mpr ⟨ha,List.forall_mem_cons.mpr ⟨hb,List.forall_mem_cons.mpr ⟨hc,fun _ z=>nomatch z⟩⟩⟩) (show 3≤16777216 by decide) rfl).trans (rfl))))))
theorem aM0 (μ:Mu):jc [.tup [.str yz]] μ=.ok (.bl true) μ :=
 jj 1 ((v_skip rfl).trans ((v_skip rfl).trans ((v_set 1 rfl).trans ((v_skip rfl).trans ((tailG [] (fun _ z=>nomatch z) (show 0≤16777216 by decide) rfl).trans (rfl))))))
theorem aL9 {a:D} (ha:PlK .num a) (μ:Mu):jc [.tup [.str Zc,a]] μ=.ok (.bl true) μ :=
 jj 1 ((v_skip rfl).trans ((v_skip rfl).trans ((v_set 1 rfl).trans ((v_skip rfl).trans ((tailG [(.num,a)] (List.forall_mem_cons.mpr ⟨ha,fun _ z=>nomatch z⟩) (show 1≤16777216 by decide) rfl).trans (rfl))))))
theorem az8 {a:D} (ha:PlK .num a) (μ:Mu):jc [.tup [.str yf,a]] μ=.ok (.bl true) μ :=
 jj 1 ((v_skip rfl).trans ((v_skip rfl).trans ((v_set 1 rfl).trans ((v_skip rfl).trans ((tailG [(.num,a)] (List.forall_mem_cons.mpr ⟨ha,fun _ z=>nomatch z⟩) (show 1≤16777216 by decide) rfl).trans (rfl))))))
theorem aL8 (μ:Mu):jc [.tup [.str w_tax]] μ=.ok (.bl true) μ :=
 jj 1 ((v_skip rfl).trans ((v_skip rfl).trans ((v_set 1 rfl).trans ((v_skip rfl).trans ((tailG [] (fun _ z=>nomatch z) (show 0≤16777216 by decide) rfl).trans (rfl))))))
theorem aL7 (μ:Mu):jc [.tup [.str xo]] μ=.ok (.bl true) μ :=
 jj 1 ((v_skip rfl).trans ((v_skip rfl).trans ((v_set 1 rfl).trans ((v_skip rfl).trans ((tailG [] (fun _ z=>nomatch z) (show 0≤16777216 by decide) rfl).trans (rfl))))))
theorem aA3 {a:D} (ha:PlK .slot a) (μ:Mu):jc [.tup [.str w_keep,a]] μ=.ok (.bl true) μ :=
 jj 1 ((v_skip rfl).trans ((v_skip rfl).trans ((v_set 1 rfl).trans ((v_skip rfl).trans ((tailG [(.slot,a)] (List.forall_mem_cons.mpr ⟨ha,fun _ z=>nomatch z⟩) (show 1≤16777216 by decide) rfl).trans (rfl))))))
theorem ak8 {a:D} (ha:PlK .slot a) (μ:Mu):jc [.tup [.str U5,a]] μ=.ok (.bl true) μ :=
 jj 1 ((v_skip rfl).trans ((v_skip rfl).trans ((v_set 1 rfl).trans ((v_skip rfl).trans ((tailG [(.slot,a)] (List.forall_mem_cons.mpr ⟨ha,fun _ z=>nomatch z⟩) (show 1≤16777216 by decide) rfl).trans (rfl))))))
theorem aM2 {a:D} (ha:PlK .op a) (μ:Mu):jc [.tup [.str Zb,a]] μ=.ok (.bl true) μ :=
 jj 1 ((v_skip rfl).trans ((v_skip rfl).trans ((v_set 1 rfl).trans ((v_skip rfl).trans ((tailG [(.op,a)] (List.forall_mem_cons.mpr ⟨ha,fun _ z=>nomatch z⟩) (show 1≤16777216 by decide) rfl).trans (rfl))))))
theorem aA4 {a:D} (ha:PlK .dist a) (μ:Mu):jc [.tup [.str Uw,a]] μ=.ok (.bl true) μ :=
 jj 1 ((v_skip rfl).trans ((v_skip rfl).trans ((v_set 1 rfl).trans ((v_skip rfl).trans ((tailG [(.dist,a)] (List.forall_mem_cons.mpr ⟨ha,fun _ z=>nomatch z⟩) (show 1≤16777216 by decide) rfl).trans (rfl))))))
theorem p_if {a b c d:D} (ha:PlK .test a) (hb:PlK .num b) (hc:PlK .dist c) (hd:PlK .dist d) (μ:Mu):jc [.tup [.str x0,a,b,c,d]] μ=.ok (.bl true) μ :=
 jj 1 ((v_skip rfl).trans ((v_skip rfl).trans ((v_set 1 rfl).trans ((v_skip rfl).trans ((tailG [(.test,a),(.num,b),(.dist,c),(.dist,d)] (List.forall_mem_cons.mpr ⟨ha,List.forall_mem_cons.mpr ⟨hb,List.forall_mem_cons.mpr ⟨hc,List.forall_mem_cons.mpr ⟨hd,fun _ z=>nomatch z⟩⟩⟩⟩) (show 4≤16777216 by decide) rfl).trans (rfl))))))
theorem aM1 {a b c:D} (ha:PlK .test a) (hb:PlK .dist b) (hc:PlK .dist c) (μ:Mu):jc [.tup [.str yg,a,b,c]] μ=.ok (.bl true) μ :=
 jj 1 ((v_skip rfl).trans ((v_skip rfl).trans ((v_set 1 rfl).trans ((v_skip rfl).trans ((tailG [(.test,a),(.dist,b),(.dist,c)] (List.forall_mem_cons.mpr ⟨ha,List.forall_mem_cons.mpr ⟨hb,List.forall_mem_cons.mpr ⟨hc,fun _ z=>nomatch z⟩⟩⟩) (show 3≤16777216 by decide) rfl).trans (rfl))))))
theorem az7 {a:D} (ha:PlK .num a) (μ:Mu):jc [.tup [.str ue,a]] μ=.ok (.bl true) μ :=
 jj 1 ((v_skip rfl).trans ((v_skip rfl).trans ((v_set 1 rfl).trans ((v_skip rfl).trans ((tailG [(.num,a)] (List.forall_mem_cons.mpr ⟨ha,fun _ z=>nomatch z⟩) (show 1≤16777216 by decide) rfl).trans (rfl))))))
theorem ak4 (μ:Mu):jc [.tup [.str U4]] μ=.ok (.bl true) μ :=
 jj 1 ((v_skip rfl).trans ((v_skip rfl).trans ((v_set 1 rfl).trans ((v_skip rfl).trans ((tailG [] (fun _ z=>nomatch z) (show 0≤16777216 by decide) rfl).trans (rfl))))))
theorem p_do {a b:D} (ha:PlK .op a) (hb:PlK .num b) (μ:Mu) (hc:uy [a,b] μ=.ok (.bl true) μ):jc [.tup [.str gy,a,b]] μ=.ok (.bl true) μ :=
 jj 1 ((v_skip rfl).trans ((v_skip rfl).trans ((v_set 1 rfl).trans ((v_skip rfl).trans ((tailG [(.op,a),(.num,b)] (List.forall_mem_cons.mpr ⟨ha,List.forall_mem_cons.mpr ⟨hb,fun _ z=>nomatch z⟩⟩) (show 2≤16777216 by decide) rfl).trans (v_ret ((a39 rfl).trans (v_call rfl hc))))))))
theorem aG5 {x:List Nat} (hx:x∈opL) {k:Int} (h:x∈[jb,J3,w_left,w_right]→1≤k∧k < 32) (μ:Mu):uy [.str x,.int k] μ=.ok (.bl true) μ:=by
 have n0:1≤k→(!(k == 0))=true:=fun z=>by
  have:(k == 0)=false:=by rw [beq_eq_false_iff_ne];omega
  rw [this];rfl
 revert hx h
 revert x
 intro x hx
 refine ww (P:=fun x=>(x∈[jb,J3,w_left,w_right]→1≤k∧k < 32)→uy [.str x,.int k] μ=.ok (.bl true) μ) ⟨fun _=>rfl,fun _=>rfl,fun _=>rfl,fun h=>?_,fun h=>?_,fun _=>rfl,fun _=>rfl,fun _=>rfl,fun h=>?_,fun h=>?_⟩ x hx
 ·have:=n0 (h (by decide)).1
  refine (jj 0 (v_take rfl (v_bin rfl rfl rfl))).trans ?_
  show Res.ok (D.bl (!(k == 0))) μ=_
  rw [this]
 ·have:=n0 (h (by decide)).1
  refine (jj 0 (v_take rfl (v_bin rfl rfl rfl))).trans ?_
  show Res.ok (D.bl (!(k == 0))) μ=_
  rw [this]
 ·have:=decide_eq_true (h (by decide)).2
  refine (jj 0 ((v_skip rfl).trans (v_take rfl (v_bin rfl rfl rfl)))).trans ?_
  show Res.ok (D.bl (decide (k < 32))) μ=_
  rw [this]
 ·have:=decide_eq_true (h (by decide)).2
  refine (jj 0 ((v_skip rfl).trans (v_take rfl (v_bin rfl rfl rfl)))).trans ?_
  show Res.ok (D.bl (decide (k < 32))) μ=_
  rw [this]
end K20
set_option Elab.async false
set_option linter.all false
set_option maxRecDepth 100000
set_option maxHeartbeats 4000000
namespace K20
open PySem PySem.Spec PyProof.Rows L2 M
inductive Vw | tl | jp (n:Nat) | br (n m:Nat) | kp (s:Nat) | ft (s:Nat) | ot
noncomputable def Vw.goals:Vw→Nat→List Nat
 | .tl,_=>[]
 | .jp n,p=>[p + 1 + n]
 | .br n m,p=>[p + 1 + n,p + 1 + m]
 | _,p=>[p + 1]
noncomputable def Vw.lacks (bs:List Bool):Vw→Bool
 | .ft s=> !(bs.getD s false)
 | _=>false
noncomputable def Vw.behind (bs:List Bool):Vw→List Bool
 | .kp s=>bs.set s true
 | _=>bs
noncomputable def Vw.isF:Vw→Bool
 | .ft _=>true
 | _=>false
noncomputable def Vw.isK (k:Nat):Vw→Bool
 | .kp s=>s == k
 | _=>false
noncomputable def Vw.ok:Vw→Prop
 | .ft s=>s < 8
 | .kp s=>s < 8
 | _=>True
noncomputable def gI (l:List Nat):D:=.lst (l.map fun (g:Nat)=>.int g)
noncomputable def bI (l:List Bool):D:=.lst (l.map .bl)
inductive Sh:D→Vw→Prop
 | load {a b c:D}:PlK .size a→PlK .base b→PlK .num c→Sh (.tup [.str Uj,a,b,c]) .ot
 | len:Sh (.tup [.str yz]) .ot
 | tax:Sh (.tup [.str w_tax]) .ot
 | txa:Sh (.tup [.str xo]) .ot
 | tella:Sh (.tup [.str U4]) .tl
 | set {a:D}:PlK .num a→Sh (.tup [.str Zc,a]) .ot
 | setx {a:D}:PlK .num a→Sh (.tup [.str yf,a]) .ot
 | keep {s:Nat}:s < 8→Sh (.tup [.str w_keep,.int s]) (.kp s)
 | fetch {s:Nat}:s < 8→Sh (.tup [.str U5,.int s]) (.ft s)
 | do_ {x:List Nat} {k:Int}:x∈opL→0≤k→k < 4294967296→(x∈[jb,J3,w_left,w_right]→1≤k∧k < 32)→Sh (.tup [.str gy,.str x,.int k]) .ot
 | dox {a:D}:PlK .op a→Sh (.tup [.str Zb,a]) .ot
 | jump {n:Nat}:n≤2000→Sh (.tup [.str Uw,.int n]) (.jp n)
 | if_ {a b:D} {n m:Nat}:PlK .test a→PlK .num b→n≤2000→m≤2000→Sh (.tup [.str x0,a,b,.int n,.int m]) (.br n m)
 | ifx {a:D} {n m:Nat}:PlK .test a→n≤2000→m≤2000→Sh (.tup [.str yg,a,.int n,.int m]) (.br n m)
 | tell {a:D}:PlK .num a→Sh (.tup [.str ue,a]) .tl
theorem Xm {n:Nat} (h:n≤2000):PlK .dist (.int n):=.dist (by omega) (by omega)
theorem bt {n:Nat} (h:n < 8):PlK .slot (.int n):=.slot (by omega) (by omega)
theorem J8 {k:Kd} {d:D} (h:PlK k d):jr d=true∧dpt d=0:=by
 cases h with
 | base hx=>exact ⟨af3 (P:=fun x=>jr (.str x)=true) ⟨by decide,by decide⟩ _ hx,rfl⟩
 | op hx=>exact ⟨ww (P:=fun x=>jr (.str x)=true) ⟨by decide,by decide,by decide,by decide,by decide,by decide,by decide,by decide,by decide,by decide⟩ _ hx,rfl⟩
 | test hx=>exact ⟨a45 (P:=fun x=>jr (.str x)=true) ⟨by decide,by decide,by decide,by decide⟩ _ hx,rfl⟩
 | _=>exact ⟨rfl,rfl⟩
theorem a50 {d:D} {v:Vw} (h:Sh d v):jr d=true∧dpt d≤1:=by
 cases h with
 | load h1 h2 h3=>exact ⟨by simp [jr,plainDs,(J8 h1).1,(J8 h2).1,(J8 h3).1];decide,by simp [dpt,dpts,(J8 h1).2,(J8 h2).2,(J8 h3).2]⟩
 | set h1=>exact ⟨by simp [jr,plainDs,(J8 h1).1];decide,by simp [dpt,dpts,(J8 h1).2]⟩
 | setx h1=>exact ⟨by simp [jr,plainDs,(J8 h1).1];decide,by simp [dpt,dpts,(J8 h1).2]⟩
 | dox h1=>exact ⟨by simp [jr,plainDs,(J8 h1).1];decide,by simp [dpt,dpts,(J8 h1).2]⟩
 | tell h1=>exact ⟨by simp [jr,plainDs,(J8 h1).1];decide,by simp [dpt,dpts,(J8 h1).2]⟩
 | if_ h1 h2 _ _=>exact ⟨by simp [jr,plainDs,(J8 h1).1,(J8 h2).1];decide,by simp [dpt,dpts,(J8 h1).2,(J8 h2).2]⟩
 | ifx h1 _ _=>exact ⟨by simp [jr,plainDs,(J8 h1).1];decide,by simp [dpt,dpts,(J8 h1).2]⟩
 | do_ hx _ _ _=>exact ⟨by have:=(J8 (.op hx)).1;simp only [jr] at this;simp only [jr,plainDs,this];decide,by simp [dpt,dpts]⟩
 | _=>exact ⟨by simp [jr,plainDs];decide,by simp [dpt,dpts]⟩
theorem ah0 {d:D} {v:Vw} (h:Sh d v) (μ:Mu):jc [d] μ=.ok (.bl true) μ:=by
 cases h with
 | load h1 h2 h3=>exact aA2 h1 h2 h3 μ
 | len=>exact aM0 μ
 | tax=>exact aL8 μ
 | txa=>exact aL7 μ
 | tella=>exact ak4 μ
 | set h=>exact aL9 h μ
 | setx h=>exact az8 h μ
 | keep h=>exact aA3 (bt h) μ
 | fetch h=>exact ak8 (bt h) μ
 | do_ hx h1 h2 h3=>exact p_do (.op hx) (.num h1 h2) μ (aG5 hx h3 μ)
 | dox h=>exact aM2 h μ
 | jump h=>exact aA4 (Xm h) μ
 | if_ h1 h2 h3 h4=>exact p_if h1 h2 (Xm h3) (Xm h4) μ
 | ifx h1 h2 h3=>exact aM1 h1 (Xm h2) (Xm h3) μ
 | tell h=>exact az7 h μ
theorem sh_pg {d:D} {v:Vw} (h:Sh d v) (p:Nat) (μ:Mu):yk [.int p,d] μ=.ok (gI (v.goals p)) μ:=by
 cases h <;> rfl
theorem a51 {d:D} {v:Vw} (h:Sh d v) (p:Nat) (μ:Mu):Yp [d,.int p] μ=.ok (gI (v.goals p)) μ:=by
 cases h <;> rfl
theorem ar5 {d:D} {v:Vw} (h:Sh d v):v.ok:=by
 cases h with
 | keep h=>exact h
 | fetch h=>exact h
 | _=>exact True.intro
theorem aw8 {d:D} {v:Vw} (h:Sh d v):∃ x,gIdx d (.int 0)=some (.str x)∧gEq (.str x) (.str U5)=some (.bl v.isF)∧∀ s,v=.ft s→gIdx d (.int 1)=some (.int s):=by
 cases h with
 | fetch h=>exact ⟨_,rfl,rfl,fun s e=>by cases e;rfl⟩
 | _=>exact ⟨_,rfl,rfl,fun s e=>by cases e⟩
end K20
set_option Elab.async false
set_option linter.all false
set_option maxRecDepth 100000
set_option maxHeartbeats 4000000
namespace K20
open PySem PySem.Spec PyProof.Rows L2 M
theorem au9 {m:MX} {ρ:En} {μ μ1:Mu} {k:Bool} (h:m ρ μ=.ok (.bl k) μ1):ko m ρ μ=.ok (.bl (!k)) μ1:=by unfold ko;rw [h];rfl
theorem aQ7 {bs:List Bool} {s:Nat} (h:s < bs.length):gIdx (bI bs) (.int s)=some (.bl (bs.getD s false)):=by
 show atI (bs.map D.bl) (s:Int)=_
 rw [Qv (by omega),Int.toNat_natCast,List.getElem?_map,List.getElem?_eq_getElem h,List.getD_eq_getElem?_getD,List.getElem?_eq_getElem h]
 rfl
theorem aJ3 {d:D} {v:Vw} (h:Sh d v) (k:Nat):gNe d (.tup [.str w_keep,.int k])=some (.bl (!v.isK k)):=by
 obtain ⟨h1,h2⟩:=a50 h
 have e0:qg d (.tup [.str w_keep,.int k])=true:=by
  unfold qg
  rw [h1,show jr (.tup [.str w_keep,.int k])=true by simp [jr,plainDs];decide,decide_eq_true (Nat.le_trans (Nat.min_le_left _ _) (by omega))]
  rfl
 unfold gNe
 rw [if_pos e0]
 have e1:eqD d (.tup [.str w_keep,.int k])=v.isK k:=by
  cases h with
  | @keep s h =>
   show (((s:Int) == (k:Int)) && true)=(s == k)
   rw [Bool.and_true]
   by_cases z:s=k
   ·subst z;simp
   ·have:((s:Int) == (k:Int))=false:=by rw [beq_eq_false_iff_ne];omega
    rw [this];exact (beq_eq_false_iff_ne.mpr z).symm
  | _=>rfl
 rw [e1]
theorem aJ2 {d:D} {v:Vw} (h:Sh d v) {bs:List Bool} (hb:bs.length=8) (μ:Mu):uc [d,bI bs] μ=.ok (.bl (v.lacks bs)) μ:=by
 cases h with
 | fetch h=>exact jj 0 (v_ret ((xi rfl).trans (au9 (v_bin rfl rfl (aQ7 (by omega))))))
 | _=>exact jj 0 (v_ret (bz rfl))
noncomputable def kb (s:Nat):Nat→List Bool→List Bool
 | _,[]=>[]
 | i,b::r=>(b || i == s)::kb s (i + 1) r
theorem as4 {s:Nat}:∀ (i:Nat) (bs:List Bool),s < i→kb s i bs=bs
 | _,[],_=>rfl
 | i,b::r,h=>by
  unfold kb
  rw [as4 (i + 1) r (by omega),show (i == s)=false from beq_eq_false_iff_ne.mpr (by omega),Bool.or_false]
theorem ab7 {s:Nat}:∀ (i:Nat) (bs:List Bool),i≤s→kb s i bs=bs.set (s - i) true
 | _,[],_=>rfl
 | i,b::r,h=>by
  unfold kb
  by_cases z:i=s
  ·subst z
   rw [as4 (i + 1) r (by omega),Nat.sub_self,List.set_cons_zero]
   simp
  ·rw [ab7 (i + 1) r (by omega),show (i == s)=false from beq_eq_false_iff_ne.mpr z,Bool.or_false,show s - i=(s - (i + 1)) + 1 by omega,List.set_cons_succ]
noncomputable abbrev kTg:MG:=Wk (Us (gN 0) (Us (gN 1) Wl))
noncomputable abbrev kEl:MX:=gn (mVar 1) (mBin gEq (mVar 0) (mBin gIdx (mVar 2) (mC (.int 1))))
theorem eqN (i s:Nat):gEq (.int i) (.int s)=some (.bl (i == s)):=by
 show some (D.bl ((i:Int) == (s:Int)))=_
 by_cases z:i=s
 ·subst z;simp
 ·have:((i:Int) == (s:Int))=false:=by rw [beq_eq_false_iff_ne];omega
  rw [this,beq_eq_false_iff_ne.mpr z]
theorem Bl (s:Nat) (μ:Mu):∀ (bs:List Bool) (i:Nat) (a b:Option D) (acc:List D),J6 kTg mTT kEl (Y9 i (bs.map .bl)) [a,b,some (.tup [.str w_keep,.int s])] μ acc=.ok (acc++(kb s i bs).map .bl) μ
 | [],_,_,_,acc=>by simp [J6,Y9,kb]
 | b::r,i,a,b',acc=>by
  have e:kEl [some (.int i),some (.bl b),some (.tup [.str w_keep,.int s])] μ=.ok (.bl (b || i == s)) μ:=au8 rfl (v_bin rfl rfl (eqN i s))
  have ih:=Bl s μ r (i + 1) (some (.int i)) (some (.bl b)) (acc++[.bl (b || i == s)])
  rw [List.map_cons]
  unfold Y9
  show (noX (kEl [some (.int i),some (.bl b),some (.tup [.str w_keep,.int s])] μ)).bind _=_
  rw [e]
  show J6 kTg mTT kEl _ [some (.int i),some (.bl b),some (.tup [.str w_keep,.int s])] μ (acc++[.bl (b || i == s)])=_
  rw [ih,List.append_assoc,List.singleton_append]
  rfl
theorem aJ4 {d:D} {v:Vw} (h:Sh d v) {bs:List Bool} (hb:bs.length=8) (μ:Mu):Ua [d,bI bs] μ=.ok (bI (v.behind bs)) μ:=by
 cases h with
 | @keep s h =>
  refine jj 0 ((v_skip rfl).trans (v_ret ?_))
  have e0:kn (mVar 1) [some (.tup [.str w_keep,.int s]),some (bI bs)] μ=.ok (Y9 0 (bs.map .bl)) μ:=rfl
  show ug 2 [0] kTg (kn (mVar 1)) mTT kEl [some (.tup [.str w_keep,.int s]),some (bI bs)] μ=_
  unfold ug
  rw [e0,bind_ok,if_pos (by rw [W1,List.length_map,hb];decide)]
  show (J6 kTg mTT kEl _ [none,none,some (.tup [.str w_keep,.int s])] μ []).bind _=_
  rw [Bl s μ bs 0,ab7 0 bs (Nat.zero_le _)]
  rfl
 | _=>exact jj 0 (v_take rfl rfl)
theorem Ke {v:Vw} {bs:List Bool}:(v.behind bs).length=bs.length:=by
 cases v <;> simp [Vw.behind]
end K20
set_option Elab.async false
set_option linter.all false
set_option maxRecDepth 100000
set_option maxHeartbeats 4000000
namespace K20
open PySem PySem.Spec PyProof.Rows L2 M
noncomputable def ins (L:List Nat) (g:Nat):List Nat:=if g∈L then L else L++[g]
theorem am6 {L:List Nat} {g q:Nat}:q∈ins L g↔q∈L∨q=g:=by
 unfold ins
 split
 ·rename_i h
  constructor
  ·exact .inl
  ·rintro (h' | rfl)
   ·exact h'
   ·exact h
 ·simp
theorem kt {q:Nat}:∀ {gs L:List Nat},q∈gs.foldl ins L↔q∈L∨q∈gs
 | [],L=>by simp
 | g::gs,L=>by
  rw [List.foldl_cons,kt,am6,List.mem_cons]
  constructor
  ·rintro ((h | h) | h)
   ·exact .inl h
   ·exact .inr (.inl h)
   ·exact .inr (.inr h)
  ·rintro (h | h | h)
   ·exact .inl (.inl h)
   ·exact .inl (.inr h)
   ·exact .inr h
theorem fb {L:List Nat} {g:Nat}:(ins L g).length≤L.length + 1:=by
 unfold ins
 split <;> simp
theorem ke:∀ {gs L:List Nat},(gs.foldl ins L).length≤L.length + gs.length
 | [],L=>by simp
 | g::gs,L=>by
  rw [List.foldl_cons,List.length_cons]
  have:=@ke gs (ins L g)
  have:=@fb L g
  omega
theorem yx (v:Vw) (p:Nat):(v.goals p).length≤2:=by cases v <;> simp [Vw.goals]
theorem Xu {v:Vw} {p g:Nat} (h:g∈v.goals p):p < g:=by
 cases v <;> simp [Vw.goals] at h <;> omega
noncomputable def Tl (f:Nat→Vw):Nat→List Nat
 | 0=>[0]
 | p + 1=>if p∈Tl f p then ((f p).goals p).foldl ins (Tl f p) else Tl f p
noncomputable def Ul (f:Nat→Vw) (k:Nat):Nat→List Nat
 | 0=>[0]
 | p + 1=>if p∈Ul f k p∧(f p).isK k=false then ((f p).goals p).foldl ins (Ul f k p) else Ul f k p
theorem fh {f:Nat→Vw} {p q:Nat}:q∈Tl f (p + 1)↔q∈Tl f p∨(p∈Tl f p∧q∈(f p).goals p):=by
 rw [Tl]
 split
 ·rename_i h
  rw [kt]
  simp [h]
 ·rename_i h
  simp [h]
theorem kr {f:Nat→Vw} {k p q:Nat}:q∈Ul f k (p + 1)↔q∈Ul f k p∨((p∈Ul f k p∧(f p).isK k=false)∧q∈(f p).goals p):=by
 rw [Ul]
 split
 ·rename_i h
  rw [kt]
  simp [h]
 ·rename_i h
  constructor
  ·exact .inl
  ·rintro (h' | ⟨h',_⟩)
   ·exact h'
   ·exact absurd h' h
theorem af8 (f:Nat→Vw):∀ p,(Tl f p).length≤1 + 2 * p
 | 0=>by simp [Tl]
 | p + 1=>by
  rw [Tl]
  have:=af8 f p
  split
  ·have:=@ke ((f p).goals p) (Tl f p)
   have:=yx (f p) p
   omega
  ·omega
theorem af7 (f:Nat→Vw) (k:Nat):∀ p,(Ul f k p).length≤1 + 2 * p
 | 0=>by simp [Ul]
 | p + 1=>by
  rw [Ul]
  have:=af7 f k p
  split
  ·have:=@ke ((f p).goals p) (Ul f k p)
   have:=yx (f p) p
   omega
  ·omega
theorem au5 {f:Nat→Vw} {q:Nat}:∀ m,q∈Tl f (q + m)↔q∈Tl f q
 | 0=>Iff.rfl
 | m + 1=>by
  rw [← Nat.add_assoc,fh,au5 m]
  constructor
  ·rintro (h | ⟨_,h⟩)
   ·exact h
   ·have:=Xu h;omega
  ·exact .inl
theorem au4 {f:Nat→Vw} {k q:Nat}:∀ m,q∈Ul f k (q + m)↔q∈Ul f k q
 | 0=>Iff.rfl
 | m + 1=>by
  rw [← Nat.add_assoc,kr,au4 m]
  constructor
  ·rintro (h | ⟨_,h⟩)
   ·exact h
   ·have:=Xu h;omega
  ·exact .inl
theorem A5 {f:Nat→Vw} {k:Nat}:∀ {p q:Nat},q∈Ul f k p→q∈Tl f p
 | 0,q,h=>h
 | p + 1,q,h=>by
  rw [kr] at h
  rw [fh]
  rcases h with h | ⟨⟨h,_⟩,h'⟩
  ·exact .inl (A5 h)
  ·exact .inr ⟨A5 h,h'⟩
noncomputable def yb (f:Nat→Vw) (p:Nat):Vw→Bool
 | .ft s=>decide (p∈Tl f p) && decide (p∈Ul f s p)
 | _=>false
noncomputable def fl (f:Nat→Vw) (n p:Nat):Bool:=yb f p (f p) || ((f p).goals p).any fun g=>decide (n≤g)
theorem Y1 (μ:Mu) (xs:List D):j8 (μ++[.lst xs]) (.ref μ.length)=.lst xs:=by
 simp only [j8,List.getElem?_append_right (Nat.le_refl _),Nat.sub_self,List.getElem?_cons_zero]
theorem ae3 {μ:Mu} {xs:List D} (ν:Mu):j8 (μ++[.lst xs]++ν) (.ref μ.length)=.lst xs:=by
 have:(μ++[.lst xs]++ν)[μ.length]? =some (.lst xs):=by
  rw [List.append_assoc,List.getElem?_append_right (Nat.le_refl _),Nat.sub_self]
  rfl
 simp only [j8,this]
theorem Ym {μ:Mu} {c:D} {xs:List D} (h:j8 μ c=.lst xs) (ν:Mu):j8 (μ++ν) c=.lst xs:=by
 cases c with
 | ref k =>
  simp only [j8] at h ⊢
  cases e:μ[k]? with
  | none=>rw [e] at h;cases h
  | some z =>
   have hk:k < μ.length:=(List.getElem?_eq_some_iff.mp e).1
   rw [List.getElem?_append_left hk,e]
   rw [e] at h
   exact h
 | _=>exact h
theorem Vo (μ:Mu) (x y:Cell):(μ++[x]).set μ.length y=μ++[y]:=by
 rw [List.set_append_right _ _ (Nat.le_refl _),Nat.sub_self]
 rfl
noncomputable def iL (L:List Nat):List D:=L.map fun (g:Nat)=>D.int g
theorem Vi:∀ L:List Nat,plainDs (iL L)=true
 | []=>rfl
 | g::L=>by
  show (jr (D.int g) && plainDs (iL L))=true
  rw [Vi L]
  rfl
theorem Cq (g:Nat):∀ L:List Nat,inD (.int g) (iL L)=decide (g∈L)
 | []=>rfl
 | h::L=>by
  show (((h:Int) == (g:Int)) || inD (.int g) (iL L))=_
  rw [Cq g L]
  by_cases z:h=g
  ·subst z;simp
  ·have:((h:Int) == (g:Int))=false:=by rw [beq_eq_false_iff_ne];omega
   rw [this,Bool.false_or]
   have:g≠h:=fun q=>z q.symm
   simp [this]
theorem Bf (g:Nat) (L:List Nat):gIn (.int g) (.lst (iL L))=some (.bl (decide (g∈L))):=by
 show (if Zg (.int g) (iL L) then some (D.bl (inD (.int g) (iL L))) else none)=_
 rw [if_pos (by unfold Zg;rw [Vi];rfl),Cq]
theorem aa2 (g:Nat) (L:List Nat):zr (.int g) (.lst (iL L))=some (.bl (!decide (g∈L))):=by
 show (if Zg (.int g) (iL L) then some (D.bl (!inD (.int g) (iL L))) else none)=_
 rw [if_pos (by unfold Zg;rw [Vi];rfl),Cq]
theorem Vz {ρ:En} {μ μ1:Mu} {i:Nat} {n:MSt} {d:D} {ds:List D} {ρ1:En} (h:n (ρ.set i (some d)) μ=.ok (.nx ρ1) μ1):Jl (gN i) n (d::ds) ρ μ=Jl (gN i) n ds ρ1 μ1:=av2 i h
theorem aq9 {mo m:MX} {ρ:En} {μ0:Mu} {L:List D} {y:D} (ho:mo ρ (μ0++[.lst L])=.ok (.ref μ0.length) (μ0++[.lst L])) (hm:m ρ (μ0++[.lst L])=.ok y (μ0++[.lst L])) (hl:L.length < 16777216):U6 mo m ρ (μ0++[.lst L])=.ok .non (μ0++[.lst (L++[y])]):=by
 unfold U6
 rw [ho,bind_ok,Y1,if_pos (show Wm (.lst L)=true from rfl),hm,bind_ok]
 unfold a30
 have:(μ0++[Cell.lst L])[μ0.length]? =some (.lst L):=by rw [List.getElem?_append_right (Nat.le_refl _),Nat.sub_self];rfl
 dsimp only
 rw [this]
 dsimp only
 rw [if_pos hl,Vo]
theorem v_drop {m:MX} {ρ:En} {μ μ1:Mu} {d:D} (h:m ρ μ=.ok d μ1):um m ρ μ=.ok (.nx ρ) μ1:=by unfold um;rw [h];rfl
theorem ar1 {μ0:Mu} {c:D} {x2:Option D}:∀ (gs L:List Nat) (x3:Option D),L.length + gs.length < 16777216→∃ y3,Jl (gN 3) wj (iL gs) [some c,some (.ref μ0.length),x2,x3] (μ0++[.lst (iL L)])=.ok (.nx [some c,some (.ref μ0.length),x2,y3]) (μ0++[.lst (iL (gs.foldl ins L))])
 | [],L,x3,_=>⟨x3,rfl⟩
 | g::gs,L,x3,hl=>by
  rw [List.length_cons] at hl
  have hl':(ins L g).length + gs.length < 16777216:=by have:=@fb L g;omega
  obtain ⟨y3,ih⟩:=ar1 (μ0:=μ0) (c:=c) (x2:=x2) gs (ins L g) (some (.int g)) hl'
  refine ⟨y3,Eq.trans (Vz ?_) ih⟩
  have ht:mTest (mBin zr (mVar 3) (mVar 1)) [some c,some (.ref μ0.length),x2,some (.int g)] (μ0++[.lst (iL L)])=.ok (!decide (g∈L)) (μ0++[.lst (iL L)]):=ji (v_bin rfl rfl (by rw [Y1];exact aa2 g L))
  show wj [some c,some (.ref μ0.length),x2,some (.int g)] (μ0++[.lst (iL L)])=_
  unfold ins
  split
  ·rename_i h
   rw [decide_eq_true h] at ht
   exact v_iteF ht
  ·rename_i h
   rw [decide_eq_false h] at ht
   refine (v_iteT ht).trans ((v_drop (aq9 (y:=.int g) rfl rfl (by rw [iL,List.length_map];omega))).trans ?_)
   rw [show iL L++[D.int g]=iL (L++[g]) by simp [iL]]
theorem ar0 {μ0:Mu} {c:D} {x1 x3:Option D}:∀ (gs L:List Nat) (x4:Option D),L.length + gs.length < 16777216→∃ y4,Jl (gN 4) wm (iL gs) [some c,x1,some (.ref μ0.length),x3,x4] (μ0++[.lst (iL L)])=.ok (.nx [some c,x1,some (.ref μ0.length),x3,y4]) (μ0++[.lst (iL (gs.foldl ins L))])
 | [],L,x4,_=>⟨x4,rfl⟩
 | g::gs,L,x4,hl=>by
  rw [List.length_cons] at hl
  have hl':(ins L g).length + gs.length < 16777216:=by have:=@fb L g;omega
  obtain ⟨y4,ih⟩:=ar0 (μ0:=μ0) (c:=c) (x1:=x1) (x3:=x3) gs (ins L g) (some (.int g)) hl'
  refine ⟨y4,Eq.trans (Vz ?_) ih⟩
  have ht:mTest (mBin zr (mVar 4) (mVar 2)) [some c,x1,some (.ref μ0.length),x3,some (.int g)] (μ0++[.lst (iL L)])=.ok (!decide (g∈L)) (μ0++[.lst (iL L)]):=ji (v_bin rfl rfl (by rw [Y1];exact aa2 g L))
  show wm [some c,x1,some (.ref μ0.length),x3,some (.int g)] (μ0++[.lst (iL L)])=_
  unfold ins
  split
  ·rename_i h
   rw [decide_eq_true h] at ht
   exact v_iteF ht
  ·rename_i h
   rw [decide_eq_false h] at ht
   refine (v_iteT ht).trans ((v_drop (aq9 (y:=.int g) rfl rfl (by rw [iL,List.length_map];omega))).trans ?_)
   rw [show iL L++[D.int g]=iL (L++[g]) by simp [iL]]
end K20
set_option Elab.async false
set_option linter.all false
set_option maxRecDepth 100000
set_option maxHeartbeats 4000000
namespace K20
open PySem PySem.Spec PyProof.Rows L2 M
noncomputable def Code (ds:List D) (f:Nat→Vw):Prop:=∀ (i:Nat) (d:D),ds[i]? =some d→Sh d (f i)
theorem zi {tg:MG} {it:MIt} {n:MSt} {ρ:En} {μ μ1:Mu} {ds:List D} (h:it ρ μ=.ok ds μ1):qr tg it n ρ μ=Jl tg n ds ρ μ1:=by rw [Dt,h];rfl
theorem V9 {m:MX} {ρ:En} {μ μ1:Mu} {ds:List D} (h:m ρ μ=.ok (.lst ds) μ1):U3 m ρ μ=.ok ds μ1:=by rw [Xr,h];rfl
theorem qa {m:MX} {ρ:En} {μ:Mu} {n:Nat} (h:m ρ μ=.ok (.int n) μ) (hn:n < 1000000):uo m ρ μ=.ok (iL (List.range' 0 n)) μ:=by
 rw [qi,h,bind_ok,Z6]
 unfold Yo
 dsimp only
 rw [if_pos (by constructor <;> omega),Int.toNat_natCast,ofO_some]
 unfold yr
 rw [List.range_eq_range']
 rfl
theorem Eo {d:D} {v:Vw} (h:Sh d v) (μ:Mu):j8 μ d=d:=by cases h <;> rfl
theorem Zo {ds:List D} {p:Nat} {d:D} (h:ds[p]? =some d):gIdx (.lst ds) (.int p)=some d:=by
 show atI ds (p:Int)=_
 rw [Qv (by omega),Int.toNat_natCast,h]
theorem Xv (p m:Nat):iL (List.range' p (m + 1))=D.int p::iL (List.range' (p + 1) m):=by rw [List.range'_succ];rfl
section
variable {c:D} {ds:List D} {f:Nat→Vw} {μ0:Mu}
theorem a46 (hc:Code ds f) (hd:j8 μ0 c=.lst ds) (hn:ds.length < 1000):∀ (m p:Nat) (x2 x3:Option D),p + m=ds.length→∃ y2 y3,
  Jl (gN 2) wl (iL (List.range' p m)) [some c,some (.ref μ0.length),x2,x3] (μ0++[.lst (iL (Tl f p))])=.ok (.nx [some c,some (.ref μ0.length),y2,y3]) (μ0++[.lst (iL (Tl f (p + m)))])
 | 0,p,x2,x3,_=>⟨x2,x3,rfl⟩
 | m + 1,p,x2,x3,hm=>by
  have hp:p < ds.length:=by omega
  have hs:=hc p _ (List.getElem?_eq_getElem hp)
  have ht:mTest (mBin gIn (mVar 2) (mVar 1)) [some c,some (.ref μ0.length),some (.int p),x3] (μ0++[.lst (iL (Tl f p))])=.ok (decide (p∈Tl f p)) (μ0++[.lst (iL (Tl f p))]):=ji (v_bin rfl rfl (by rw [Y1];exact Bf p _))
  have key:∃ z3,wl [some c,some (.ref μ0.length),some (.int p),x3] (μ0++[.lst (iL (Tl f p))])=.ok (.nx [some c,some (.ref μ0.length),some (.int p),z3]) (μ0++[.lst (iL (Tl f (p + 1)))]):=by
   rw [Tl]
   split
   ·rename_i h
    rw [decide_eq_true h] at ht
    obtain ⟨z3,e⟩:=ar1 (μ0:=μ0) (c:=c) (x2:=some (.int p)) ((f p).goals p) (Tl f p) x3 (by have:=af8 f p;have:=yx (f p) p;omega)
    refine ⟨z3,(v_iteT ht).trans ((zi (V9 (v_call (v_cons (v_bin rfl rfl ?_) (v_cons rfl v_nil)) (a51 hs p _)))).trans e)⟩
    rw [Ym hd]
    exact Zo (List.getElem?_eq_getElem hp)
   ·rename_i h
    rw [decide_eq_false h] at ht
    exact ⟨x3,v_iteF ht⟩
  obtain ⟨z3,e⟩:=key
  obtain ⟨y2,y3,ih⟩:=a46 hc hd hn m (p + 1) (some (.int p)) z3 (by omega)
  refine ⟨y2,y3,?_⟩
  rw [Xv,show p + (m + 1)=p + 1 + m by omega]
  exact (Vz e).trans ih
theorem there_eq (hc:Code ds f) (hd:j8 μ0 c=.lst ds) (hn:ds.length < 1000):Fs [c] μ0=.ok (.ref μ0.length) (μ0++[.lst (iL (Tl f ds.length))]):=by
 obtain ⟨y2,y3,e⟩:=a46 hc hd hn ds.length 0 none none (by omega)
 rw [Nat.zero_add] at e
 refine jj 3 ((v_set 1 (d:=.ref μ0.length) (μ1:=μ0++[.lst [.int 0]]) rfl).trans ((v_seqN ((zi (qa (uq (v_cons rfl v_nil) ?_) (by omega))).trans e)).trans (v_ret rfl)))
 rw [List.map_cons,Ym hd]
 rfl
theorem a41 {k:Nat} (hc:Code ds f) (hd:j8 μ0 c=.lst ds) (hn:ds.length < 1000):∀ (m p:Nat) (x3 x4:Option D),p + m=ds.length→∃ y3 y4,
  Jl (gN 3) wn (iL (List.range' p m)) [some c,some (.int k),some (.ref μ0.length),x3,x4] (μ0++[.lst (iL (Ul f k p))])=.ok (.nx [some c,some (.int k),some (.ref μ0.length),y3,y4]) (μ0++[.lst (iL (Ul f k (p + m)))])
 | 0,p,x3,x4,_=>⟨x3,x4,rfl⟩
 | m + 1,p,x3,x4,hm=>by
  have hp:p < ds.length:=by omega
  have hs:=hc p _ (List.getElem?_eq_getElem hp)
  have ht:mTest (mBin gIn (mVar 3) (mVar 2)) [some c,some (.int k),some (.ref μ0.length),some (.int p),x4] (μ0++[.lst (iL (Ul f k p))])=.ok (decide (p∈Ul f k p)) (μ0++[.lst (iL (Ul f k p))]):=ji (v_bin rfl rfl (by rw [Y1];exact Bf p _))
  have hi:mBin gIdx (mVar 0) (mVar 3) [some c,some (.int k),some (.ref μ0.length),some (.int p),x4] (μ0++[.lst (iL (Ul f k p))])=.ok ds[p] (μ0++[.lst (iL (Ul f k p))]):=v_bin rfl rfl (by rw [Ym hd];exact Zo (List.getElem?_eq_getElem hp))
  have hpl:j8 (μ0++[.lst (iL (Ul f k p))]) ds[p]=ds[p]:=Eo hs _
  have hk:mTest (mBin gNe (mBin gIdx (mVar 0) (mVar 3)) (ja (mCons (mC (.str w_keep)) (mCons (mVar 1) mNil)))) [some c,some (.int k),some (.ref μ0.length),some (.int p),x4] (μ0++[.lst (iL (Ul f k p))])=.ok (!(f p).isK k) (μ0++[.lst (iL (Ul f k p))]) :=
   ji (v_bin hi rfl (by rw [hpl];exact aJ3 hs k))
  have key:∃ z4,wn [some c,some (.int k),some (.ref μ0.length),some (.int p),x4] (μ0++[.lst (iL (Ul f k p))])=.ok (.nx [some c,some (.int k),some (.ref μ0.length),some (.int p),z4]) (μ0++[.lst (iL (Ul f k (p + 1)))]):=by
   rw [Ul]
   split
   ·rename_i h
    rw [decide_eq_true h.1] at ht
    rw [h.2] at hk
    obtain ⟨z4,e⟩:=ar0 (μ0:=μ0) (c:=c) (x1:=some (.int k)) (x3:=some (.int p)) ((f p).goals p) (Ul f k p) x4 (by have:=af7 f k p;have:=yx (f p) p;omega)
    exact ⟨z4,(v_iteT ((v_andT ht).trans hk)).trans ((zi (V9 (v_call (v_cons hi (v_cons rfl v_nil)) (a51 hs p _)))).trans e)⟩
   ·rename_i h
    refine ⟨x4,v_iteF ?_⟩
    by_cases h1:p∈Ul f k p
    ·rw [decide_eq_true h1] at ht
     have h2:(f p).isK k=true:=by
      cases z:(f p).isK k with
      | true=>rfl
      | false=>exact absurd ⟨h1,z⟩ h
     rw [h2] at hk
     exact (v_andT ht).trans hk
    ·rw [decide_eq_false h1] at ht
     exact yt ht
  obtain ⟨z4,e⟩:=key
  obtain ⟨y3,y4,ih⟩:=a41 hc hd hn m (p + 1) (some (.int p)) z4 (by omega)
  refine ⟨y3,y4,?_⟩
  rw [Xv,show p + (m + 1)=p + 1 + m by omega]
  exact (Vz e).trans ih
theorem a40 {k:Nat} (hc:Code ds f) (hd:j8 μ0 c=.lst ds) (hn:ds.length < 1000):vn [c,.int k] μ0=.ok (.ref μ0.length) (μ0++[.lst (iL (Ul f k ds.length))]):=by
 obtain ⟨y2,y3,e⟩:=a41 (k:=k) hc hd hn ds.length 0 none none (by omega)
 rw [Nat.zero_add] at e
 refine jj 3 ((v_set 2 (d:=.ref μ0.length) (μ1:=μ0++[.lst [.int 0]]) rfl).trans ((v_seqN ((zi (qa (uq (v_cons rfl v_nil) ?_) (by omega))).trans e)).trans (v_ret rfl)))
 rw [List.map_cons,Ym hd]
 rfl
noncomputable abbrev fEl:MX:=mBin gLt (mVar 0) (jm uj (mCons (mVar 1) mNil))
theorem ae1 {μ:Mu} (hd:j8 μ c=.lst ds):∀ (gs:List Nat) (a:Option D) (acc:List D),J6 (gN 0) mTT fEl (iL gs) [a,some c] μ acc=.ok (acc++gs.map fun g=>.bl (decide (g < ds.length))) μ
 | [],_,acc=>by simp [J6,iL]
 | g::gs,a,acc=>by
  have e:fEl [some (.int g),some c] μ=.ok (.bl (decide (g < ds.length))) μ:=by
   refine v_bin rfl (uq (d:=.int ds.length) (v_cons rfl v_nil) ?_) ?_
   ·rw [List.map_cons,hd];rfl
   ·show some (D.bl (decide ((g:Int) < (ds.length:Int))))=_
    by_cases z:g < ds.length
    ·rw [decide_eq_true z,decide_eq_true (by omega)]
    ·rw [decide_eq_false z,decide_eq_false (by omega)]
  have ih:=ae1 hd gs (some (.int g)) (acc++[.bl (decide (g < ds.length))])
  show (noX (fEl [some (.int g),some c] μ)).bind _=_
  rw [e]
  show J6 (gN 0) mTT fEl (iL gs) [some (.int g),some c] μ (acc++[.bl (decide (g < ds.length))])=_
  rw [ih,List.append_assoc,List.singleton_append]
  rfl
theorem Ch:∀ (bs:List Bool),Zl (bs.map D.bl)=some bs
 | []=>rfl
 | b::bs=>by rw [List.map_cons];unfold Zl;rw [Ch bs];rfl
theorem am1 {gs:List Nat} {n:Nat}:(!(gs.map fun g=>decide (g < n)).all id)=gs.any fun g=>decide (n≤g):=by
 induction gs with
 | nil=>rfl
 | cons g gs ih =>
  rw [List.map_cons,List.all_cons,List.any_cons,← ih,Bool.not_and]
  congr 1
  by_cases z:g < n
  ·simp [z]
  ·simp [z];omega
theorem a13 {μ:Mu} {p:Nat} {x1:Option D} (hd:j8 μ c=.lst ds) (hp:p < ds.length) (hs:Sh ds[p] (f p)) :
  mNot (mTru (jm Co (mCons (ug 1 [0] (gN 0) (U3 (mCall Yp (mCons (mBin gIdx (mVar 0) (mVar 2)) (mCons (mVar 2) mNil)))) mTT (mBin gLt (mVar 0) (jm uj (mCons (mVar 1) mNil)))) mNil))) [some c,x1,some (.int p)] μ=.ok (((f p).goals p).any fun g=>decide (ds.length≤g)) μ:=by
 have e0:U3 (mCall Yp (mCons (mBin gIdx (mVar 0) (mVar 2)) (mCons (mVar 2) mNil))) [some c,x1,some (.int p)] μ=.ok (iL ((f p).goals p)) μ:=V9 (v_call (v_cons (v_bin rfl rfl (by rw [hd];exact Zo (List.getElem?_eq_getElem hp))) (v_cons rfl v_nil)) (a51 hs p _))
 have e1:ug 1 [0] (gN 0) (U3 (mCall Yp (mCons (mBin gIdx (mVar 0) (mVar 2)) (mCons (mVar 2) mNil)))) mTT (mBin gLt (mVar 0) (jm uj (mCons (mVar 1) mNil))) [some c,x1,some (.int p)] μ=.ok (.lst (((f p).goals p).map fun g=>.bl (decide (g < ds.length)))) μ:=by
  unfold ug
  rw [e0,bind_ok,if_pos (by rw [iL,List.length_map];have:=yx (f p) p;omega)]
  show (J6 (gN 0) mTT fEl _ [none,some c] μ []).bind _=_
  rw [ae1 hd]
  rfl
 rw [← am1]
 refine v_not (Za (d:=.bl ((((f p).goals p).map fun g=>decide (g < ds.length)).all id)) (uq (v_cons e1 v_nil) ?_) rfl)
 show (Zl (((f p).goals p).map fun g=>D.bl (decide (g < ds.length)))).map _=_
 rw [show (((f p).goals p).map fun g=>D.bl (decide (g < ds.length)))=(((f p).goals p).map fun g=>decide (g < ds.length)).map D.bl by rw [List.map_map];rfl,Ch]
 rfl
theorem Cn {ν:Mu} {p:Nat} {x2:Option D} (hc:Code ds f) (hd:j8 μ0 c=.lst ds) (hn:ds.length < 1000) (hp:p < ds.length) :
  ∃ ν',wg [some c,some (.ref μ0.length),some (.int p)] (μ0++[.lst (iL (Tl f ds.length))]++ν)=(if fl f ds.length p=true then .ok (.rt (.int p)) (μ0++[.lst (iL (Tl f ds.length))]++ν') else .ok (.nx [some c,some (.ref μ0.length),some (.int p)]) (μ0++[.lst (iL (Tl f ds.length))]++ν')):=by
 have hs:=hc p _ (List.getElem?_eq_getElem hp)
 have hd':∀ ν,j8 (μ0++[.lst (iL (Tl f ds.length))]++ν) c=.lst ds:=fun ν=>by rw [List.append_assoc];exact Ym hd _
 have hpl:∀ μ,j8 μ ds[p]=ds[p]:=Eo hs
 obtain ⟨x,hx1,hx2,hx3⟩:=aw8 hs
 have hi:∀ ν,mBin gIdx (mVar 0) (mVar 2) [some c,some (.ref μ0.length),some (.int p)] (μ0++[.lst (iL (Tl f ds.length))]++ν)=.ok ds[p] (μ0++[.lst (iL (Tl f ds.length))]++ν):=fun ν=>v_bin rfl rfl (by rw [hd'];exact Zo (List.getElem?_eq_getElem hp))
 have t1:mTest (mBin gEq (mBin gIdx (mBin gIdx (mVar 0) (mVar 2)) (mC (.int 0))) (mC (.str U5))) [some c,some (.ref μ0.length),some (.int p)] (μ0++[.lst (iL (Tl f ds.length))]++ν)=.ok (f p).isF (μ0++[.lst (iL (Tl f ds.length))]++ν) :=
  ji (v_bin (x:=.str x) (v_bin (hi ν) rfl (by rw [hpl];exact hx1)) rfl hx2)
 have t2:mTest (mBin gIn (mVar 2) (mVar 1)) [some c,some (.ref μ0.length),some (.int p)] (μ0++[.lst (iL (Tl f ds.length))]++ν)=.ok (decide (p∈Tl f p)) (μ0++[.lst (iL (Tl f ds.length))]++ν):=by
  have:=au5 (f:=f) (q:=p) (ds.length - p)
  rw [show p + (ds.length - p)=ds.length by omega] at this
  rw [show decide (p∈Tl f p)=decide (p∈Tl f ds.length) from decide_eq_decide.mpr this.symm]
  exact ji (v_bin rfl rfl (by rw [ae3];exact Bf p _))
 have second:∀ ν,(jl (mNot (mTru (jm Co (mCons (ug 1 [0] (gN 0) (U3 (mCall Yp (mCons (mBin gIdx (mVar 0) (mVar 2)) (mCons (mVar 2) mNil)))) mTT (mBin gLt (mVar 0) (jm uj (mCons (mVar 1) mNil)))) mNil)))) (jt (mVar 2)) jx) [some c,some (.ref μ0.length),some (.int p)] (μ0++[.lst (iL (Tl f ds.length))]++ν) =
   (if (((f p).goals p).any fun g=>decide (ds.length≤g))=true then .ok (.rt (.int p)) (μ0++[.lst (iL (Tl f ds.length))]++ν) else .ok (.nx [some c,some (.ref μ0.length),some (.int p)]) (μ0++[.lst (iL (Tl f ds.length))]++ν)):=fun ν=>by
  have h:=a13 (x1:=some (.ref μ0.length)) (hd' ν) hp hs
  cases z:(((f p).goals p).any fun g=>decide (ds.length≤g)) with
  | true=>rw [z] at h;exact (v_iteT h).trans (v_ret rfl)
  | false=>rw [z] at h;exact v_iteF h
 unfold fl
 cases hv:f p with
 | ft s =>
  rw [hv] at t1 hx3 second
  have h1:=hx3 s rfl
  by_cases hT:p∈Tl f p
  ·rw [decide_eq_true hT] at t2
   have t3:mTest (mBin gIn (mVar 2) (mCall vn (mCons (mVar 0) (mCons (mBin gIdx (mBin gIdx (mVar 0) (mVar 2)) (mC (.int 1))) mNil)))) [some c,some (.ref μ0.length),some (.int p)] (μ0++[.lst (iL (Tl f ds.length))]++ν)=.ok (decide (p∈Ul f s p)) (μ0++[.lst (iL (Tl f ds.length))]++(ν++[.lst (iL (Ul f s ds.length))])):=by
    have:=au4 (f:=f) (k:=s) (q:=p) (ds.length - p)
    rw [show p + (ds.length - p)=ds.length by omega] at this
    rw [show decide (p∈Ul f s p)=decide (p∈Ul f s ds.length) from decide_eq_decide.mpr this.symm]
    have hu:=a40 (k:=s) (c:=c) (μ0:=μ0++[.lst (iL (Tl f ds.length))]++ν) hc (hd' ν) hn
    refine ji (v_bin rfl (v_call (v_cons rfl (v_cons (v_bin (hi ν) rfl (by rw [hpl];exact h1)) v_nil)) (hu.trans (by rw [List.append_assoc _ ν]))) ?_)
    rw [show μ0++[.lst (iL (Tl f ds.length))]++(ν++[.lst (iL (Ul f s ds.length))])=(μ0++[.lst (iL (Tl f ds.length))]++ν)++[.lst (iL (Ul f s ds.length))] by rw [List.append_assoc _ ν],Y1]
    exact Bf p _
   refine ⟨ν++[.lst (iL (Ul f s ds.length))],?_⟩
   by_cases hU:p∈Ul f s p
   ·rw [decide_eq_true hU] at t3
    rw [show (yb f p (.ft s) || ((Vw.ft s).goals p).any fun g=>decide (ds.length≤g))=true by simp [yb,hT,hU],if_pos rfl]
    exact v_take ((v_andT t1).trans ((v_andT t2).trans t3)) rfl
   ·rw [decide_eq_false hU] at t3
    rw [show yb f p (.ft s)=false by simp [yb,hU],Bool.false_or]
    exact (v_skip ((v_andT t1).trans ((v_andT t2).trans t3))).trans (second _)
  ·rw [decide_eq_false hT] at t2
   refine ⟨ν,?_⟩
   rw [show yb f p (.ft s)=false by simp [yb,hT],Bool.false_or]
   exact (v_skip ((v_andT t1).trans (yt t2))).trans (second _)
 | _ =>
  rw [hv] at t1 second
  exact ⟨ν,(v_skip (yt t1)).trans (second _)⟩
theorem Kx (hc:Code ds f) (hd:j8 μ0 c=.lst ds) (hn:ds.length < 1000):∀ (m p:Nat) (ν:Mu) (x2:Option D),p + m=ds.length→∃ ν' y2,
  Jl (gN 2) wg (iL (List.range' p m)) [some c,some (.ref μ0.length),x2] (μ0++[.lst (iL (Tl f ds.length))]++ν)=(match (List.range' p m).find? (fl f ds.length) with
   | some q=>.ok (.rt (.int q)) (μ0++[.lst (iL (Tl f ds.length))]++ν')
   | none=>.ok (.nx [some c,some (.ref μ0.length),y2]) (μ0++[.lst (iL (Tl f ds.length))]++ν'))
 | 0,p,ν,x2,_=>⟨ν,x2,rfl⟩
 | m + 1,p,ν,x2,hm=>by
  obtain ⟨ν1,e⟩:=Cn (ν:=ν) (x2:=x2) (p:=p) hc hd hn (by omega)
  rw [Xv,List.range'_succ,List.find?_cons]
  cases z:fl f ds.length p with
  | true =>
   rw [z,if_pos rfl] at e
   exact ⟨ν1,none,av1 2 e⟩
  | false =>
   rw [z,if_neg (by decide)] at e
   obtain ⟨ν',y2,ih⟩:=Kx hc hd hn m (p + 1) ν1 (some (.int p)) (by omega)
   exact ⟨ν',y2,(Vz e).trans ih⟩
noncomputable def first (f:Nat→Vw) (n m:Nat):Option Nat:=(List.range' 0 m).find? (fl f n)
noncomputable def due:Option Nat→Int
 | some q=>q
 | none=> -1
theorem ad9 (hc:Code ds f) (hd:j8 μ0 c=.lst ds) (hn:ds.length < 1000):∃ ν,f_fault [c] μ0=.ok (.int (due (first f ds.length ds.length))) (μ0++ν):=by
 obtain ⟨ν',y2,e⟩:=Kx hc hd hn ds.length 0 [] none (by omega)
 rw [List.append_nil] at e
 refine ⟨[.lst (iL (Tl f ds.length))]++ν',?_⟩
 rw [← List.append_assoc]
 refine jj 2 ((v_set 1 (v_call rfl (there_eq hc hd hn))).trans ?_)
 have e0:uo (jm uj (mCons (mVar 0) mNil)) [some c,some (.ref μ0.length),none] (μ0++[.lst (iL (Tl f ds.length))])=.ok (iL (List.range' 0 ds.length)) (μ0++[.lst (iL (Tl f ds.length))]):=qa (uq (v_cons rfl v_nil) (by rw [List.map_cons,Ym hd];rfl)) (by omega)
 unfold first
 cases z:(List.range' 0 ds.length).find? (fl f ds.length) with
 | some q=>rw [z] at e;exact v_seqR ((zi e0).trans e)
 | none=>rw [z] at e;exact (v_seqN ((zi e0).trans e)).trans (v_ret rfl)
end
end K20
set_option Elab.async false
set_option linter.all false
set_option maxRecDepth 100000
set_option maxHeartbeats 4000000
namespace K20
open PySem PySem.Spec PyProof.Rows L2 M
noncomputable abbrev As:=List (Nat×List Bool)
noncomputable def dKs (A:As):List DK:=A.map fun p=>.inl (p.1:Int)
noncomputable def dVs (A:As):List D:=A.map fun p=>bI p.2
noncomputable def dC (A:As):Cell:=.dic (dKs A) (dVs A)
theorem aD3 (q:Nat):List.lookup q ([]:As)=none:=rfl
theorem U7 (q a:Nat) (b:List Bool) (A:As):List.lookup q ((a,b)::A)=if a=q then some b else List.lookup q A:=by
 rw [List.lookup_cons]
 by_cases z:a=q
 ·subst z;simp
 ·rw [if_neg z,show (q == a)=false from beq_eq_false_iff_ne.mpr fun h=>z h.symm]
theorem Cs {a q:Nat} (h:a≠q):¬ (Sum.inl (a:Int):DK)=.inl (q:Int):=fun z=>h (by have:=Sum.inl.inj z;omega)
theorem vp (q:Nat):∀ A:As,J2 (dKs A) (dVs A) (.inl (q:Int))=(List.lookup q A).map bI
 | []=>rfl
 | (a,b)::A=>by
  show (if (Sum.inl (a:Int):DK)=.inl (q:Int) then some (bI b) else J2 (dKs A) (dVs A) (.inl (q:Int)))=_
  rw [U7]
  by_cases z:a=q
  ·subst z;simp
  ·rw [if_neg z,if_neg (Cs z),vp q A]
theorem af5 (q:Nat):∀ A:As,((dKs A).any fun k=>decide (k=.inl (q:Int)))=(List.lookup q A).isSome
 | []=>rfl
 | (a,b)::A=>by
  show (decide ((Sum.inl (a:Int):DK)=.inl (q:Int)) || (dKs A).any fun k=>decide (k=.inl (q:Int)))=_
  rw [U7,af5 q A]
  by_cases z:a=q
  ·subst z;simp
  ·rw [if_neg z,decide_eq_false (Cs z),Bool.false_or]
noncomputable def rp (q:Nat) (v:List Bool):As→As
 | []=>[]
 | (a,b)::A=>(a,if a=q then v else b)::rp q v A
theorem B1 (q:Nat) (v:List Bool):∀ A:As,dKs (rp q v A)=dKs A
 | []=>rfl
 | (a,b)::A=>by show _::dKs (rp q v A)=_::dKs A;rw [B1 q v A]
theorem B0 (q:Nat) (v:List Bool):∀ A:As,dVs (rp q v A)=putVs (dKs A) (dVs A) (.inl (q:Int)) (bI v)
 | []=>rfl
 | (a,b)::A=>by
  show bI (if a=q then v else b)::dVs (rp q v A)=(if (Sum.inl (a:Int):DK)=.inl (q:Int) then bI v else bI b)::putVs (dKs A) (dVs A) (.inl (q:Int)) (bI v)
  rw [B0 q v A]
  congr 1
  by_cases z:a=q
  ·subst z;simp
  ·rw [if_neg z,if_neg (Cs z)]
theorem a62 (q:Nat) (v:List Bool):∀ A:As,(rp q v A).length=A.length
 | []=>rfl
 | (a,b)::A=>by show (rp q v A).length + 1=A.length + 1;rw [a62 q v A]
theorem Ga (q:Nat) (v:List Bool) (r:Nat):∀ A:As,(List.lookup q A).isSome=true→List.lookup r (rp q v A)=if r=q then some v else List.lookup r A
 | [],h=>by cases h
 | (a,b)::A,h=>by
  show List.lookup r ((a,if a=q then v else b)::rp q v A)=_
  rw [U7,U7]
  by_cases z:a=q
  ·subst z
   by_cases y:r=a
   ·subst y;simp
   ·have y':¬ a=r:=fun h=>y h.symm
    rw [if_neg y',if_neg y',if_neg y]
    cases e:List.lookup a A with
    | some x=>rw [Ga a v r A (by rw [e];rfl),if_neg y]
    | none =>
     clear h
     have:∀ A:As,List.lookup a A=none→List.lookup r (rp a v A)=List.lookup r A:=by
      intro A
      induction A with
      | nil=>intro _;rfl
      | cons p A ih =>
       obtain ⟨a2,b2⟩:=p
       intro h
       show List.lookup r ((a2,if a2=a then v else b2)::rp a v A)=_
       rw [U7] at h
       split at h
       ·cases h
       ·rename_i h2
        rw [U7,U7,if_neg h2,ih h]
     exact this A e
  ·rw [U7,if_neg z] at h
   rw [Ga q v r A h,if_neg z]
   by_cases y:r=q
   ·subst y
    rw [if_neg z,if_pos rfl,if_pos rfl]
   ·rw [if_neg y,if_neg y]
noncomputable def pt (A:As) (q:Nat) (v:List Bool):As:=if (List.lookup q A).isSome=true then rp q v A else A++[(q,v)]
theorem Bp (q:Nat) (v:List Bool) (r:Nat):∀ A:As,List.lookup r (A++[(q,v)])=(List.lookup r A).or (if q=r then some v else none)
 | []=>by rw [List.nil_append,U7];rfl
 | (a,b)::A=>by
  rw [List.cons_append,U7,U7,Bp q v r A]
  split <;> rfl
theorem B8 (A:As) (q:Nat) (v:List Bool) (r:Nat):List.lookup r (pt A q v)=if r=q then some v else List.lookup r A:=by
 unfold pt
 split
 ·rename_i h;exact Ga q v r A h
 ·rename_i h
  rw [Bp]
  by_cases y:r=q
  ·subst y
   rw [if_pos rfl,if_pos rfl]
   cases e:List.lookup r A with
   | none=>rfl
   | some x=>rw [e] at h;exact absurd rfl h
  ·have y':¬ q=r:=fun h=>y h.symm
   rw [if_neg y,if_neg y']
   cases List.lookup r A <;> rfl
theorem a68 (A:As) (q:Nat) (v:List Bool):(pt A q v).length≤A.length + 1:=by
 unfold pt
 split
 ·rw [a62];omega
 ·simp
theorem v_put {mo mi mv:MX} {ρ:En} {μ0:Mu} {A:As} {g:Nat} {v:List Bool} (hv:mv ρ (μ0++[dC A])=.ok (bI v) (μ0++[dC A])) (ho:mo ρ (μ0++[dC A])=.ok (.ref μ0.length) (μ0++[dC A])) (hi:mi ρ (μ0++[dC A])=.ok (.int g) (μ0++[dC A])) (hl:A.length < 16777216) :
  fe mo mi mv ρ (μ0++[dC A])=.ok (.nx ρ) (μ0++[dC (pt A g v)]):=by
 unfold fe
 rw [hv,bind_ok,ho,bind_ok,hi,bind_ok]
 have e:(μ0++[dC A])[μ0.length]? =some (dC A):=by rw [List.getElem?_append_right (Nat.le_refl _),Nat.sub_self];rfl
 unfold Eb
 dsimp only
 rw [e]
 show (if (dKs A).length < 16777216 then (if ((dKs A).any fun k=>decide (k=.inl (g:Int)))=true then Res.ok (Out.nx ρ) ((μ0++[dC A]).set μ0.length (.dic (dKs A) (putVs (dKs A) (dVs A) (.inl (g:Int)) (bI v)))) else .ok (.nx ρ) ((μ0++[dC A]).set μ0.length (.dic (dKs A++[.inl (g:Int)]) (dVs A++[bI v])))) else .bad)=_
 rw [if_pos (by rw [dKs,List.length_map];exact hl),af5,Vo,Vo]
 unfold pt
 split
 ·rw [← B0,← B1 g v A];rfl
 ·rw [show dKs A++[Sum.inl (g:Int)]=dKs (A++[(g,v)]) by simp [dKs],show dVs A++[bI v]=dVs (A++[(g,v)]) by simp [dVs]]
  rfl
theorem Xl (μ0:Mu) (A:As):j8 (μ0++[dC A]) (.ref μ0.length)=.dic (dKs A) (dVs A):=by
 have e:(μ0++[dC A])[μ0.length]? =some (dC A):=by rw [List.getElem?_append_right (Nat.le_refl _),Nat.sub_self];rfl
 show (match (μ0++[dC A])[List.length μ0]? with
  | some (.lst ds)=>D.lst ds
  | some (.dic ks vs)=>D.dic ks vs
  | _=>D.ref (List.length μ0))=_
 rw [e]
 rfl
noncomputable def Zn (a b:List Bool):List Bool:=List.zipWith (· && ·) a b
theorem Db (μ:Mu):∀ (a b:List Bool) (x y:Option D) (acc:List D),J6 kTg mTT (Ud (mVar 0) (mVar 1)) (M.pairD (a.map .bl) (b.map .bl)) [x,y] μ acc=.ok (acc++(Zn a b).map .bl) μ
 | [],b,x,y,acc=>by simp [J6,M.pairD,Zn]
 | a::as,[],x,y,acc=>by simp [J6,M.pairD,Zn]
 | a::as,b::bs,x,y,acc=>by
  have e:Ud (mVar 0) (mVar 1) [some (.bl a),some (.bl b)] μ=.ok (.bl (a && b)) μ:=ag1 rfl rfl
  have ih:=Db μ as bs (some (.bl a)) (some (.bl b)) (acc++[.bl (a && b)])
  show (noX (Ud (mVar 0) (mVar 1) [some (.bl a),some (.bl b)] μ)).bind _=_
  rw [e]
  show J6 kTg mTT (Ud (mVar 0) (mVar 1)) (M.pairD (as.map .bl) (bs.map .bl)) [some (.bl a),some (.bl b)] μ (acc++[.bl (a && b)])=_
  rw [ih,List.append_assoc,List.singleton_append]
  rfl
noncomputable def ho (sl:List Bool) (A:As) (g:Nat):As:=pt A g (Zn ((List.lookup g A).getD sl) sl)
theorem Be {μ0:Mu} {x1:Option D} {sl:List Bool}:∀ (gs:List Nat) (A:As) (x3 x4:Option D),A.length + gs.length < 16777216→sl.length=8→(∀ q bs,List.lookup q A=some bs→bs.length=8)→∃ y3 y4,
  Jl (gN 3) Qh (iL gs) [some (.ref μ0.length),x1,some (bI sl),x3,x4] (μ0++[dC A])=.ok (.nx [some (.ref μ0.length),x1,some (bI sl),y3,y4]) (μ0++[dC (gs.foldl (ho sl) A)])
 | [],A,x3,x4,_,_,_=>⟨x3,x4,rfl⟩
 | g::gs,A,x3,x4,hl,hs,h8=>by
  rw [List.length_cons] at hl
  have hb:((List.lookup g A).getD sl).length=8:=by
   cases e:List.lookup g A with
   | none=>exact hs
   | some bs=>exact h8 g bs e
  have ha:(Zn ((List.lookup g A).getD sl) sl).length=8:=by rw [Zn,List.length_zipWith,hb,hs];rfl
  obtain ⟨y3,y4,ih⟩:=Be (μ0:=μ0) (x1:=x1) gs (ho sl A g) (some (.int g)) (some (bI ((List.lookup g A).getD sl))) (by have:=a68 A g (Zn ((List.lookup g A).getD sl) sl);unfold ho;omega) hs (fun q bs e=>by
   unfold ho at e
   rw [B8] at e
   split at e
   ·cases e;exact ha
   ·exact h8 q bs e)
  refine ⟨y3,y4,Eq.trans (Vz ?_) ih⟩
  have e1:fc (mVar 0) (mVar 3) (mVar 2) [some (.ref μ0.length),x1,some (bI sl),some (.int g),x4] (μ0++[dC A])=.ok (bI ((List.lookup g A).getD sl)) (μ0++[dC A]):=by
   unfold fc
   show (if Bg (j8 (μ0++[dC A]) (.ref μ0.length))=true then ofO (μ0++[dC A]) (ad0 (j8 (μ0++[dC A]) (.ref μ0.length)) (.int g) (bI sl)) else .bad)=_
   rw [Xl,if_pos (show Bg (.dic (dKs A) (dVs A))=true from rfl)]
   show ofO _ (some ((J2 (dKs A) (dVs A) (.inl (g:Int))).getD (bI sl)))=_
   rw [vp]
   cases List.lookup g A <;> rfl
  refine (v_set 4 e1).trans (v_put ?_ rfl rfl (by omega))
  show ug 2 [] kTg (ff false false (mVar 4) (mVar 2)) mTT (Ud (mVar 0) (mVar 1)) [some (.ref μ0.length),x1,some (bI sl),some (.int g),some (bI ((List.lookup g A).getD sl))] (μ0++[dC A])=_
  unfold ug
  rw [show ff false false (mVar 4) (mVar 2) [some (.ref μ0.length),x1,some (bI sl),some (.int g),some (bI ((List.lookup g A).getD sl))] (μ0++[dC A])=.ok (M.pairD (((List.lookup g A).getD sl).map .bl) (sl.map .bl)) (μ0++[dC A]) from rfl,bind_ok]
  have hpl:∀ (a b:List D),(M.pairD a b).length≤a.length:=fun a b=>by unfold M.pairD;rw [List.length_map,List.length_zip];exact Nat.min_le_left _ _
  rw [if_pos (Nat.le_trans (hpl _ _) (by rw [List.length_map,hb];decide))]
  show (J6 kTg mTT (Ud (mVar 0) (mVar 1)) _ [none,none] _ []).bind _=_
  rw [Db]
  rfl
theorem zh (j:Nat) {n:MSt} {ds:List D} {μ μ1:Mu} {ρ1:En} (h:n (ds.map some++List.replicate j none) μ=.ok (.nx ρ1) μ1):fnOf j n ds μ=.ok .non μ1:=by rw [W3,h];rfl
theorem ao3 {μ0:Mu} {sl:List Bool} {gs:List Nat} {A:As} (hl:A.length + gs.length < 16777216) (hs:sl.length=8) (h8:∀ q bs,List.lookup q A=some bs→bs.length=8) :
  zv [.ref μ0.length,gI gs,bI sl] (μ0++[dC A])=.ok .non (μ0++[dC (gs.foldl (ho sl) A)]):=by
 obtain ⟨y3,y4,e⟩:=Be (μ0:=μ0) (x1:=some (gI gs)) (sl:=sl) gs A none none hl hs h8
 exact zh 2 ((zi (V9 rfl)).trans e)
end K20
set_option Elab.async false
set_option linter.all false
set_option maxRecDepth 100000
set_option maxHeartbeats 4000000
namespace K20
open PySem PySem.Spec PyProof.Rows L2 M
theorem Dc:∀ (a s:List Bool),Zn (Zn a s) s=Zn a s
 | [],s=>rfl
 | a::as,[]=>rfl
 | a::as,b::bs=>by
  show ((a && b) && b)::Zn (Zn as bs) bs=(a && b)::Zn as bs
  rw [Dc as bs,Bool.and_assoc,Bool.and_self]
theorem af6:∀ (a s:List Bool) (k:Nat),(Zn a s).getD k false=(a.getD k false && s.getD k false)
 | [],s,k=>by simp [Zn]
 | a::as,[],k=>by simp [Zn]
 | a::as,b::bs,0=>rfl
 | a::as,b::bs,k + 1=>af6 as bs k
theorem Q9 (sl:List Bool) (q:Nat):∀ (gs:List Nat) (A:As),List.lookup q (gs.foldl (ho sl) A)=if q∈gs then some (Zn ((List.lookup q A).getD sl) sl) else List.lookup q A
 | [],A=>by simp
 | g::gs,A=>by
  rw [List.foldl_cons,Q9 sl q gs]
  unfold ho
  rw [B8]
  by_cases h1:q=g
  ·subst h1
   rw [if_pos rfl,if_pos (List.mem_cons_self ..)]
   split
   ·rw [Option.getD_some,Dc]
   ·rfl
  ·rw [if_neg h1]
   simp only [List.mem_cons,h1,false_or]
theorem Dy (sl:List Bool):∀ (gs:List Nat) (A:As),(gs.foldl (ho sl) A).length≤A.length + gs.length
 | [],A=>by simp
 | g::gs,A=>by
  rw [List.foldl_cons,List.length_cons]
  have:=Dy sl gs (ho sl A g)
  have:=a68 A g (Zn ((List.lookup g A).getD sl) sl)
  unfold ho at *
  omega
noncomputable def G8 (v:Vw) (p:Nat) (A:As):As:=match List.lookup p A with
 | some bs=>(v.goals p).foldl (ho (v.behind bs)) A
 | none=>A
structure J (f:Nat→Vw) (p:Nat) (A:As):Prop where
 t:∀ q,(List.lookup q A).isSome=true↔q∈Tl f p
 l:∀ q bs,List.lookup q A=some bs→bs.length=8
 u:∀ q bs,List.lookup q A=some bs→∀ k < 8,(bs.getD k false=false↔q∈Ul f k p)
 n:A.length≤1 + 2 * p
noncomputable def noL:List Bool:=[false,false,false,false,false,false,false,false]
theorem J0 (f:Nat→Vw):J f 0 [(0,noL)]:=by
 refine ⟨fun q=>?_,fun q bs e=>?_,fun q bs e k hk=>?_,by simp⟩
 ·rw [U7]
  by_cases z:0=q
  ·subst z;simp [Tl]
  ·rw [if_neg z];simp [Tl,aD3];omega
 ·rw [U7] at e
  split at e
  ·cases e;rfl
  ·cases e
 ·rw [U7] at e
  split at e
  ·rename_i z
   cases e
   have:noL.getD k false=false:=by
    match k,hk with
    | 0,_=>rfl
    | 1,_=>rfl
    | 2,_=>rfl
    | 3,_=>rfl
    | 4,_=>rfl
    | 5,_=>rfl
    | 6,_=>rfl
    | 7,_=>rfl
    | k + 8,h=>omega
   subst z
   exact ⟨fun _=>by simp [Ul],fun _=>this⟩
  ·cases e
theorem aw9 {bs:List Bool} {s k:Nat} (hs:s < bs.length):(bs.set s true).getD k false=if k=s then true else bs.getD k false:=by
 rw [List.getD_eq_getElem?_getD,List.getD_eq_getElem?_getD]
 by_cases z:k=s
 ·subst z;rw [List.getElem?_set_self hs,if_pos rfl];rfl
 ·rw [List.getElem?_set_ne (Ne.symm z),if_neg z]
theorem a27 {v:Vw} {bs:List Bool} {k:Nat} (ho:v.ok) (hb:bs.length=8):(v.behind bs).getD k false=false↔bs.getD k false=false∧v.isK k=false:=by
 cases v with
 | kp s =>
  show (bs.set s true).getD k false=false↔bs.getD k false=false∧(s == k)=false
  have hs:s < 8:=ho
  rw [aw9 (by omega)]
  by_cases z:k=s
  ·subst z;simp
  ·rw [if_neg z]
   have:(s == k)=false:=beq_eq_false_iff_ne.mpr fun h=>z h.symm
   simp [this]
 | _=>simp [Vw.behind,Vw.isK]
theorem J.next {f:Nat→Vw} {p:Nat} {A:As} (j:J f p A) (ho':(f p).ok):J f (p + 1) (G8 (f p) p A):=by
 unfold G8
 cases e:List.lookup p A with
 | none =>
  have np:p∉Tl f p:=fun h=>by have:=(j.t p).mpr h;rw [e] at this;cases this
  refine ⟨fun q=>?_,j.l,fun q bs eq k hk=>?_,by have:=j.n;dsimp only;omega⟩
  ·rw [fh,j.t];simp [np]
  ·rw [j.u q bs eq k hk,kr]
   constructor
   ·exact .inl
   ·rintro (h | ⟨⟨h,_⟩,_⟩)
    ·exact h
    ·exact absurd (A5 h) np
 | some bp =>
  have hp:p∈Tl f p:=(j.t p).mp (by rw [e];rfl)
  have h8:=j.l p bp e
  have hsl:((f p).behind bp).length=8:=by rw [Ke];exact h8
  dsimp only
  refine ⟨fun q=>?_,fun q bs eq=>?_,fun q bs eq k hk=>?_,?_⟩
  ·rw [Q9,fh]
   by_cases z:q∈(f p).goals p
   ·simp [z,hp]
   ·simp [z,j.t]
  ·rw [Q9] at eq
   split at eq
   ·cases eq
    rw [Zn,List.length_zipWith,hsl]
    cases e2:List.lookup q A with
    | none=>rw [Option.getD_none,hsl];rfl
    | some b=>rw [Option.getD_some,j.l q b e2];rfl
   ·exact j.l q bs eq
  ·rw [Q9] at eq
   have hb:=a27 (k:=k) ho' h8
   have hu:=j.u p bp e k hk
   rw [kr]
   split at eq
   ·rename_i z
    cases eq
    rw [af6,Bool.and_eq_false_iff,hb,hu]
    cases e2:List.lookup q A with
    | none =>
     have nq:q∉Ul f k p:=fun h=>by have:=(j.t q).mpr (A5 h);rw [e2] at this;cases this
     rw [Option.getD_none,hb,hu]
     simp [nq,z]
    | some b =>
     rw [Option.getD_some,j.u q b e2 k hk]
     simp [z]
   ·rename_i z
    rw [j.u q bs eq k hk]
    simp [z]
  ·have:=Dy ((f p).behind bp) ((f p).goals p) A
   have:=yx (f p) p
   have:=j.n
   omega
theorem J.lack {f:Nat→Vw} {p:Nat} {A:As} (j:J f p A) (ho':(f p).ok):(match List.lookup p A with
  | some bs=>(f p).lacks bs
  | none=>false)=yb f p (f p):=by
 cases e:List.lookup p A with
 | none =>
  have np:p∉Tl f p:=fun h=>by have:=(j.t p).mpr h;rw [e] at this;cases this
  cases f p with
  | ft s=>simp [yb,np]
  | _=>rfl
 | some bs =>
  have hp:p∈Tl f p:=(j.t p).mp (by rw [e];rfl)
  cases hv:f p with
  | ft s =>
   rw [hv] at ho'
   have:=j.u p bs e s ho'
   show (!(bs.getD s false))=(decide (p∈Tl f p) && decide (p∈Ul f s p))
   rw [decide_eq_true hp,Bool.true_and]
   cases z:bs.getD s false with
   | false=>rw [decide_eq_true (this.mp z)];rfl
   | true=>rw [decide_eq_false fun h=>by rw [this.mpr h] at z;cases z];rfl
  | _=>rfl
end K20
set_option Elab.async false
set_option linter.all false
set_option maxRecDepth 100000
set_option maxHeartbeats 4000000
namespace K20
open PySem PySem.Spec PyProof.Rows L2 M
noncomputable abbrev eTg:MG:=Wk (Us (gN 2) (Us (gN 3) Wl))
theorem av0 {n:MSt} {ρ ρ1 ρ2:En} {μ μ1:Mu} {tg:MG} {d:D} {ds:List D} (ht:tg d ρ=some ρ1) (h:n ρ1 μ=.ok (.nx ρ2) μ1):Jl tg n (d::ds) ρ μ=Jl tg n ds ρ2 μ1:=by
 show (match tg d ρ with | none=>Res.bad | some ρ1=>_)=_
 rw [ht]
 show (n ρ1 μ).bind _=_
 rw [h]
 rfl
theorem b9 {n:MSt} {ρ ρ1:En} {μ μ1:Mu} {tg:MG} {d x:D} {ds:List D} (ht:tg d ρ=some ρ1) (h:n ρ1 μ=.ok (.rt x) μ1):Jl tg n (d::ds) ρ μ=.ok (.rt x) μ1:=by
 show (match tg d ρ with | none=>Res.bad | some ρ1=>_)=_
 rw [ht]
 show (n ρ1 μ).bind _=_
 rw [h]
 rfl
section
variable {xs:List D} {f:Nat→Vw} {μ0:Mu} {A:As} {p:Nat} {d:D} {x4:Option D}
theorem aP4 (neg:Bool):xt neg (.int p) (.dic (dKs A) (dVs A))=some (.bl (if neg then !(List.lookup p A).isSome else (List.lookup p A).isSome)):=by
 show some (D.bl (if neg then !(J2 (dKs A) (dVs A) (.inl (p:Int))).isSome else (J2 (dKs A) (dVs A) (.inl (p:Int))).isSome))=_
 rw [vp]
 cases List.lookup p A <;> rfl
theorem ac9 {bs:List Bool} (h:List.lookup p A=some bs):U8 (.dic (dKs A) (dVs A)) (.int p)=some (bI bs):=by
 show J2 (dKs A) (dVs A) (.inl (p:Int))=_
 rw [vp,h]
 rfl
theorem Zx {tg:MG} {m:MX} {d x:D} {ds acc:List D} {ρ ρ1:En} {μ:Mu} (ht:tg d ρ=some ρ1) (hm:m ρ1 μ=.ok x μ):J6 tg mTT m (d::ds) ρ μ acc=J6 tg mTT m ds ρ1 μ (acc++[x]):=by
 rw [J6,ht]
 show (noX (m ρ1 μ)).bind _=_
 rw [hm]
 rfl
noncomputable abbrev gEl:MX:=mBin gGe (mVar 0) (jm uj (mCons (mVar 1) mNil))
theorem ad1 {μ:Mu}:∀ (gs:List Nat) (a:Option D) (acc:List D),J6 (gN 0) mTT gEl (iL gs) [a,some (.lst xs)] μ acc=.ok (acc++gs.map fun g=>.bl (decide (xs.length≤g))) μ
 | [],_,acc=>by simp [J6,iL]
 | g::gs,a,acc=>by
  have e:gEl [some (.int g),some (.lst xs)] μ=.ok (.bl (decide (xs.length≤g))) μ:=by
   refine v_bin rfl (uq (d:=.int xs.length) (v_cons rfl v_nil) rfl) ?_
   show some (D.bl (decide ((xs.length:Int)≤(g:Int))))=_
   by_cases z:xs.length≤g
   ·rw [decide_eq_true z,decide_eq_true (by omega)]
   ·rw [decide_eq_false z,decide_eq_false (by omega)]
  have ih:=ad1 (μ:=μ) gs (some (.int g)) (acc++[.bl (decide (xs.length≤g))])
  refine (Zx (ds:=iL gs) rfl e).trans ?_
  refine ih.trans ?_
  rw [List.append_assoc,List.singleton_append]
  rfl
theorem aF1 {μ:Mu} {gs:List Nat} {x1 x2 x3:Option D} (hl:gs.length≤2):mTru (jm ad4 (mCons (ug 1 [0] (gN 0) (U3 (mVar 4)) mTT (mBin gGe (mVar 0) (jm uj (mCons (mVar 1) mNil)))) mNil)) [some (.lst xs),x1,x2,x3,some (gI gs)] μ=.ok (gs.any fun g=>decide (xs.length≤g)) μ:=by
 have e1:ug 1 [0] (gN 0) (U3 (mVar 4)) mTT (mBin gGe (mVar 0) (jm uj (mCons (mVar 1) mNil))) [some (.lst xs),x1,x2,x3,some (gI gs)] μ=.ok (.lst (gs.map fun g=>.bl (decide (xs.length≤g)))) μ:=by
  unfold ug
  rw [show U3 (mVar 4) [some (.lst xs),x1,x2,x3,some (gI gs)] μ=.ok (iL gs) μ from rfl,bind_ok,if_pos (by rw [iL,List.length_map];omega)]
  show (J6 (gN 0) mTT _ _ [none,some (.lst xs)] μ []).bind _=_
  rw [ad1]
  rfl
 refine Za (d:=.bl (gs.any fun g=>decide (xs.length≤g))) (uq (v_cons e1 v_nil) ?_) rfl
 show (Zl (gs.map fun g=>D.bl (decide (xs.length≤g)))).map _=_
 rw [show (gs.map fun g=>D.bl (decide (xs.length≤g)))=(gs.map fun g=>decide (xs.length≤g)).map D.bl by rw [List.map_map];rfl,Ch]
 show some (D.bl ((gs.map fun g=>decide (xs.length≤g)).any id))=_
 rw [List.any_map]
 rfl
theorem a44 (h:∀ μ,jc [d] μ=.ok (.bl false) μ):Jq [some (.lst xs),some (.ref μ0.length),some (.int p),some d,x4] (μ0++[dC A])=.ok (.rt (.int p)) (μ0++[dC A]) :=
 v_take (v_not (k:=false) (Za (d:=.bl false) (v_call rfl (h _)) rfl)) rfl
theorem Au (j:J f p A) (hs:Sh d (f p)) (hp:p < 3000):Jq [some (.lst xs),some (.ref μ0.length),some (.int p),some d,x4] (μ0++[dC A]) =
  (if fl f xs.length p=true then .ok (.rt (.int p)) (μ0++[dC A]) else .ok (.nx [some (.lst xs),some (.ref μ0.length),some (.int p),some d,some (gI ((f p).goals p))]) (μ0++[dC (G8 (f p) p A)])):=by
 have hk:=ar5 hs
 refine (v_skip (v_not (k:=true) (Za (d:=.bl true) (v_call rfl (ah0 hs _)) rfl))).trans ?_
 have hin:∀ x4,mTest (mBin (xt false) (mVar 2) (mVar 1)) [some (.lst xs),some (.ref μ0.length),some (.int p),some d,x4] (μ0++[dC A])=.ok (List.lookup p A).isSome (μ0++[dC A]):=fun x4=>ji (v_bin rfl rfl (by rw [Xl];exact aP4 false))
 have second:(yb f p (f p)=false)→(jz (Js 4 (mCall yk (mCons (mVar 2) (mCons (mVar 3) mNil)))) (jz (jl (mTru (jm ad4 (mCons (ug 1 [0] (gN 0) (U3 (mVar 4)) mTT (mBin gGe (mVar 0) (jm uj (mCons (mVar 1) mNil)))) mNil))) (jt (mVar 2)) jx)
   (jl (mTest (mBin (xt false) (mVar 2) (mVar 1))) (um (mCall zv (mCons (mVar 1) (mCons (mVar 4) (mCons (mCall Ua (mCons (mVar 3) (mCons (mBin U8 (mVar 1) (mVar 2)) mNil))) mNil))))) jx))) [some (.lst xs),some (.ref μ0.length),some (.int p),some d,x4] (μ0++[dC A]) =
   (if fl f xs.length p=true then .ok (.rt (.int p)) (μ0++[dC A]) else .ok (.nx [some (.lst xs),some (.ref μ0.length),some (.int p),some d,some (gI ((f p).goals p))]) (μ0++[dC (G8 (f p) p A)])):=fun hno=>by
  refine (v_set 4 (v_call rfl (sh_pg hs p _))).trans ?_
  have hf:=aF1 (xs:=xs) (μ:=μ0++[dC A]) (x1:=some (.ref μ0.length)) (x2:=some (.int p)) (x3:=some d) (yx (f p) p)
  unfold fl
  rw [hno,Bool.false_or]
  cases z:((f p).goals p).any fun g=>decide (xs.length≤g) with
  | true=>rw [z] at hf;exact v_take hf rfl
  | false =>
   rw [z] at hf
   refine (v_skip hf).trans ?_
   rw [if_neg (by decide)]
   have hin':=hin (some (gI ((f p).goals p)))
   unfold G8
   cases e:List.lookup p A with
   | none=>rw [e] at hin';exact v_iteF hin'
   | some bs =>
    rw [e] at hin'
    have h8:=j.l p bs e
    refine (v_iteT hin').trans (v_drop (v_call (v_cons rfl (v_cons rfl (v_cons (v_call (v_cons rfl (v_cons (v_bin rfl rfl ?_) v_nil)) (aJ4 hs h8 _)) v_nil))) (ao3 ?_ (by rw [Ke];exact h8) j.l)))
    ·rw [Xl];exact ac9 e
    ·have:=j.n;have:=yx (f p) p;omega
 have hl:=j.lack hk
 have hin':=hin x4
 cases e:List.lookup p A with
 | none =>
  rw [e] at hin' hl
  exact (v_skip (yt hin')).trans (second hl.symm)
 | some bs =>
  rw [e] at hin' hl
  have h8:=j.l p bs e
  have hl':(f p).lacks bs=yb f p (f p):=hl
  have h2:mTru (mCall uc (mCons (mVar 3) (mCons (mBin U8 (mVar 1) (mVar 2)) mNil))) [some (.lst xs),some (.ref μ0.length),some (.int p),some d,x4] (μ0++[dC A])=.ok (yb f p (f p)) (μ0++[dC A]):=by
   rw [← hl']
   exact Za (d:=.bl ((f p).lacks bs)) (v_call (v_cons rfl (v_cons (v_bin rfl rfl (by rw [Xl];exact ac9 e)) v_nil)) (aJ2 hs h8 _)) rfl
  cases z:yb f p (f p) with
  | true =>
   rw [z] at h2
   unfold fl
   rw [z,Bool.true_or,if_pos rfl]
   exact v_take ((v_andT hin').trans h2) rfl
  | false =>
   rw [z] at h2
   exact (v_skip ((v_andT hin').trans h2)).trans (second z)
structure Hd (xs:List D) (f:Nat→Vw) (b:Option Nat):Prop where
 good:∀ i d,xs[i]? =some d→b≠some i→Sh d (f i)
 bad:∀ i d,xs[i]? =some d→b=some i→∀ μ,jc [d] μ=.ok (.bl false) μ
noncomputable def Vu (n:Nat):Option Nat→Nat
 | some b=>b
 | none=>n
theorem Ca {b:Option Nat} (h:Hd xs f b) (hn:xs.length < 2000):∀ (m p:Nat) (A:As) (x2 x3 x4:Option D),p + m=xs.length→p≤Vu xs.length b→(∀ i,b=some i→i < xs.length)→J f p A→∃ A' y2 y3 y4,
  Jl eTg Jq (Y9 p (xs.drop p)) [some (.lst xs),some (.ref μ0.length),x2,x3,x4] (μ0++[dC A]) =
   (match (List.range' p (Vu xs.length b - p)).find? (fl f xs.length),b with
    | some q,_=>.ok (.rt (.int q)) (μ0++[dC A'])
    | none,some i=>.ok (.rt (.int i)) (μ0++[dC A'])
    | none,none=>.ok (.nx [some (.lst xs),some (.ref μ0.length),y2,y3,y4]) (μ0++[dC A']))
 | 0,p,A,x2,x3,x4,hm,ht,hb,j=>by
  have hd:xs.drop p=[]:=List.drop_eq_nil_of_le (by omega)
  cases b with
  | none =>
   refine ⟨A,x2,x3,x4,?_⟩
   rw [hd,show Vu xs.length none - p=0 by show xs.length - p=0;omega]
   rfl
  | some i=>have:=hb i rfl;have:p≤i:=ht;omega
 | m + 1,p,A,x2,x3,x4,hm,ht,hb,j=>by
  have hp:p < xs.length:=by omega
  have hd:xs.drop p=xs[p]::xs.drop (p + 1):=List.drop_eq_getElem_cons hp
  rw [hd]
  show ∃ A' y2 y3 y4,Jl eTg Jq (.tup [.int p,xs[p]]::Y9 (p + 1) (xs.drop (p + 1))) _ _=_
  by_cases hpb:b=some p
  ·subst hpb
   refine ⟨A,none,none,none,?_⟩
   rw [show Vu xs.length (some p) - p=0 by show p - p=0;omega]
   exact b9 rfl (a44 (h.bad p _ (List.getElem?_eq_getElem hp) rfl))
  ·have hs:=h.good p _ (List.getElem?_eq_getElem hp) hpb
   have ht':p + 1≤Vu xs.length b:=by
    cases b with
    | none=>exact hp
    | some i=>have h1:p≤i:=ht;have h2:p≠i:=fun z=>hpb (by rw [z]);show p + 1≤i;omega
   have e:=Au (xs:=xs) (μ0:=μ0) (x4:=x4) j hs (by omega)
   rw [show Vu xs.length b - p=(Vu xs.length b - (p + 1)) + 1 by omega,List.range'_succ,List.find?_cons]
   cases z:fl f xs.length p with
   | true =>
    rw [z,if_pos rfl] at e
    exact ⟨A,none,none,none,b9 rfl e⟩
   | false =>
    rw [z,if_neg (by decide)] at e
    obtain ⟨A',y2,y3,y4,ih⟩:=Ca h hn m (p + 1) (G8 (f p) p A) (some (.int p)) (some xs[p]) (some (gI ((f p).goals p))) (by omega) ht' hb (j.next (ar5 hs))
    exact ⟨A',y2,y3,y4,(av0 rfl e).trans ih⟩
noncomputable def Ew (f:Nat→Vw) (n:Nat) (b:Option Nat):Option Nat:=(first f n (Vu n b)).or b
noncomputable def a72:Option Nat→D
 | some q=>.int q
 | none=>.non
theorem aD5 {ρ:En} {μ:Mu} (h:ρ[0]? =some (some (.lst xs))) (h1:1≤xs.length) (h2:xs.length≤2000):mNot (mTest (Ye gLe gLe (mC (.int 1)) (jm uj (mCons (mVar 0) mNil)) (mC c_MOST_STEPS))) ρ μ=.ok false μ:=by
 refine v_not (k:=true) (ji ?_)
 rw [Ck]
 show (Res.bind (jm uj (mCons (mVar 0) mNil) ρ μ) _)=_
 rw [uq (d:=.int xs.length) (v_cons (v_var 0 h) v_nil) rfl,bind_ok,deref_int,deref_int,D8,decide_eq_true (by omega)]
 show ofO μ (some (D.bl (decide ((xs.length:Int)≤2000))))=_
 rw [decide_eq_true (by omega)]
 rfl
theorem aF0 {b:Option Nat} (h:Hd xs f b) (hn:xs.length < 2000) (h1:1≤xs.length) (hb:∀ i,b=some i→i < xs.length) (μ:Mu):∃ ν,uw [.lst xs] μ=.ok (a72 (Ew f xs.length b)) (μ++ν):=by
 have ht:0≤Vu xs.length b:=Nat.zero_le _
 obtain ⟨A',y2,y3,y4,e⟩:=Ca (μ0:=μ) h hn xs.length 0 [(0,noL)] none none none (by omega) ht hb (J0 f)
 refine ⟨[dC A'],jj 4 ((v_skip (aD5 rfl h1 (by omega))).trans ((v_set 1 (d:=.ref μ.length) (μ1:=μ++[dC [(0,noL)]]) rfl).trans ?_))⟩
 have e0:kn (mVar 0) [some (.lst xs),some (.ref μ.length),none,none,none] (μ++[dC [(0,noL)]])=.ok (Y9 0 (xs.drop 0)) (μ++[dC [(0,noL)]]):=rfl
 unfold Ew first
 rw [Nat.sub_zero] at e
 cases z:(List.range' 0 (Vu xs.length b)).find? (fl f xs.length) with
 | some q=>rw [z] at e;exact v_seqR ((zi e0).trans e)
 | none =>
  rw [z] at e
  cases b with
  | some i=>exact v_seqR ((zi e0).trans e)
  | none=>exact (v_seqN ((zi e0).trans e)).trans (v_ret rfl)
end
end K20
set_option Elab.async false
set_option linter.all false
set_option maxRecDepth 100000
set_option maxHeartbeats 4000000
namespace K20
open PySem PySem.Spec PyProof.Rows L2 M
noncomputable def Fwp (xs:List D) (r:Option Nat):Prop:=∀ μ,∃ ν,uw [.lst xs] μ=.ok (a72 r) (μ++ν)
theorem aD4 {xs:List D} {r:Option Nat} (h:Fwp xs r) (μ:Mu):∃ ν,Uc [.lst xs] μ=.ok (.bl r.isNone) (μ++ν):=by
 obtain ⟨ν,e⟩:=h μ
 refine ⟨ν,jj 0 (v_ret ?_)⟩
 unfold Zh
 rw [v_call (ms:=mCons (mVar 0) mNil) (ds:=[.lst xs]) rfl e,bind_ok]
 cases r <;> rfl
end K20
set_option Elab.async false
set_option linter.all false
set_option maxRecDepth 100000
set_option maxHeartbeats 400000
namespace K20
open PySem PySem.Spec PyProof.Rows L2 M
theorem mix_at (ns:List Int) (k:Nat) {i:Int} (h:i=k) (μ:Mu):Y8 [sc ns,.int i] μ=.ok (.int (mix ns k)) μ:=by rw [h];exact aC4 ns k μ
theorem v_div {x:Nat} {n j:Int} {μ:Mu} (h:ρ[x]? =some (some (.int n))) (h1:0 < j) (h2:j < 18446744073709551616):mBin Ug (mVar x) (mC (.int j)) ρ μ=.ok (.int (n / j)) μ:=v_bin (v_var x h) rfl (Z4 _ _ h1 h2)
theorem v_mod {i j:Int} {μ:Mu} (h:m ρ μ=.ok (.int i) μ) (h1:0 < j):mBin Jp m (mC (.int j)) ρ μ=.ok (.int (i % j)) μ:=v_bin h rfl (Y7 _ _ h1)
end K20
set_option Elab.async false
set_option linter.all false
set_option maxRecDepth 100000
set_option maxHeartbeats 4000000
namespace K20
open PySem PySem.Spec PyProof.Rows L2 M
local macro_rules | `(tactic| walk_at "ev")=> `(tactic| simp only [Dr,Kn,Ko,Ks,Kt,e_c,Fo,vh,Ck,Gr,Gs,ag,ai,Fj,Fb,vb,aw,Fi,af,ap0,ar,e8,am,Ff,eh,au,Fk,V3,Fg,vc,ap1,ak,Du,W4,Qw,Qx,Dx,ao,Ds,Kr,Fd,Kp,Xn,qh,ah,Fa,ei,V2,aq,Fe,Fm,Dv,Xq,vg,ve,vf,av,Fh,Fl,e9,V1,Dw,Kq,aj,Fc,Dt,e7,qi,Z6,Xr,vi,Xo,Xp,va,V0,W3,bind_ok,bind_exc,bind_bad,ofO_some,ofO_none,noX_ok,deref_non,deref_bl,deref_int,deref_str,deref_tup,deref_lst,deref_dic,List.map_cons,List.map_nil,List.cons_append,List.nil_append,List.replicate_succ,List.replicate_zero,List.append_nil,List.set_cons_zero,List.set_cons_succ,D9,Bc,y0,qj,Z4,Y7,a6,ao5,Bd,D7,D8,Cp,Fu,Z3,K9,Ba,Fv,Ky,Fx,Fy,D6,Bb,Kz,Fw,if_true,if_false,Int.reduceLT,Int.reduceNeg,Vv,isN,Bool.not_true,Bool.not_false,decide_true,decide_false,Bool.false_eq_true,reduceIte,Option.map_some,Option.bind_some,List.isEmpty_nil,List.isEmpty_cons])
local macro_rules | `(tactic| walk_at "evh")=> `(tactic| simp only [*,Dr,Kn,Ko,Ks,Kt,e_c,Fo,vh,Ck,Gr,Gs,ag,ai,Fj,Fb,vb,aw,Fi,af,ap0,ar,e8,am,Ff,eh,au,Fk,V3,Fg,vc,ap1,ak,Du,W4,Qw,Qx,Dx,ao,Ds,Kr,Fd,Kp,Xn,qh,ah,Fa,ei,V2,aq,Fe,Fm,Dv,Xq,vg,ve,vf,av,Fh,Fl,e9,V1,Dw,Kq,aj,Fc,Dt,e7,qi,Z6,Xr,vi,Xo,Xp,va,V0,W3,bind_ok,bind_exc,bind_bad,ofO_some,ofO_none,noX_ok,deref_non,deref_bl,deref_int,deref_str,deref_tup,deref_lst,deref_dic,List.map_cons,List.map_nil,List.cons_append,List.nil_append,List.replicate_succ,List.replicate_zero,List.append_nil,List.set_cons_zero,List.set_cons_succ,D9,Bc,y0,qj,Z4,Y7,a6,ao5,Bd,D7,D8,Cp,Fu,Z3,K9,Ba,Fv,Ky,Fx,Fy,D6,Bb,Kz,Fw,if_true,if_false,Int.reduceLT,Int.reduceNeg,Vv,isN,Bool.not_true,Bool.not_false,decide_true,decide_false,Bool.false_eq_true,reduceIte,Option.map_some,Option.bind_some,List.isEmpty_nil,List.isEmpty_cons])
local macro_rules | `(tactic| walk_at "evd")=> `(tactic| simp (config:={decide:=true}) only [at6,at5,beq_self_eq_true,Dr,Kn,Ko,Ks,Kt,e_c,Fo,vh,Ck,Gr,Gs,ag,ai,Fj,Fb,vb,aw,Fi,af,ap0,ar,e8,am,Ff,eh,au,Fk,V3,Fg,vc,ap1,ak,Du,W4,Qw,Qx,Dx,ao,Ds,Kr,Fd,Kp,Xn,qh,ah,Fa,ei,V2,aq,Fe,Fm,Dv,Xq,vg,ve,vf,av,Fh,Fl,e9,V1,Dw,Kq,aj,Fc,Dt,e7,qi,Z6,Xr,vi,Xo,Xp,va,V0,W3,bind_ok,bind_exc,bind_bad,ofO_some,ofO_none,noX_ok,deref_non,deref_bl,deref_int,deref_str,deref_tup,deref_lst,deref_dic,List.map_cons,List.map_nil,List.cons_append,List.nil_append,List.replicate_succ,List.replicate_zero,List.append_nil,List.set_cons_zero,List.set_cons_succ,D9,Bc,y0,qj,Z4,Y7,a6,ao5,Bd,D7,D8,Cp,Fu,Z3,K9,Ba,Fv,Ky,Fx,Fy,D6,Bb,Kz,Fw,if_true,if_false,Int.reduceLT,Int.reduceNeg,Vv,isN,Bool.not_true,Bool.not_false,decide_true,decide_false,Bool.false_eq_true,reduceIte,Option.map_some,Option.bind_some,List.isEmpty_nil,List.isEmpty_cons])
local macro_rules | `(tactic| walk_at "evhd")=> `(tactic| simp (config:={decide:=true}) only [*,at6,at5,beq_self_eq_true,Dr,Kn,Ko,Ks,Kt,e_c,Fo,vh,Ck,Gr,Gs,ag,ai,Fj,Fb,vb,aw,Fi,af,ap0,ar,e8,am,Ff,eh,au,Fk,V3,Fg,vc,ap1,ak,Du,W4,Qw,Qx,Dx,ao,Ds,Kr,Fd,Kp,Xn,qh,ah,Fa,ei,V2,aq,Fe,Fm,Dv,Xq,vg,ve,vf,av,Fh,Fl,e9,V1,Dw,Kq,aj,Fc,Dt,e7,qi,Z6,Xr,vi,Xo,Xp,va,V0,W3,bind_ok,bind_exc,bind_bad,ofO_some,ofO_none,noX_ok,deref_non,deref_bl,deref_int,deref_str,deref_tup,deref_lst,deref_dic,List.map_cons,List.map_nil,List.cons_append,List.nil_append,List.replicate_succ,List.replicate_zero,List.append_nil,List.set_cons_zero,List.set_cons_succ,D9,Bc,y0,qj,Z4,Y7,a6,ao5,Bd,D7,D8,Cp,Fu,Z3,K9,Ba,Fv,Ky,Fx,Fy,D6,Bb,Kz,Fw,if_true,if_false,Int.reduceLT,Int.reduceNeg,Vv,isN,Bool.not_true,Bool.not_false,decide_true,decide_false,Bool.false_eq_true,reduceIte,Option.map_some,Option.bind_some,List.isEmpty_nil,List.isEmpty_cons])
theorem dbl (μ:Mu):∀ (n:Nat) (f:Nat→D) (a b:Int) (x4 x5 x6:Option D) (x3:Option D),∃ x3',Jl (gN 3) u7 ((List.range n).map f) [some (.str w_left),some (.int a),some (.int b),x3,x4,x5,x6] μ
  =.ok (.nx [some (.str w_left),some (.int (a * 2 ^ n)),some (.int b),x3',x4,x5,x6]) μ:=by
 intro n
 induction n with
 | zero=>intro f a b x4 x5 x6 x3;exact ⟨x3,by simp [Jl]⟩
 | succ n ih =>
  intro f a b x4 x5 x6 x3
  obtain ⟨y,h⟩:=ih (fun k=>f (k + 1)) (a * 2) b x4 x5 x6 (some (f 0))
  refine ⟨y,?_⟩
  rw [List.range_succ_eq_map,List.map_cons,List.map_map,Z7]
  have e1:u7 (List.set [some (.str w_left),some (.int a),some (.int b),x3,x4,x5,x6] 3 (some (f 0))) μ=.ok (.nx [some (.str w_left),some (.int (a * 2)),some (.int b),some (f 0),x4,x5,x6]) μ:=by
   show u7 [some (.str w_left),some (.int a),some (.int b),some (f 0),x4,x5,x6] μ=_
   have:Uh (.int a) (.int 2)=some (.int (a * 2)):=qj a 2 (by decide) (by decide)
   unfold u7
   walk_at "evd"
  rw [e1]
  simp only [bind_ok,Fp]
  have e2:(f ∘ Nat.succ)=fun k=>f (k + 1):=rfl
  rw [e2,h,Int.mul_assoc,show (2:Int) * 2 ^ n=2 ^ (n + 1) by rw [Int.pow_succ,Int.mul_comm]]
theorem hlv (μ:Mu):∀ (n:Nat) (f:Nat→D) (a b:Int) (x4 x5 x6:Option D) (x3:Option D),∃ x3',Jl (gN 3) u7 ((List.range n).map f) [some (.str w_right),some (.int a),some (.int b),x3,x4,x5,x6] μ
  =.ok (.nx [some (.str w_right),some (.int (a / 2 ^ n)),some (.int b),x3',x4,x5,x6]) μ:=by
 intro n
 induction n with
 | zero=>intro f a b x4 x5 x6 x3;exact ⟨x3,by simp [Jl]⟩
 | succ n ih =>
  intro f a b x4 x5 x6 x3
  obtain ⟨y,h⟩:=ih (fun k=>f (k + 1)) (a / 2) b x4 x5 x6 (some (f 0))
  refine ⟨y,?_⟩
  rw [List.range_succ_eq_map,List.map_cons,List.map_map,Z7]
  have e1:u7 (List.set [some (.str w_right),some (.int a),some (.int b),x3,x4,x5,x6] 3 (some (f 0))) μ=.ok (.nx [some (.str w_right),some (.int (a / 2)),some (.int b),some (f 0),x4,x5,x6]) μ:=by
   show u7 [some (.str w_right),some (.int a),some (.int b),some (f 0),x4,x5,x6] μ=_
   unfold u7
   walk_at "evd"
  rw [e1]
  simp only [bind_ok,Fp]
  have e2:(f ∘ Nat.succ)=fun k=>f (k + 1):=rfl
  rw [e2,h,Int.ediv_ediv_of_nonneg (by decide),show (2:Int) * 2 ^ n=2 ^ (n + 1) by rw [Int.pow_succ,Int.mul_comm]]
theorem A1 (A k:Nat):((A:Int) / 2 ^ k) % 2=((A / 2 ^ k % 2:Nat):Int):=by
 rw [show (2:Int) ^ k=((2 ^ k:Nat):Int) by simp,← Int.natCast_ediv]
 rfl
noncomputable def A2 (o:List Nat) (p q:Bool):Bool:=if o=Jh then p && q else if o=Ux then p || q else xor p q
noncomputable def X8 (o:List Nat) (A B:Nat):Nat:=if o=Jh then A &&& B else if o=Ux then A ||| B else A ^^^ B
theorem a00 (o:List Nat) (A B k:Nat):(X8 o A B).testBit k=A2 o (A.testBit k) (B.testBit k):=by
 unfold X8 A2
 split
 ·exact Nat.testBit_and ..
 ·split
  ·exact Nat.testBit_or ..
  ·exact Nat.testBit_xor ..
theorem w_n1:¬ Ux=Jh:=by decide
theorem w_n2:¬ uz=Jh:=by decide
theorem w_n3:¬ uz=Ux:=by decide
theorem t_eq (x y:Int):gEq (.tup [.int x,.int y]) (.tup [.int 1,.int 1])=some (.bl (x == 1 && y == 1)):=by
 show some (D.bl (eqD _ _))=_
 simp [eqD,eqDs]
theorem t_ne (x y:Int):gNe (.tup [.int x,.int y]) (.tup [.int 0,.int 0])=some (.bl (!(x == 0 && y == 0))):=by
 show some (D.bl (!eqD _ _))=_
 simp [eqD,eqDs]
theorem at0 (x y:D):atI [x,y] 0=some x:=rfl
theorem at1 (x y:D):atI [x,y] 1=some y:=rfl
theorem dAnd (a b c:D):U8 (.dic [.inr Jh,.inr Ux,.inr uz] [a,b,c]) (.str Jh)=some a:=rfl
theorem dOr (a b c:D):U8 (.dic [.inr Jh,.inr Ux,.inr uz] [a,b,c]) (.str Ux)=some b:=rfl
theorem dXor (a b c:D):U8 (.dic [.inr Jh,.inr Ux,.inr uz] [a,b,c]) (.str uz)=some c:=rfl
noncomputable def af1 (o:List Nat) (x y:Int):Bool:=if o=Jh then (x == 1 && y == 1) else if o=Ux then !(x == 0 && y == 0) else !(x == y)
theorem dAny (o:List Nat) (ho:o=Jh∨o=Ux∨o=uz) (x y:Int):U8 (.dic [.inr Jh,.inr Ux,.inr uz] [.bl (x == 1 && y == 1),.bl (!(x == 0 && y == 0)),.bl (!(x == y))]) (.str o)=some (.bl (af1 o x y)):=by
 unfold af1
 rcases ho with rfl | rfl | rfl
 ·rw [dAnd,if_pos rfl]
 ·rw [dOr,if_neg w_n1,if_pos rfl]
 ·rw [dXor,if_neg w_n2,if_neg w_n3]
theorem aH7 (o:List Nat) (ho:o=Jh∨o=Ux∨o=uz) (A B p F:Int) (f:D) (x6:Option D) (μ:Mu) (q1:Ug (.int A) (.int p)=some (.int (A / p))) (q2:Ug (.int B) (.int p)=some (.int (B / p))) (q3:∀ j,Uh (.int p) (.int j)=some (.int (p * j))) :
  yp [some (.str o),some (.int A),some (.int B),some f,some (.int F),some (.int p),x6] μ
   =.ok (.nx [some (.str o),some (.int A),some (.int B),some f,some (.int (F + p * (if af1 o (A / p % 2) (B / p % 2)=true then 1 else 0))),some (.int (p * 2)),some (.tup [.int (A / p % 2),.int (B / p % 2)])]) μ:=by
 unfold yp
 simp only [q1,q2,q3,t_eq,t_ne,at0,at1,Dr,Kn,Ko,Ks,Kt,e_c,W4,Qw,Qx,Du,Dx,Kr,Ds,Kp,Xn,qh,Dw,Kq,Dv,Xq,bind_ok,ofO_some,deref_int,deref_bl,deref_str,deref_tup,deref_dic,Ky,K9,D9,Y7,Int.reduceLT,List.map_cons,List.map_nil,List.set_cons_zero,List.set_cons_succ,dAny o ho,Kz]
theorem af0 (o:List Nat) (A B k:Nat):(if af1 o ((A:Int) / 2 ^ k % 2) ((B:Int) / 2 ^ k % 2)=true then (1:Int) else 0)=((A2 o (A.testBit k) (B.testBit k)).toNat:Int):=by
 rw [Nat.testBit_eq_decide_div_mod_eq,Nat.testBit_eq_decide_div_mod_eq,A1,A1]
 have ha:A / 2 ^ k % 2=0∨A / 2 ^ k % 2=1:=by omega
 have hb:B / 2 ^ k % 2=0∨B / 2 ^ k % 2=1:=by omega
 unfold af1 A2
 by_cases h1:o=Jh
 ·simp only [if_pos h1]
  rcases ha with ha | ha <;> rcases hb with hb | hb <;> rw [ha,hb] <;> rfl
 ·simp only [if_neg h1]
  by_cases h2:o=Ux
  ·simp only [if_pos h2]
   rcases ha with ha | ha <;> rcases hb with hb | hb <;> rw [ha,hb] <;> rfl
  ·simp only [if_neg h2]
   rcases ha with ha | ha <;> rcases hb with hb | hb <;> rw [ha,hb] <;> rfl
theorem Aq (k:Nat) (hk:k < 32):(2:Int) ^ k < 18446744073709551616:=by
 have h1:(2:Nat) ^ k < 2 ^ 64:=Nat.pow_lt_pow_right (by decide) (by omega)
 have h2:(2:Int) ^ k=((2 ^ k:Nat):Int):=by simp
 rw [h2]
 omega
theorem a04 (o:List Nat) (ho:o=Jh∨o=Ux∨o=uz) (A B:Nat) (μ:Mu):∀ (n k:Nat) (f:Nat→D) (x3 x6:Option D),k + n≤32→∃ x3' x6',
  Jl (gN 3) yp ((List.range n).map f) [some (.str o),some (.int A),some (.int B),x3,some (.int ((X8 o A B % 2 ^ k:Nat):Int)),some (.int (2 ^ k)),x6] μ
   =.ok (.nx [some (.str o),some (.int A),some (.int B),x3',some (.int ((X8 o A B % 2 ^ (k + n):Nat):Int)),some (.int (2 ^ (k + n))),x6']) μ:=by
 intro n
 induction n with
 | zero=>intro k f x3 x6 _;exact ⟨x3,x6,rfl⟩
 | succ n ih =>
  intro k f x3 x6 hk
  have hp:(0:Int) < 2 ^ k:=Int.pow_pos (by decide)
  have hp2:=Aq k (by omega)
  obtain ⟨y3,y6,h⟩:=ih (k + 1) (fun j=>f (j + 1)) (some (f 0)) (some (.tup [.int ((A:Int) / 2 ^ k % 2),.int ((B:Int) / 2 ^ k % 2)])) (by omega)
  refine ⟨y3,y6,?_⟩
  rw [List.range_succ_eq_map,List.map_cons,List.map_map,Z7]
  simp only [List.set_cons_zero,List.set_cons_succ]
  rw [aH7 o ho A B (2 ^ k) _ (f 0) x6 μ (Z4 _ _ hp hp2) (Z4 _ _ hp hp2) fun j=>y0 _ _ (by omega) hp2]
  simp only [bind_ok,Fp]
  rw [af0,← a00]
  have e1:((X8 o A B % 2 ^ k:Nat):Int) + 2 ^ k * (((X8 o A B).testBit k).toNat:Int)=((X8 o A B % 2 ^ (k + 1):Nat):Int):=by
   rw [Nat.mod_pow_succ,Nat.toNat_testBit]
   simp
  rw [e1,show (2:Int) ^ k * 2=2 ^ (k + 1) from (Int.pow_succ 2 k).symm,show (f ∘ Nat.succ)=fun j=>f (j + 1) from rfl,h,show k + 1 + n=k + (n + 1) by omega]
section
variable (a b:Int) (μ:Mu)
theorem aA0:jq [.str Jc,.int a,.int b] μ=.ok (.int ((a + b) % 4294967296)) μ:=by rfl
theorem ak7:jq [.str Jt,.int a,.int b] μ=.ok (.int ((a - b) % 4294967296)) μ:=by rfl
theorem aM3:jq [.str Jh,.int a,.int b] μ=.ok (.int (Builtin.bitAnd a b % 4294967296)) μ:=by rfl
theorem p_or:jq [.str Ux,.int a,.int b] μ=.ok (.int (Builtin.bitOr a b % 4294967296)) μ:=by rfl
theorem aL6:jq [.str uz,.int a,.int b] μ=.ok (.int (Builtin.bitXor a b % 4294967296)) μ:=by rfl
theorem ak6:jq [.str jb,.int a,.int 0] μ=.ok .non μ:=by rfl
theorem ak5:jq [.str J3,.int a,.int 0] μ=.ok .non μ:=by rfl
theorem K2 (o:List Nat):gIn (.str o) c_DIVIDING=if okS o then some (.bl (jb == o || J3 == o)) else none:=by
 show (if Zg _ _ then some (D.bl (if false=true then _ else inD _ _)) else none)=_
 have e1:Zg (.str o) [.str jb,.str J3]=okS o:=by
  simp only [Zg,jr,plainDs,dpt,okS]
  have h1:jb.all (fun x=>decide (x < 0x110000))=true:=rfl
  have h2:J3.all (fun x=>decide (x < 0x110000))=true:=rfl
  rw [h1,h2]
  simp
 rw [e1]
 simp [inD,eqD]
variable {a b}
theorem gv (ha:-18446744073709551616 < a) (ha2:a < 18446744073709551616):jk [.str Jx,.int a,.int b] μ=.ok (.int (a * b)) μ:=by
 unfold jk Jd
 walk_at "evd"
 rw [y0 _ _ ha ha2]
 walk_at "ev"
theorem ak3 (ha:-18446744073709551616 < a) (ha2:a < 18446744073709551616):jq [.str Jx,.int a,.int b] μ=.ok (.int (a * b % 4294967296)) μ:=by
 unfold jq yi
 walk_at "ev"
 simp only [show j8 μ c_DIVIDING=c_DIVIDING from rfl,K2,show okS Jx=true from rfl,show (jb == Jx || J3 == Jx)=false from rfl]
 walk_at "ev"
 rw [gv μ ha ha2]
 rfl
theorem aA1 (hb:0 < b) (hb2:b < 18446744073709551616):jq [.str jb,.int a,.int b] μ=.ok (.int (a / b % 4294967296)) μ:=by
 have h0:(b == 0)=false:=by simp;omega
 have h1:jk [.str jb,.int a,.int b] μ=.ok (.int (a / b)) μ:=by
  unfold jk Jd
  walk_at "evd"
  rw [Z4 _ _ hb hb2]
  walk_at "ev"
 unfold jq yi
 walk_at "ev"
 simp only [show j8 μ c_DIVIDING=c_DIVIDING from rfl,K2,show okS jb=true from rfl,show (jb == jb || J3 == jb)=true from rfl]
 walk_at "ev"
 simp only [h0]
 walk_at "ev"
 rw [h1]
 rfl
theorem az9 (hb:0 < b):jq [.str J3,.int a,.int b] μ=.ok (.int (a % b % 4294967296)) μ:=by
 have h0:(b == 0)=false:=by simp;omega
 have h1:jk [.str J3,.int a,.int b] μ=.ok (.int (a % b)) μ:=by
  unfold jk Jd
  walk_at "evd"
  rw [Y7 _ _ hb]
  walk_at "ev"
 unfold jq yi
 walk_at "ev"
 simp only [show j8 μ c_DIVIDING=c_DIVIDING from rfl,K2,show okS J3=true from rfl,show (jb == J3 || J3 == J3)=true from rfl]
 walk_at "ev"
 simp only [h0]
 walk_at "ev"
 rw [h1]
 rfl
noncomputable def shv (o:List Nat) (a b:Int):Int:=if b ≥ 32 then 0 else if o=w_left then a * 2 ^ b.toNat else a / 2 ^ b.toNat
theorem By (o:List Nat) (ho:o=w_left∨o=w_right) (hb:0≤b) (ha:a.natAbs < 18446744073709551616):jq [.str o,.int a,.int b] μ=.ok (.int (shv o a b % 4294967296)) μ:=by
 have hw:¬ w_right=w_left:=by decide
 have h1:yw [.str o,.int a,.int b] μ=.ok (.int (shv o a b)) μ:=by
  unfold yw Wf
  have hc:c_WIDTH=.int 32:=rfl
  rw [hc]
  walk_at "ev"
  unfold shv
  by_cases h:32≤b
  ·simp only [h,decide_true,ge_iff_le,if_true]
   walk_at "ev"
  ·have hm:(if (0:Int) > b then 0 else b)=b:=if_neg (by omega)
   simp only [h,decide_false,ge_iff_le,if_false,hm]
   walk_at "ev"
   rw [hm]
   rcases ho with rfl | rfl
   ·rw [show gEq (.str w_left) (.str w_left)=some (.bl true) from rfl]
    walk_at "ev"
    rw [g_shl _ _ hb (by omega) ha]
    walk_at "ev"
   ·rw [show gEq (.str w_right) (.str w_left)=some (.bl false) from rfl]
    walk_at "ev"
    rw [g_shr _ _ hb]
    simp only [if_neg hw]
    walk_at "ev"
 have h2:jk [.str o,.int a,.int b] μ=.ok (.int (shv o a b)) μ:=by
  unfold jk Jd
  rcases ho with rfl | rfl
  ·walk_at "evd"
   rw [h1]
   walk_at "ev"
  ·walk_at "evd"
   rw [h1]
   walk_at "ev"
 unfold jq yi
 walk_at "ev"
 have h3:(okS o=true)∧(jb == o || J3 == o)=false:=by rcases ho with rfl | rfl <;> exact ⟨rfl,rfl⟩
 simp only [show j8 μ c_DIVIDING=c_DIVIDING from rfl,K2,h3.1,h3.2,if_true]
 walk_at "ev"
 rw [h2]
 rfl
theorem iA (o:List Nat) (ho:okS o=true):gIn (.str o) (.tup [.str jb,.str J3])=some (.bl (jb == o || J3 == o)):=by
 have:=K2 o
 rw [ho] at this
 exact this
theorem iB (o:List Nat) (ho:okS o=true):gIn (.str o) (.tup [.str w_left,.str w_right])=some (.bl (w_left == o || w_right == o)):=by
 show (if Zg _ _ then some (D.bl (if false=true then _ else inD _ _)) else none)=_
 have e1:Zg (.str o) [.str w_left,.str w_right]=okS o:=by
  simp only [Zg,jr,plainDs,dpt,okS]
  have h1:w_left.all (fun x=>decide (x < 0x110000))=true:=rfl
  have h2:w_right.all (fun x=>decide (x < 0x110000))=true:=rfl
  rw [h1,h2]
  simp
 rw [e1,ho]
 simp [inD,eqD]
theorem iC (o:List Nat) (ho:okS o=true):gIn (.str o) (.tup [.str Jh,.str Ux,.str uz])=some (.bl (Jh == o || (Ux == o || uz == o))):=by
 show (if Zg _ _ then some (D.bl (if false=true then _ else inD _ _)) else none)=_
 have e1:Zg (.str o) [.str Jh,.str Ux,.str uz]=okS o:=by
  simp only [Zg,jr,plainDs,dpt,okS]
  have h1:Jh.all (fun x=>decide (x < 0x110000))=true:=rfl
  have h2:Ux.all (fun x=>decide (x < 0x110000))=true:=rfl
  have h3:uz.all (fun x=>decide (x < 0x110000))=true:=rfl
  rw [h1,h2,h3]
  simp
 rw [e1,ho]
 simp [inD,eqD]
theorem dP (x y z:D):U8 (.dic [.inr Jc,.inr Jt,.inr Jx] [x,y,z]) (.str Jc)=some x:=rfl
theorem dM (x y z:D):U8 (.dic [.inr Jc,.inr Jt,.inr Jx] [x,y,z]) (.str Jt)=some y:=rfl
theorem dT (x y z:D):U8 (.dic [.inr Jc,.inr Jt,.inr Jx] [x,y,z]) (.str Jx)=some z:=rfl
theorem ax6 (ha:-18446744073709551616 < a) (ha2:a < 18446744073709551616):je [.str Jc,.int a,.int b] μ=.ok (.int ((a + b) % 4294967296)) μ:=by
 have h:Uh (.int a) (.int b)=some (.int (a * b)):=y0 _ _ ha ha2
 unfold je Uq
 walk_at "ev"
 simp only [iA Jc rfl,show (jb == Jc || J3 == Jc)=false from rfl]
 walk_at "ev"
 simp only [iB Jc rfl,show (w_left == Jc || w_right == Jc)=false from rfl]
 walk_at "ev"
 simp only [iC Jc rfl,show (Jh == Jc || (Ux == Jc || uz == Jc))=false from rfl]
 walk_at "ev"
 rw [h]
 walk_at "ev"
 rw [dP]
 walk_at "ev"
theorem ai3 (ha:-18446744073709551616 < a) (ha2:a < 18446744073709551616):je [.str Jt,.int a,.int b] μ=.ok (.int ((a - b) % 4294967296)) μ:=by
 have h:Uh (.int a) (.int b)=some (.int (a * b)):=y0 _ _ ha ha2
 unfold je Uq
 walk_at "ev"
 simp only [iA Jt rfl,show (jb == Jt || J3 == Jt)=false from rfl]
 walk_at "ev"
 simp only [iB Jt rfl,show (w_left == Jt || w_right == Jt)=false from rfl]
 walk_at "ev"
 simp only [iC Jt rfl,show (Jh == Jt || (Ux == Jt || uz == Jt))=false from rfl]
 walk_at "ev"
 rw [h]
 walk_at "ev"
 rw [dM]
 walk_at "ev"
theorem ai0 (ha:-18446744073709551616 < a) (ha2:a < 18446744073709551616):je [.str Jx,.int a,.int b] μ=.ok (.int (a * b % 4294967296)) μ:=by
 have h:Uh (.int a) (.int b)=some (.int (a * b)):=y0 _ _ ha ha2
 unfold je Uq
 walk_at "ev"
 simp only [iA Jx rfl,show (jb == Jx || J3 == Jx)=false from rfl]
 walk_at "ev"
 simp only [iB Jx rfl,show (w_left == Jx || w_right == Jx)=false from rfl]
 walk_at "ev"
 simp only [iC Jx rfl,show (Jh == Jx || (Ux == Jx || uz == Jx))=false from rfl]
 walk_at "ev"
 rw [h]
 walk_at "ev"
 rw [dT]
 walk_at "ev"
theorem ai2:je [.str jb,.int a,.int 0] μ=.ok .non μ:=by rfl
theorem ai1:je [.str J3,.int a,.int 0] μ=.ok .non μ:=by rfl
theorem ax7 (hb:0 < b) (hb2:b < 18446744073709551616):je [.str jb,.int a,.int b] μ=.ok (.int (a / b)) μ:=by
 have h0:(b == 0)=false:=by simp;omega
 unfold je Uq
 walk_at "ev"
 simp only [iA jb rfl,show (jb == jb || J3 == jb)=true from rfl]
 walk_at "ev"
 simp only [h0]
 walk_at "ev"
 rw [show gEq (.str jb) (.str jb)=some (.bl true) from rfl]
 walk_at "ev"
 rw [Z4 _ _ hb hb2]
 walk_at "ev"
theorem ax5 (hb:0 < b) (hb2:b < 18446744073709551616):je [.str J3,.int a,.int b] μ=.ok (.int (a - a / b * b)) μ:=by
 have h0:(b == 0)=false:=by simp;omega
 unfold je Uq
 walk_at "ev"
 simp only [iA J3 rfl,show (jb == J3 || J3 == J3)=true from rfl]
 walk_at "ev"
 simp only [h0]
 walk_at "ev"
 rw [show gEq (.str J3) (.str jb)=some (.bl false) from rfl]
 walk_at "ev"
 rw [Z4 _ _ hb hb2]
 walk_at "ev"
 rw [qj _ _ (by omega) hb2]
 walk_at "ev"
theorem B4 (o:List Nat) (ho:o=w_left∨o=w_right) (hb:0≤b) (hb2:b < 4294967296):je [.str o,.int a,.int b] μ=.ok (.int ((if o=w_left then a * 2 ^ (min b.toNat 33) else a / 2 ^ (min b.toNat 33)) % 4294967296)) μ:=by
 have h3:okS o=true∧(jb == o || J3 == o)=false∧(w_left == o || w_right == o)=true:=by rcases ho with rfl | rfl <;> exact ⟨rfl,rfl,rfl⟩
 have hm:(if (33:Int) < b then 33 else b)=((min b.toNat 33:Nat):Int):=by split <;> omega
 have hr:Yo [.int ((min b.toNat 33:Nat):Int)]=some (yr (min b.toNat 33)):=We _ (by omega)
 unfold je Uq
 walk_at "ev"
 simp only [iA o h3.1,h3.2.1]
 walk_at "ev"
 simp only [iB o h3.1,h3.2.2]
 walk_at "ev"
 rw [hm,hr]
 walk_at "ev"
 unfold yr
 rcases ho with rfl | rfl
 ·obtain ⟨x,e⟩:=dbl μ (min b.toNat 33) (fun k=>.int (k:Nat)) a b none none none none
  rw [e]
  walk_at "ev"
 ·obtain ⟨x,e⟩:=hlv μ (min b.toNat 33) (fun k=>.int (k:Nat)) a b none none none none
  rw [e]
  walk_at "ev"
  rw [if_neg (show ¬ w_right=w_left by decide)]
theorem cq (o:List Nat) (ho:o=Jh∨o=Ux∨o=uz) (A B:Nat):je [.str o,.int A,.int B] μ=.ok (.int ((X8 o A B % 2 ^ 32:Nat):Int)) μ:=by
 have h3:okS o=true∧(jb == o || J3 == o)=false∧(w_left == o || w_right == o)=false∧(Jh == o || (Ux == o || uz == o))=true:=by rcases ho with rfl | rfl | rfl <;> exact ⟨rfl,rfl,rfl,rfl⟩
 have hr:Yo [.int 32]=some (yr 32):=rfl
 unfold je Uq
 walk_at "ev"
 simp only [iA o h3.1,h3.2.1]
 walk_at "ev"
 simp only [iB o h3.1,h3.2.2.1]
 walk_at "ev"
 simp only [iC o h3.1,h3.2.2.2]
 walk_at "ev"
 rw [hr]
 walk_at "ev"
 obtain ⟨x,y,e⟩:=a04 o ho A B μ 32 0 (fun k=>.int (k:Nat)) none none (by decide)
 have e0:((X8 o A B % 2 ^ 0:Nat):Int)=0:=by rw [Nat.pow_zero,Nat.mod_one];rfl
 rw [e0] at e
 have e':Jl (gN 3) yp (yr 32) [some (D.str o),some (D.int A),some (D.int B),none,some (D.int 0),some (D.int 1),none] μ=_:=e
 rw [e']
 walk_at "ev"
end
theorem a89 (A B:Nat):∀ k:Nat,(A ||| B) % 2 ^ k=(A ^^^ B) % 2 ^ k + (A &&& B) % 2 ^ k:=by
 intro k
 induction k with
 | zero=>simp [Nat.mod_one]
 | succ k ih =>
  rw [Nat.mod_pow_succ,Nat.mod_pow_succ,Nat.mod_pow_succ,ih,← Nat.toNat_testBit,← Nat.toNat_testBit,← Nat.toNat_testBit,Nat.testBit_or,Nat.testBit_xor,Nat.testBit_and]
  cases A.testBit k <;> cases B.testBit k <;> simp <;> omega
theorem aQ6 (A B:Nat):Builtin.bitAnd (A:Int) (B:Int)=((A &&& B:Nat):Int):=PyProof.Rows.bitAnd_pp (Int.natCast_nonneg _) (Int.natCast_nonneg _)
theorem bOr (A B:Nat):Builtin.bitOr (A:Int) (B:Int)=((A ||| B:Nat):Int):=by
 unfold Builtin.bitOr
 have h:∀ n:Nat,¬ 0≤Builtin.bitNot (n:Int):=fun n=>by unfold Builtin.bitNot;omega
 have e:∀ n:Int,Builtin.bitNot (Builtin.bitNot n)=n:=fun n=>by unfold Builtin.bitNot;omega
 rw [PyProof.Rows.bitAnd_nn (h A) (h B),e,e,e]
 simp
theorem bXor (A B:Nat) (hA:A < 2 ^ 32) (hB:B < 2 ^ 32):Builtin.bitXor (A:Int) (B:Int)=((A ^^^ B:Nat):Int):=by
 unfold Builtin.bitXor
 rw [bOr,aQ6]
 have h:=a89 A B 32
 rw [Nat.mod_eq_of_lt (Nat.or_lt_two_pow hA hB),Nat.mod_eq_of_lt (Nat.xor_lt_two_pow hA hB),Nat.mod_eq_of_lt (Nat.and_lt_two_pow _ hB)] at h
 omega
theorem both (o:List Nat) (ho:o∈opL) (a b:Int) (ha:0≤a) (ha2:a < 4294967296) (hb:0≤b) (hb2:b < 4294967296) :
  (∀ μ,jq [.str o,.int a,.int b] μ=.ok .non μ∧je [.str o,.int a,.int b] μ=.ok .non μ)∨∃ i,∀ μ,jq [.str o,.int a,.int b] μ=.ok (.int i) μ∧je [.str o,.int a,.int b] μ=.ok (.int i) μ:=by
 have a1:-18446744073709551616 < a:=by omega
 have a2:a < 18446744073709551616:=by omega
 have b2:b < 18446744073709551616:=by omega
 have hs:∀ o',o'=w_left∨o'=w_right→shv o' a b % 4294967296=(if o'=w_left then a * 2 ^ (min b.toNat 33) else a / 2 ^ (min b.toNat 33)) % 4294967296:=fun o' ho'=>by
  unfold shv
  by_cases h:b ≥ 32
  ·rw [if_pos h]
   rcases ho' with rfl | rfl
   ·rw [if_pos rfl]
    obtain ⟨c,hc⟩:∃ c,min b.toNat 33=32 + c:=⟨min b.toNat 33 - 32,by omega⟩
    rw [hc,Int.pow_add,← Int.mul_assoc,Int.mul_right_comm]
    have:(2:Int) ^ 32=4294967296:=by decide
    rw [this]
    omega
   ·rw [if_neg (show ¬ w_right=w_left by decide)]
    have:a / 2 ^ (min b.toNat 33)=0:=by
     refine Int.ediv_eq_zero_of_lt ha (Int.lt_of_lt_of_le ha2 ?_)
     have h2:(2:Nat) ^ 32≤2 ^ (min b.toNat 33):=Nat.pow_le_pow_right (by decide) (by omega)
     have h3:(2:Int) ^ (min b.toNat 33)=((2 ^ (min b.toNat 33):Nat):Int):=by simp
     rw [h3]
     omega
    rw [this]
  ·rw [if_neg h,show min b.toNat 33=b.toNat by omega]
 obtain ⟨A,rfl⟩:=Int.eq_ofNat_of_zero_le ha
 obtain ⟨B,rfl⟩:=Int.eq_ofNat_of_zero_le hb
 have hA:A < 2 ^ 32:=by omega
 have hB:B < 2 ^ 32:=by omega
 simp only [opL,List.mem_cons,List.not_mem_nil,or_false] at ho
 rcases ho with rfl | rfl | rfl | rfl | rfl | rfl | rfl | rfl | rfl | rfl
 ·exact .inr ⟨_,fun μ=>⟨aA0 _ _ μ,ax6 μ a1 a2⟩⟩
 ·exact .inr ⟨_,fun μ=>⟨ak7 _ _ μ,ai3 μ a1 a2⟩⟩
 ·exact .inr ⟨_,fun μ=>⟨ak3 μ a1 a2,ai0 μ a1 a2⟩⟩
 ·by_cases h:B=0
  ·subst h;exact .inl fun μ=>⟨ak6 _ μ,ai2 μ⟩
  ·refine .inr ⟨_,fun μ=>⟨aA1 μ (by omega) b2,?_⟩⟩
   rw [ax7 μ (by omega) b2,Int.emod_eq_of_lt (Int.ediv_nonneg ha hb) (Int.lt_of_le_of_lt (Int.ediv_le_self _ ha) ha2)]
 ·by_cases h:B=0
  ·subst h;exact .inl fun μ=>⟨ak5 _ μ,ai1 μ⟩
  ·refine .inr ⟨_,fun μ=>⟨az9 μ (by omega),?_⟩⟩
   have h1:=Int.emod_nonneg (A:Int) (show (B:Int)≠0 by omega)
   have h2:=Int.emod_lt_of_pos (A:Int) (show (0:Int) < B by omega)
   rw [ax5 μ (by omega) b2,Int.emod_eq_of_lt h1 (by omega)]
   have h3:=Int.mul_ediv_add_emod (A:Int) B
   rw [Int.mul_comm (A / B:Int) B]
   have:(A:Int) - B * (A / B:Int)=A % B:=by omega
   rw [this]
 ·refine .inr ⟨_,fun μ=>⟨aM3 _ _ μ,?_⟩⟩
  rw [cq μ Jh (.inl rfl),aQ6]
  rfl
 ·refine .inr ⟨_,fun μ=>⟨p_or _ _ μ,?_⟩⟩
  rw [cq μ Ux (.inr (.inl rfl)),bOr]
  rfl
 ·refine .inr ⟨_,fun μ=>⟨aL6 _ _ μ,?_⟩⟩
  rw [cq μ uz (.inr (.inr rfl)),bXor A B hA hB]
  rfl
 ·refine .inr ⟨_,fun μ=>⟨By μ w_left (.inl rfl) hb (by omega),?_⟩⟩
  rw [B4 μ w_left (.inl rfl) hb hb2,hs _ (.inl rfl)]
 ·refine .inr ⟨_,fun μ=>⟨By μ w_right (.inr rfl) hb (by omega),?_⟩⟩
  rw [B4 μ w_right (.inr rfl) hb hb2,hs _ (.inr rfl)]
end K20
set_option Elab.async false
set_option linter.all false
set_option maxRecDepth 100000
set_option maxHeartbeats 400000
namespace K20
open PySem PySem.Spec PyProof.Rows L2 M
noncomputable def Num (d:D):Prop:=∃ i:Int,d=.int i∧0≤i∧i < 4294967296
theorem Num.mod (r:Int):Num (.int (r % 4294967296)):=⟨_,rfl,Int.emod_nonneg _ (by decide),Int.emod_lt_of_pos _ (by decide)⟩
section
variable {a b r:Int} {μ:Mu} {x:List Nat}
theorem Qm (hx:mAnd (mTest (mBin gIn (mVar 0) (mC c_DIVIDING))) (mTest (mBin gEq (mVar 2) (mC (.int 0)))) [some (.str x),some (.int a),some (.int b)] μ=.ok false μ) (hp:jk [.str x,.int a,.int b] μ=.ok (.int r) μ) :
  jq [.str x,.int a,.int b] μ=.ok (.int (r % 4294967296)) μ:=jj 0 ((v_skip hx).trans (v_ret (v_bin (v_call rfl hp) rfl (Y7 _ _ (by decide)))))
theorem a63 (hx:mTest (mBin gIn (mVar 0) (mC c_DIVIDING)) [some (.str x),some (.int a),some (.int b)] μ=.ok true μ) (hb:0 < b):mAnd (mTest (mBin gIn (mVar 0) (mC c_DIVIDING))) (mTest (mBin gEq (mVar 2) (mC (.int 0)))) [some (.str x),some (.int a),some (.int b)] μ=.ok false μ:=by
 refine (v_andT hx).trans (ji (v_bin rfl rfl ?_))
 rw [deref_int,deref_int,Z3,show (b == 0)=false by rw [beq_eq_false_iff_ne];omega]
theorem aJ1 (ha:0≤a) (ha2:a < 4294967296) (hb:0≤b) (hx:x=w_left∨x=w_right):∃ r,yw [.str x,.int a,.int b] μ=.ok (.int r) μ:=by
 by_cases h:32≤b
 ·refine ⟨0,jj 1 (v_take (ji (v_bin rfl rfl ?_)) rfl)⟩
  show gGe (.int b) (.int 32)=_
  rw [Fu,decide_eq_true h]
 ·have h1:mTest (mBin gGe (mVar 2) (mC c_WIDTH)) [some (.str x),some (.int a),some (.int b),none] μ=.ok false μ:=by
   refine ji (v_bin rfl rfl ?_)
   show gGe (.int b) (.int 32)=_
   rw [Fu,decide_eq_false h]
  have h2:jm ad2 (mCons (mVar 2) (mCons (mC (.int 0)) mNil)) [some (.str x),some (.int a),some (.int b),none] μ=.ok (.int b) μ:=by
   refine uq rfl ?_
   show ad2 [.int b,.int 0]=_
   rw [D6,if_neg (by omega)]
  rcases hx with rfl | rfl
  ·exact ⟨_,jj 1 ((v_skip h1).trans ((v_set 3 h2).trans (v_ret ((v_ifT rfl).trans (v_bin rfl rfl (g_shl _ _ hb (by omega) (by omega)))))))⟩
  ·exact ⟨_,jj 1 ((v_skip h1).trans ((v_set 3 h2).trans (v_ret ((v_ifF rfl).trans (v_bin rfl rfl (g_shr _ _ hb))))))⟩
theorem reck (hx:x∈opL) (ha:0≤a) (ha2:a < 4294967296) (hb:0≤b) (hb2:b < 4294967296) (μ:Mu):∃ d,jq [.str x,.int a,.int b] μ=.ok d μ∧(d=.non∨Num d):=by
 have z:b=0∨0 < b:=by omega
 have sh:∀ y,y=w_left∨y=w_right→∃ r,yw [.str y,.int a,.int b] μ=.ok (.int r) μ:=fun y hy=>aJ1 ha ha2 hb hy
 revert hx
 revert x
 show ∀ x∈opL,_
 refine ww ⟨⟨_,Qm (yt rfl) rfl,.inr (Num.mod _)⟩,⟨_,Qm (yt rfl) rfl,.inr (Num.mod _)⟩,?_,?_,?_,⟨_,Qm (yt rfl) rfl,.inr (Num.mod _)⟩,⟨_,Qm (yt rfl) rfl,.inr (Num.mod _)⟩,⟨_,Qm (yt rfl) rfl,.inr (Num.mod _)⟩,?_,?_⟩
 ·exact ⟨_,Qm (yt rfl) (jj 0 ((v_skip rfl).trans ((v_skip rfl).trans (v_take rfl (v_bin rfl rfl (y0 _ _ (by omega) (by omega))))))),.inr (Num.mod _)⟩
 ·rcases z with rfl | z
  ·exact ⟨.non,rfl,.inl rfl⟩
  ·exact ⟨_,Qm (a63 rfl z) (jj 0 ((v_skip rfl).trans ((v_skip rfl).trans ((v_skip rfl).trans (v_take rfl (v_bin rfl rfl (Z4 _ _ z (by omega)))))))),.inr (Num.mod _)⟩
 ·rcases z with rfl | z
  ·exact ⟨.non,rfl,.inl rfl⟩
  ·exact ⟨_,Qm (a63 rfl z) (jj 0 ((v_skip rfl).trans ((v_skip rfl).trans ((v_skip rfl).trans ((v_skip rfl).trans (v_take rfl (v_bin rfl rfl (Y7 _ _ z)))))))),.inr (Num.mod _)⟩
 ·obtain ⟨r,e⟩:=sh w_left (.inl rfl)
  exact ⟨_,Qm (yt rfl) (jj 0 ((v_skip rfl).trans ((v_skip rfl).trans ((v_skip rfl).trans ((v_skip rfl).trans ((v_skip rfl).trans ((v_skip rfl).trans ((v_skip rfl).trans ((v_skip rfl).trans (v_ret (v_call rfl e))))))))))),.inr (Num.mod _)⟩
 ·obtain ⟨r,e⟩:=sh w_right (.inr rfl)
  exact ⟨_,Qm (yt rfl) (jj 0 ((v_skip rfl).trans ((v_skip rfl).trans ((v_skip rfl).trans ((v_skip rfl).trans ((v_skip rfl).trans ((v_skip rfl).trans ((v_skip rfl).trans ((v_skip rfl).trans (v_ret (v_call rfl e))))))))))),.inr (Num.mod _)⟩
theorem aJ8 (hx:x∈opL) (ha:0≤a) (ha2:a < 4294967296) (hb:0≤b) (hb2:b < 4294967296):∃ d,(d=.non∨Num d)∧(∀ μ,jq [.str x,.int a,.int b] μ=.ok d μ)∧∀ μ,je [.str x,.int a,.int b] μ=.ok d μ:=by
 obtain ⟨d,e,hd⟩:=reck hx ha ha2 hb hb2 []
 rcases both x hx a b ha ha2 hb hb2 with h | ⟨i,h⟩
 ·exact ⟨.non,.inl rfl,fun μ=>(h μ).1,fun μ=>(h μ).2⟩
 ·have:=e.symm.trans (h []).1
  cases this
  exact ⟨_,hd,fun μ=>(h μ).1,fun μ=>(h μ).2⟩
end
noncomputable def mk8:Int→Int→Int:=fun v i=>v * 256 + i
theorem wo {a b c:Option D} {μ:Mu}:∀ (xs:List Int) (k:Nat) (v:Int) (x4:Option D),(∀ i∈xs,0≤i∧i < 256)→0≤v→v < 256 ^ k→k + xs.length≤4→∃ y4,
  Jl (gN 4) Ys (xs.map .int) [a,b,c,some (.int v),x4] μ=.ok (.nx [a,b,c,some (.int (xs.foldl mk8 v)),y4]) μ∧0≤xs.foldl mk8 v∧xs.foldl mk8 v < 256 ^ (k + xs.length)
 | [],k,v,x4,_,h0,h1,_=>⟨x4,rfl,h0,h1⟩
 | i::xs,k,v,x4,hx,h0,h1,hk=>by
  obtain ⟨⟨i0,i1⟩,hx'⟩:=List.forall_mem_cons.mp hx
  rw [List.length_cons] at hk
  have hv:v < 4294967296:=by
   have:(256:Int) ^ k≤256 ^ 4:=by
    have hk4:k=0∨k=1∨k=2∨k=3∨k=4:=by omega
    rcases hk4 with rfl | rfl | rfl | rfl | rfl <;> decide
   have h4:(256:Int) ^ 4=4294967296:=by decide
   omega
  have e1:Ys [a,b,c,some (.int v),some (.int i)] μ=.ok (.nx [a,b,c,some (.int (v * 256 + i)),some (.int i)]) μ:=by
   unfold Ys Js
   rw [v_bin (x:=.int (v * 256)) (y:=.int i) (z:=.int (v * 256 + i)) (v_bin rfl rfl (y0 _ _ (by omega) (by omega))) rfl rfl]
   rfl
  obtain ⟨y4,e,h2,h3⟩:=wo xs (k + 1) (v * 256 + i) (some (.int i)) hx' (by omega) (by rw [Int.pow_succ];omega) (by omega)
  refine ⟨y4,(Vz e1).trans e,h2,?_⟩
  rw [List.length_cons,show k + (xs.length + 1)=k + 1 + xs.length by omega]
  exact h3
end K20
set_option Elab.async false
set_option linter.all false
set_option maxRecDepth 100000
set_option maxHeartbeats 400000
namespace K20
open PySem PySem.Spec PyProof.Rows L2 M
theorem v_sl {m ml mh:MX} {ρ:En} {μ:Mu} {xs:List D} {i j:Int} (h:m ρ μ=.ok (.lst xs) μ) (hl:ml ρ μ=.ok (.int i) μ) (hh:mh ρ μ=.ok (.int j) μ):mSl m (Qj ml) (Qj mh) ρ μ=.ok (.lst (M.cutD xs (some i) (some j))) μ:=by
 unfold mSl Qj
 rw [h,bind_ok,hl,bind_ok]
 dsimp only
 rw [bind_ok,hh,bind_ok]
 rfl
noncomputable abbrev pk (bs:List Int):D:=.lst (bs.map .int)
noncomputable def Zk (bs:List Int):Prop:=(∀ i∈bs,0≤i∧i < 256)∧bs.length < 1000
theorem aG0 {bs:List Int} {i z:Nat} (h:i + z≤bs.length):M.cutD (bs.map .int) (some (i:Int)) (some ((i + z:Nat):Int))=((bs.drop i).take z).map D.int:=by
 unfold M.cutD
 rw [HT.sIx_nat,HT.sIx_nat,List.length_map,Nat.min_eq_left (by omega),Nat.min_eq_left (by omega),show i + z - i=z by omega,← List.map_drop,← List.map_take]
noncomputable abbrev bEl:MX:=mBin Uh (mBin gIdx (mVar 1) (mBin Jj (mVar 2) (mVar 0))) (mBin gIdx (ua (mCons (mC (.int 1)) (mCons (mC (.int 256)) (mCons (mC (.int 65536)) (mCons (mC (.int 16777216)) mNil))))) (mBin yu (mBin yu (mVar 3) (mC (.int 1))) (mVar 0)))
section
variable {bs:List Int} {st:Nat} {μ:Mu}
theorem Cf (k:Nat) {z:Int} {x w:Int} (hx:(bs.drop st)[k]? =some x) (hb:0≤x∧x < 256)
  (hw:mBin gIdx (ua (mCons (mC (.int 1)) (mCons (mC (.int 256)) (mCons (mC (.int 65536)) (mCons (mC (.int 16777216)) mNil))))) (mBin yu (mBin yu (mVar 3) (mC (.int 1))) (mVar 0)) [some (.int k),some (pk bs),some (.int st),some (.int z)] μ=.ok (.int w) μ) :
  bEl [some (.int k),some (pk bs),some (.int st),some (.int z)] μ=.ok (.int (x * w)) μ:=by
 refine v_bin (x:=.int x) (y:=.int w) (v_bin (x:=pk bs) (y:=.int ((st + k:Nat):Int)) rfl (v_bin rfl rfl ?_) (Zo ?_)) hw (y0 _ _ (by omega) (by omega))
 ·show some (D.int ((st:Int) + (k:Int)))=_
  rw [Int.natCast_add]
 ·rw [List.getElem?_map,← List.getElem?_drop,hx]
  rfl
theorem aD2 (hB:Zk bs) {sz:Int} (hs:sz=1∨sz=2∨sz=4):∃ d,(d=.non∨Num d)∧(∀ μ,Yb [pk bs,.int sz,.int st] μ=.ok d μ)∧∀ μ,Qy [pk bs,.int st,.int sz] μ=.ok d μ:=by
 have t1:∀ μ,mTest (mBin gLt (mVar 2) (mC (.int 0))) [some (pk bs),some (.int sz),some (.int st),none,none] μ=.ok false μ:=fun μ=>by
  refine ji (v_bin rfl rfl ?_)
  rw [deref_int,deref_int,D7,decide_eq_false (by omega)]
 have hl:(bs.map D.int).length=bs.length:=List.length_map _
 have t2:∀ μ,mTest (mBin gGt (mBin Jj (mVar 2) (mVar 1)) (jm uj (mCons (mVar 0) mNil))) [some (pk bs),some (.int sz),some (.int st),none,none] μ=.ok (decide ((bs.length:Int) < st + sz)) μ:=fun μ=>by
  rw [← hl]
  exact ji (v_bin (x:=.int (st + sz)) (y:=.int (bs.map D.int).length) rfl rfl rfl)
 have t3:∀ μ,mTest (mBin gGt (mBin Jj (mVar 1) (mVar 2)) (jm uj (mCons (mVar 0) mNil))) [some (pk bs),some (.int st),some (.int sz)] μ=.ok (decide ((bs.length:Int) < st + sz)) μ:=fun μ=>by
  rw [← hl]
  exact ji (v_bin (x:=.int (st + sz)) (y:=.int (bs.map D.int).length) rfl rfl rfl)
 by_cases h:(bs.length:Int) < st + sz
 ·rw [decide_eq_true h] at t2 t3
  exact ⟨.non,.inl rfl,fun μ=>jj 2 (v_take ((v_orF (t1 μ)).trans (t2 μ)) rfl),fun μ=>jj 0 (v_take (t3 μ) rfl)⟩
 ·rw [decide_eq_false h] at t2 t3
  obtain ⟨z,rfl,hz⟩:∃ z:Nat,sz=z∧z≤4:=⟨sz.toNat,by omega,by omega⟩
  have hc:=aG0 (bs:=bs) (i:=st) (z:=z) (by omega)
  have hm:∀ i∈(bs.drop st).take z,0≤i∧i < 256:=fun i hi=>hB.1 i (List.mem_of_mem_drop (List.mem_of_mem_take hi))
  have hlen:((bs.drop st).take z).length≤4:=Nat.le_trans (List.length_take_le _ _) hz
  refine ⟨.int (((bs.drop st).take z).foldl mk8 0),.inr ?_,fun μ=>?_,fun μ=>?_⟩
  ·obtain ⟨y4,e,h2,h3⟩:=wo (a:=none) (b:=none) (c:=none) (μ:=[]) ((bs.drop st).take z) 0 0 none hm (by decide) (by decide) (by omega)
   refine ⟨_,rfl,h2,?_⟩
   have:(256:Int) ^ (0 + ((bs.drop st).take z).length)≤256 ^ 4:=by
    generalize ((bs.drop st).take z).length=k at hlen
    have hk4:k=0∨k=1∨k=2∨k=3∨k=4:=by omega
    rcases hk4 with rfl | rfl | rfl | rfl | rfl <;> decide
   have h4:(256:Int) ^ 4=4294967296:=by decide
   omega
  ·obtain ⟨y4,e,h2,h3⟩:=wo (a:=some (pk bs)) (b:=some (.int z)) (c:=some (.int st)) (μ:=μ) ((bs.drop st).take z) 0 0 none hm (by decide) (by decide) (by omega)
   rw [← hc] at e
   refine jj 2 ((v_skip ((v_orF (t1 μ)).trans (t2 μ))).trans ((v_set 3 (d:=.int 0) rfl).trans ((v_seqN ((zi (V9 (v_sl (j:=((st + z:Nat):Int)) rfl rfl (v_bin rfl rfl ?_)))).trans e)).trans (v_ret rfl))))
   show some (D.int ((st:Int) + (z:Int)))=_
   rw [Int.natCast_add]
  ·have hb:∀ (k:Nat) (x:Int),(bs.drop st)[k]? =some x→0≤x∧x < 256:=fun k x e=>hB.1 x (List.mem_of_mem_drop (List.mem_of_getElem? e))
   have hd:z≤(bs.drop st).length:=by rw [List.length_drop];omega
   have fin:∀ L:List Int,J6 (gN 0) mTT bEl (yr z) [none,some (pk bs),some (.int st),some (.int z)] μ []=.ok (L.map .int) μ→wd (L.map .int)=some L→L.sum=((bs.drop st).take z).foldl mk8 0→Qy [pk bs,.int st,.int z] μ=.ok (.int (((bs.drop st).take z).foldl mk8 0)) μ:=fun L e1 e2 e3=>by
    refine jj 0 ((v_skip (t3 μ)).trans (v_ret (uq (v_cons (d:=.lst (L.map .int)) ?_ v_nil) ?_)))
    ·unfold ug
     rw [show uo (mVar 2) [some (pk bs),some (.int st),some (.int z)] μ=.ok (yr z) μ by
      unfold uo
      rw [v_var 2 rfl,bind_ok,We _ (by omega)]
      rfl,bind_ok,if_pos (by unfold yr;rw [List.length_map,List.length_range];omega)]
     show (J6 (gN 0) mTT bEl _ [none,some (pk bs),some (.int st),some (.int z)] μ []).bind _=_
     rw [e1]
     rfl
    ·show (wd (L.map .int)).map _=_
     rw [e2,← e3]
     rfl
   have hz':z=1∨z=2∨z=4:=by omega
   rcases hz' with rfl | rfl | rfl
   ·obtain ⟨a,r,er⟩:∃ a r,bs.drop st=a::r:=by
     cases e:bs.drop st with
     | nil=>rw [e] at hd;simp at hd
     | cons a r=>exact ⟨a,r,rfl⟩
    have h0:(bs.drop st)[0]? =some a:=by rw [er];rfl
    refine fin [a * 1] ((Zx rfl (Cf 0 h0 (hb 0 a h0) rfl)).trans rfl) rfl ?_
    rw [er]
    show a * 1 + 0=0 * 256 + a
    omega
   ·obtain ⟨a,b,r,er⟩:∃ a b r,bs.drop st=a::b::r:=by
     match e:bs.drop st,hd with
     | [],hd=>simp at hd
     | [_],hd=>simp at hd
     | a::b::r,_=>exact ⟨a,b,r,rfl⟩
    have h0:(bs.drop st)[0]? =some a:=by rw [er];rfl
    have h1:(bs.drop st)[1]? =some b:=by rw [er];rfl
    refine fin [a * 256,b * 1] ((Zx rfl (Cf 0 h0 (hb 0 a h0) rfl)).trans ((Zx rfl (Cf 1 h1 (hb 1 b h1) rfl)).trans rfl)) rfl ?_
    rw [er]
    show a * 256 + (b * 1 + 0)=(0 * 256 + a) * 256 + b
    omega
   ·obtain ⟨a,b,c,d,r,er⟩:∃ a b c d r,bs.drop st=a::b::c::d::r:=by
     match e:bs.drop st,hd with
     | [],hd=>simp at hd
     | [_],hd=>simp at hd
     | [_,_],hd=>simp at hd
     | [_,_,_],hd=>simp at hd
     | a::b::c::d::r,_=>exact ⟨a,b,c,d,r,rfl⟩
    have h0:(bs.drop st)[0]? =some a:=by rw [er];rfl
    have h1:(bs.drop st)[1]? =some b:=by rw [er];rfl
    have h2:(bs.drop st)[2]? =some c:=by rw [er];rfl
    have h3:(bs.drop st)[3]? =some d:=by rw [er];rfl
    refine fin [a * 16777216,b * 65536,c * 256,d * 1] ((Zx rfl (Cf 0 h0 (hb 0 a h0) rfl)).trans ((Zx rfl (Cf 1 h1 (hb 1 b h1) rfl)).trans ((Zx rfl (Cf 2 h2 (hb 2 c h2) rfl)).trans ((Zx rfl (Cf 3 h3 (hb 3 d h3) rfl)).trans rfl)))) rfl ?_
    rw [er]
    show a * 16777216 + (b * 65536 + (c * 256 + (d * 1 + 0)))=(((0 * 256 + a) * 256 + b) * 256 + c) * 256 + d
    omega
end
end K20
set_option Elab.async false
set_option linter.all false
set_option maxRecDepth 100000
set_option maxHeartbeats 400000
namespace K20
open PySem PySem.Spec PyProof.Rows L2 M
inductive N | num (k:Int) | len | load (s:Int) (a:N) | op (x:List Nat) (a b:N)
inductive B | tru (b:Bool) | nt (a:B) | both (a b:B) | eith (a b:B) | cmp (x:List Nat) (a b:N)
noncomputable def N.d:N→D
 | .num k=>.tup [.str js,.int k]
 | .len=>.tup [.str yz]
 | .load s a=>.tup [.str Uj,.int s,a.d]
 | .op x a b=>.tup [.str x,a.d,b.d]
noncomputable def B.d:B→D
 | .tru b=>.tup [.str ut,.bl b]
 | .nt a=>.tup [.str w_not,a.d]
 | .both a b=>.tup [.str Jb,a.d,b.d]
 | .eith a b=>.tup [.str Jw,a.d,b.d]
 | .cmp x a b=>.tup [.str x,a.d,b.d]
noncomputable def cpL:List (List Nat):=[uh,Jm,ur,J1,U1,jd]
theorem W5 {P:List Nat→Prop} (h:P uh∧P Jm∧P ur∧P J1∧P U1∧P jd):∀ x∈cpL,P x:=by
 intro x hx
 simp only [cpL,List.mem_cons,List.not_mem_nil,or_false] at hx
 obtain ⟨h1,h2,h3,h4,h5,h6⟩:=h
 rcases hx with rfl | rfl | rfl | rfl | rfl | rfl <;> assumption
noncomputable def N.ok:N→Prop
 | .num k=>0≤k∧k < 4294967296
 | .len=>True
 | .load s a=>(s=1∨s=2∨s=4)∧a.ok
 | .op x a b=>x∈opL∧a.ok∧b.ok
noncomputable def B.ok:B→Prop
 | .tru _=>True
 | .nt a=>a.ok
 | .both a b=>a.ok∧b.ok
 | .eith a b=>a.ok∧b.ok
 | .cmp x a b=>x∈cpL∧a.ok∧b.ok
noncomputable def N.c:N→Nat
 | .num _=>1
 | .len=>1
 | .load _ a=>a.c + 2
 | .op _ a b=>a.c + b.c + 2
noncomputable def B.c:B→Nat
 | .tru _=>1
 | .nt a=>a.c + 2
 | .both a b=>a.c + b.c + 2
 | .eith a b=>a.c + b.c + 2
 | .cmp _ a b=>a.c + b.c + 2
noncomputable def N.dp:N→Nat
 | .num _=>1
 | .len=>1
 | .load _ a=>a.dp + 1
 | .op _ a b=>max a.dp b.dp + 1
noncomputable def B.dp:B→Nat
 | .tru _=>1
 | .nt a=>a.dp + 1
 | .both a b=>max a.dp b.dp + 1
 | .eith a b=>max a.dp b.dp + 1
 | .cmp _ a b=>1
noncomputable def val (r:Res D):D:=match r with
 | .ok d _=>d
 | _=>.non
noncomputable def rk (x:List Nat) (i j:Int):D:=val (je [.str x,.int i,.int j] [])
noncomputable def ld (bs:List Int) (s i:Int):D:=val (Qy [pk bs,.int i,.int s] [])
noncomputable def cp (x:List Nat) (i j:Int):D:=.bl (if x=uh then i == j else if x=Jm then !(i == j) else if x=ur then decide (i < j) else if x=J1 then decide (i > j) else if x=U1 then decide (i≤j) else decide (i ≥ j))
noncomputable def bi (f:Int→Int→D):D→D→D
 | .int i,.int j=>f i j
 | _,_=>.non
noncomputable def un (f:Int→D):D→D
 | .int i=>f i
 | _=>.non
noncomputable def N.ev (bs:List Int):N→D
 | .num k=>.int k
 | .len=>.int bs.length
 | .load s a=>un (ld bs s) (a.ev bs)
 | .op x a b=>bi (rk x) (a.ev bs) (b.ev bs)
noncomputable def aN1:D→D
 | .bl b=>.bl (!b)
 | _=>.non
noncomputable def Bi (e:Bool) (a b:D):D:=match a with
 | .bl k=>if k=e then .bl k else b
 | _=>.non
noncomputable def B.ev (bs:List Int):B→D
 | .tru b=>.bl b
 | .nt a=>aN1 (a.ev bs)
 | .both a b=>Bi false (a.ev bs) (b.ev bs)
 | .eith a b=>Bi true (a.ev bs) (b.ev bs)
 | .cmp x a b=>bi (cp x) (a.ev bs) (b.ev bs)
theorem B2 {x:List Nat} {i j:Int} (hx:x∈opL) (ha:0≤i) (ha2:i < 4294967296) (hb:0≤j) (hb2:j < 4294967296):(rk x i j=.non∨Num (rk x i j))∧(∀ μ,jq [.str x,.int i,.int j] μ=.ok (rk x i j) μ)∧∀ μ,je [.str x,.int i,.int j] μ=.ok (rk x i j) μ:=by
 obtain ⟨d,h1,h2,h3⟩:=aJ8 hx ha ha2 hb hb2
 have:rk x i j=d:=by unfold rk;rw [h3];rfl
 rw [this]
 exact ⟨h1,h2,h3⟩
theorem ld_eq {bs:List Int} (hB:Zk bs) {s i:Int} (hs:s=1∨s=2∨s=4) (hi:0≤i):(ld bs s i=.non∨Num (ld bs s i))∧(∀ μ,Yb [pk bs,.int s,.int i] μ=.ok (ld bs s i) μ)∧∀ μ,Qy [pk bs,.int i,.int s] μ=.ok (ld bs s i) μ:=by
 obtain ⟨n,rfl⟩:=Int.eq_ofNat_of_zero_le hi
 obtain ⟨d,h1,h2,h3⟩:=aD2 (st:=n) hB hs
 have:ld bs s n=d:=by unfold ld;rw [h3];rfl
 rw [this]
 exact ⟨h1,h2,h3⟩
theorem aQ2 {x:List Nat} (hx:x∈cpL) (i j:Int):∃ b,cp x i j=.bl b∧True:=⟨_,rfl,trivial⟩
theorem N.num_ev {bs:List Int} (hB:Zk bs):∀ a:N,a.ok→a.ev bs=.non∨Num (a.ev bs)
 | .num k,h=>.inr ⟨k,rfl,h.1,h.2⟩
 | .len,_=>.inr ⟨_,rfl,by omega,by have:=hB.2;omega⟩
 | .load s a,h=>by
  rcases N.num_ev hB a h.2 with e | ⟨i,e,h1,h2⟩
  ·exact .inl (by simp only [N.ev];rw [e];rfl)
  ·simp only [N.ev];rw [e];exact (ld_eq hB h.1 h1).1
 | .op x a b,h=>by
  rcases N.num_ev hB a h.2.1 with e | ⟨i,e,h1,h2⟩
  ·exact .inl (by simp only [N.ev];rw [e];rfl)
  ·rcases N.num_ev hB b h.2.2 with e' | ⟨j,e',h1',h2'⟩
   ·exact .inl (by simp only [N.ev];rw [e,e'];rfl)
   ·simp only [N.ev];rw [e,e'];exact (B2 h.1 h1 h2 h1' h2').1
theorem B.bl_ev {bs:List Int} (hB:Zk bs):∀ a:B,a.ok→a.ev bs=.non∨∃ b,a.ev bs=.bl b
 | .tru b,_=>.inr ⟨b,rfl⟩
 | .nt a,h=>by
  rcases B.bl_ev hB a h with e | ⟨b,e⟩
  ·exact .inl (by simp only [B.ev];rw [e];rfl)
  ·exact .inr ⟨_,by simp only [B.ev];rw [e];rfl⟩
 | .both a b,h=>by
  rcases B.bl_ev hB a h.1 with e | ⟨k,e⟩
  ·exact .inl (by simp only [B.ev];rw [e];rfl)
  ·simp only [B.ev];rw [e]
   cases k
   ·exact .inr ⟨false,rfl⟩
   ·exact B.bl_ev hB b h.2
 | .eith a b,h=>by
  rcases B.bl_ev hB a h.1 with e | ⟨k,e⟩
  ·exact .inl (by simp only [B.ev];rw [e];rfl)
  ·simp only [B.ev];rw [e]
   cases k
   ·exact B.bl_ev hB b h.2
   ·exact .inr ⟨true,rfl⟩
 | .cmp x a b,h=>by
  rcases N.num_ev hB a h.2.1 with e | ⟨i,e,h1,h2⟩
  ·exact .inl (by simp only [B.ev];rw [e];rfl)
  ·rcases N.num_ev hB b h.2.2 with e' | ⟨j,e',h1',h2'⟩
   ·exact .inl (by simp only [B.ev];rw [e,e'];rfl)
   ·obtain ⟨k,ek,_⟩:=aQ2 h.1 i j
    exact .inr ⟨k,by simp only [B.ev];rw [e,e'];exact ek⟩
theorem Yw (y:D) (r:List D):gIdx (.tup (y::r)) (.int 0)=some y:=by
 show atI (y::r) 0=_
 rw [Qv (by decide)]
 rfl
theorem ah8 (k:Nat):Yg (k + 1) 0=fnOf 3 (E5 (Yg k)):=rfl
theorem a64 (k:Nat):Y2 (k + 1) 0=fnOf 3 (Zp (Y2 k)):=rfl
theorem opN:∀ x∈opL,gEq (.str x) (.str js)=some (.bl false)∧gEq (.str x) (.str yz)=some (.bl false)∧gEq (.str x) (.str Uj)=some (.bl false):=ww ⟨⟨rfl,rfl,rfl⟩,⟨rfl,rfl,rfl⟩,⟨rfl,rfl,rfl⟩,⟨rfl,rfl,rfl⟩,⟨rfl,rfl,rfl⟩,⟨rfl,rfl,rfl⟩,⟨rfl,rfl,rfl⟩,⟨rfl,rfl,rfl⟩,⟨rfl,rfl,rfl⟩,⟨rfl,rfl,rfl⟩⟩
theorem Zd {bs:List Int} (hB:Zk bs):∀ (a:N) (k:Nat),a.ok→a.dp≤k→∀ μ,Yg k 0 [a.d,pk bs] μ=.ok (a.ev bs) μ
 | a,0,h,hk,μ=>absurd hk (by cases a <;> simp [N.dp])
 | .num i,k + 1,h,hk,μ=>by rw [ah8];exact jj 3 (v_take rfl rfl)
 | .len,k + 1,h,hk,μ=>by
  rw [ah8]
  have:(bs.map D.int).length=bs.length:=List.length_map _
  simp only [N.ev]
  rw [← this]
  exact jj 3 ((v_skip rfl).trans (v_take rfl rfl))
 | .load s a,k + 1,h,hk,μ=>by
  rw [ah8]
  have ih:=Zd hB a k h.2 (by simp only [N.dp] at hk;omega) μ
  simp only [N.ev]
  rcases N.num_ev hB a h.2 with e | ⟨i,e,h1,h2⟩
  ·rw [e] at ih ⊢
   exact jj 3 ((v_skip rfl).trans ((v_skip rfl).trans (v_seqR ((v_iteT rfl).trans ((v_set 2 (v_call rfl ih)).trans (v_ret ((v_ifT rfl).trans rfl)))))))
  ·rw [e] at ih ⊢
   exact jj 3 ((v_skip rfl).trans ((v_skip rfl).trans (v_seqR ((v_iteT rfl).trans ((v_set 2 (v_call rfl ih)).trans (v_ret ((v_ifF rfl).trans (v_call rfl ((ld_eq hB h.1 h1).2.2 μ)))))))))
 | .op x a b,k + 1,h,hk,μ=>by
  rw [ah8]
  have hk':max a.dp b.dp + 1≤k + 1:=hk
  have ih:=Zd hB a k h.2.1 (by omega) μ
  have ih':=Zd hB b k h.2.2 (by omega) μ
  obtain ⟨o1,o2,o3⟩:=opN x h.1
  simp only [N.ev]
  rcases N.num_ev hB a h.2.1 with e | ⟨i,e,h1,h2⟩
  ·rw [e] at ih ⊢
   exact jj 3 ((v_skip (ji (v_bin (x:=.str x) (v_bin (x:=.tup [.str x,a.d,b.d]) rfl rfl (Yw _ _)) rfl o1))).trans ((v_skip (ji (v_bin (x:=.str x) (v_bin (x:=.tup [.str x,a.d,b.d]) rfl rfl (Yw _ _)) rfl o2))).trans ((v_skip (ji (v_bin (x:=.str x) (v_bin (x:=.tup [.str x,a.d,b.d]) rfl rfl (Yw _ _)) rfl o3))).trans ((v_set 3 (v_call rfl ih)).trans ((v_set 4 ((v_ifT rfl).trans rfl)).trans (v_ret ((v_ifT rfl).trans rfl)))))))
  ·rw [e] at ih ⊢
   rcases N.num_ev hB b h.2.2 with e' | ⟨j,e',h1',h2'⟩
   ·rw [e'] at ih' ⊢
    exact jj 3 ((v_skip (ji (v_bin (x:=.str x) (v_bin (x:=.tup [.str x,a.d,b.d]) rfl rfl (Yw _ _)) rfl o1))).trans ((v_skip (ji (v_bin (x:=.str x) (v_bin (x:=.tup [.str x,a.d,b.d]) rfl rfl (Yw _ _)) rfl o2))).trans ((v_skip (ji (v_bin (x:=.str x) (v_bin (x:=.tup [.str x,a.d,b.d]) rfl rfl (Yw _ _)) rfl o3))).trans ((v_set 3 (v_call rfl ih)).trans ((v_set 4 ((v_ifF rfl).trans (v_call rfl ih'))).trans (v_ret ((v_ifT rfl).trans rfl)))))))
   ·rw [e'] at ih' ⊢
    exact jj 3 ((v_skip (ji (v_bin (x:=.str x) (v_bin (x:=.tup [.str x,a.d,b.d]) rfl rfl (Yw _ _)) rfl o1))).trans ((v_skip (ji (v_bin (x:=.str x) (v_bin (x:=.tup [.str x,a.d,b.d]) rfl rfl (Yw _ _)) rfl o2))).trans ((v_skip (ji (v_bin (x:=.str x) (v_bin (x:=.tup [.str x,a.d,b.d]) rfl rfl (Yw _ _)) rfl o3))).trans ((v_set 3 (v_call rfl ih)).trans ((v_set 4 ((v_ifF rfl).trans (v_call rfl ih'))).trans (v_ret ((v_ifF rfl).trans (v_call (v_cons (v_bin (x:=.tup [.str x,a.d,b.d]) rfl rfl (Yw _ _)) (v_cons rfl (v_cons rfl v_nil))) ((B2 h.1 h1 h2 h1' h2').2.2 μ)))))))))
end K20
set_option Elab.async false
set_option linter.all false
set_option maxRecDepth 100000
set_option maxHeartbeats 400000
namespace K20
open PySem PySem.Spec PyProof.Rows L2 M
noncomputable def sv:D→Int
 | .bl true=>1
 | .bl false=>0
 | _=> -1
theorem B6 {ν:Mu} {ks:List DK} {ds:List D} {ρ:En} {i v:D} {q:DK} (hi:Xw i=some q) (hk:ks.length < 16777216) (hq:(ks.any fun k=>decide (k=q))=false):Eb ρ (.ref ν.length) i v (ν++[.dic ks ds])=.ok (.nx ρ) (ν++[.dic (ks++[q]) (ds++[v])]):=by
 have e1:(ν++[Cell.dic ks ds])[ν.length]? =some (.dic ks ds):=by
  rw [List.getElem?_append_right (Nat.le_refl _),Nat.sub_self]
  rfl
 unfold Eb
 dsimp only
 rw [e1,hi]
 dsimp only
 rw [if_pos hk,hq,if_neg (by decide),List.set_append_right _ _ (Nat.le_refl _),Nat.sub_self]
 rfl
theorem aF8 {ν:Mu} {ks:List DK} {ds:List D}:j8 (ν++[.dic ks ds]) (.ref ν.length)=.dic ks ds:=by
 unfold j8
 dsimp only
 rw [List.getElem?_append_right (Nat.le_refl _),Nat.sub_self]
 rfl
theorem c8 {mo mi mv:MX} {ρ:En} {μ:Mu} {c i v:D} (hv:mv ρ μ=.ok v μ) (ho:mo ρ μ=.ok c μ) (hi:mi ρ μ=.ok i μ):fe mo mi mv ρ μ=Eb ρ c i v μ:=by
 unfold fe
 rw [hv,bind_ok,ho,bind_ok,hi,bind_ok]
theorem v_dicC {ks:List DK} {ms:MAs} {ρ:En} {μ μ1:Mu} {ds:List D} (h:ms ρ μ=.ok ds μ1):df ks ms ρ μ=.ok (.ref μ1.length) (μ1++[.dic ks ds]):=by
 unfold df
 rw [h]
 rfl
theorem cpN:∀ x∈cpL,gEq (.str x) (.str ut)=some (.bl false)∧gIn (.str x) (.tup [.str w_not,.str Jb,.str Jw])=some (.bl false):=W5 ⟨⟨rfl,rfl⟩,⟨rfl,rfl⟩,⟨rfl,rfl⟩,⟨rfl,rfl⟩,⟨rfl,rfl⟩,⟨rfl,rfl⟩⟩
section
variable {bs:List Int}
theorem a54 (hB:Zk bs) {x:List Nat} {a b:N} (hx:x∈cpL) (ha:a.ok) (hb:b.ok) (da:a.dp≤12) (db:b.dp≤12) (R:Nat→Fn) (μ:Mu):∃ μ',fnOf 3 (Zp R) [(B.cmp x a b).d,pk bs] μ=.ok (.int (sv ((B.cmp x a b).ev bs))) μ':=by
 obtain ⟨c1,c2⟩:=cpN x hx
 have wa:=Zd hB a 12 ha da μ
 have wb:=Zd hB b 12 hb db μ
 have hd:∀ {r:MSt} {m1 m2:MSt},jz (jl (mTest (mBin gEq (mBin gIdx (mVar 0) (mC (.int 0))) (mC (.str ut)))) m1 jx) (jz (jl (mTest (mBin gIn (mBin gIdx (mVar 0) (mC (.int 0))) (ja (mCons (mC (.str w_not)) (mCons (mC (.str Jb)) (mCons (mC (.str Jw)) mNil)))))) m2 jx) r) [some (.tup [.str x,a.d,b.d]),some (pk bs),none,none,none] μ=r [some (.tup [.str x,a.d,b.d]),some (pk bs),none,none,none] μ:=fun {r m1 m2} =>
  (v_skip (ji (v_bin (x:=.str x) (v_bin (x:=.tup [.str x,a.d,b.d]) rfl rfl (Yw _ _)) rfl c1))).trans (v_skip (ji (v_bin (x:=.str x) (v_bin (x:=.tup [.str x,a.d,b.d]) rfl rfl (Yw _ _)) rfl c2)))
 show ∃ μ',fnOf 3 (Zp R) [.tup [.str x,a.d,b.d],pk bs] μ=.ok (.int (sv (bi (cp x) (a.ev bs) (b.ev bs)))) μ'
 rcases N.num_ev hB a ha with e | ⟨i,e,h1,h2⟩
 ·rw [e] at wa ⊢
  exact ⟨μ,jj 3 (hd.trans ((v_set 2 (v_call rfl wa)).trans ((v_set 3 ((v_ifT rfl).trans rfl)).trans (v_take rfl rfl))))⟩
 ·rw [e] at wa ⊢
  rcases N.num_ev hB b hb with e' | ⟨j,e',h1',h2'⟩
  ·rw [e'] at wb ⊢
   exact ⟨μ,jj 3 (hd.trans ((v_set 2 (v_call rfl wa)).trans ((v_set 3 ((v_ifF rfl).trans (v_call rfl wb))).trans (v_take rfl rfl))))⟩
  ·rw [e'] at wb ⊢
   refine ⟨μ++[.dic [.inr uh,.inr Jm,.inr ur,.inr J1,.inr U1,.inr jd] [.bl (i == j),.bl (!(i == j)),.bl (decide (i < j)),.bl (decide (i > j)),.bl (decide (i≤j)),.bl (decide (i ≥ j))]],?_⟩
   have fin:∀ {k:Bool},J2 [.inr uh,.inr Jm,.inr ur,.inr J1,.inr U1,.inr jd] [.bl (i == j),.bl (!(i == j)),.bl (decide (i < j)),.bl (decide (i > j)),.bl (decide (i≤j)),.bl (decide (i ≥ j))] (.inr x)=some (.bl k)→fnOf 3 (Zp R) [.tup [.str x,a.d,b.d],pk bs] μ=.ok (.int (if k then 1 else 0)) (μ++[.dic [.inr uh,.inr Jm,.inr ur,.inr J1,.inr U1,.inr jd] [.bl (i == j),.bl (!(i == j)),.bl (decide (i < j)),.bl (decide (i > j)),.bl (decide (i≤j)),.bl (decide (i ≥ j))]]):=fun {k} hk=>by
    refine jj 3 (hd.trans ((v_set 2 (v_call rfl wa)).trans ((v_set 3 ((v_ifF rfl).trans (v_call rfl wb))).trans ((v_skip rfl).trans ((v_set 4 (v_dicC (ds:=[.bl (i == j),.bl (!(i == j)),.bl (decide (i < j)),.bl (decide (i > j))]) (v_cons (v_bin rfl rfl (Z3 _ _)) (v_cons (v_bin rfl rfl (K9 _ _)) (v_cons (v_bin rfl rfl (D7 _ _)) (v_cons (v_bin rfl rfl (Cp _ _)) v_nil)))))).trans ((v_seqN ((c8 (v_bin rfl rfl (D8 _ _)) rfl rfl).trans (B6 rfl (by decide) (by decide)))).trans ((v_seqN ((c8 (v_bin rfl rfl (Fu _ _)) rfl rfl).trans (B6 rfl (by decide) (by decide)))).trans (v_ret (uq (d:=.int (if k then 1 else 0)) (v_cons (d:=.bl k) (v_bin (x:=.ref μ.length) (y:=.str x) rfl (v_bin (x:=.tup [.str x,a.d,b.d]) rfl rfl (Yw _ _)) ?_) v_nil) ?_)))))))))
    ·rw [aF8]
     exact hk
    ·cases k <;> rfl
   have ho:∃ k,J2 [.inr uh,.inr Jm,.inr ur,.inr J1,.inr U1,.inr jd] [.bl (i == j),.bl (!(i == j)),.bl (decide (i < j)),.bl (decide (i > j)),.bl (decide (i≤j)),.bl (decide (i ≥ j))] (.inr x)=some (.bl k)∧cp x i j=.bl k:=by
    clear fin hd c1 c2
    revert hx
    revert x
    show ∀ x∈cpL,_
    exact W5 ⟨⟨_,rfl,rfl⟩,⟨_,rfl,rfl⟩,⟨_,rfl,rfl⟩,⟨_,rfl,rfl⟩,⟨_,rfl,rfl⟩,⟨_,rfl,rfl⟩⟩
   obtain ⟨k,hk,ek⟩:=ho
   rw [fin hk]
   show Res.ok (D.int (if k then 1 else 0)) _=.ok (.int (sv (cp x i j))) _
   rw [ek]
   cases k <;> rfl
end
end K20
set_option Elab.async false
set_option linter.all false
set_option maxRecDepth 100000
set_option maxHeartbeats 400000
namespace K20
open PySem PySem.Spec PyProof.Rows L2 M
noncomputable def B.nd:B→Prop
 | .tru _=>True
 | .nt a=>a.nd
 | .both a b=>a.nd∧b.nd
 | .eith a b=>a.nd∧b.nd
 | .cmp _ a b=>a.dp≤7∧b.dp≤7
section
variable {bs:List Int}
theorem Q0 (hB:Zk bs):∀ (a:B) (k:Nat),a.ok→a.nd→a.dp≤k→∀ μ,∃ μ',Y2 k 0 [a.d,pk bs] μ=.ok (.int (sv (a.ev bs))) μ'
 | a,0,h,hn,hk,μ=>absurd hk (by cases a <;> simp [B.dp])
 | .tru b,k + 1,h,hn,hk,μ=>⟨μ,by rw [a64];cases b <;> exact jj 3 (v_take rfl rfl)⟩
 | .cmp x a b,k + 1,h,hn,hk,μ=>by
  rw [a64]
  exact a54 hB h.1 h.2.1 h.2.2 (by have:=hn.1;omega) (by have:=hn.2;omega) _ μ
 | .nt a,k + 1,h,hn,hk,μ=>by
  rw [a64]
  obtain ⟨μ1,ih⟩:=Q0 hB a k h hn (by simp only [B.dp] at hk;omega) μ
  refine ⟨μ1,?_⟩
  show fnOf 3 (Zp (Y2 k)) [.tup [.str w_not,a.d],pk bs] μ=.ok (.int (sv (aN1 (a.ev bs)))) μ1
  rcases B.bl_ev hB a h with e | ⟨b,e⟩
  ·rw [e] at ih ⊢
   exact jj 3 ((v_skip rfl).trans (v_seqR ((v_iteT rfl).trans ((v_set 2 (v_call rfl ih)).trans (v_take (v_orT rfl) ((v_ifT rfl).trans rfl))))))
  ·rw [e] at ih ⊢
   cases b
   ·exact jj 3 ((v_skip rfl).trans (v_seqR ((v_iteT rfl).trans ((v_set 2 (v_call rfl ih)).trans (v_take ((v_orF rfl).trans rfl) ((v_ifF rfl).trans rfl))))))
   ·exact jj 3 ((v_skip rfl).trans (v_seqR ((v_iteT rfl).trans ((v_set 2 (v_call rfl ih)).trans (v_take ((v_orF rfl).trans rfl) ((v_ifF rfl).trans rfl))))))
 | .both a b,k + 1,h,hn,hk,μ=>by
  rw [a64]
  have hk':max a.dp b.dp + 1≤k + 1:=hk
  obtain ⟨μ1,ih⟩:=Q0 hB a k h.1 hn.1 (by omega) μ
  obtain ⟨μ2,ih2⟩:=Q0 hB b k h.2 hn.2 (by omega) μ1
  show ∃ μ',fnOf 3 (Zp (Y2 k)) [.tup [.str Jb,a.d,b.d],pk bs] μ=.ok (.int (sv (Bi false (a.ev bs) (b.ev bs)))) μ'
  rcases B.bl_ev hB a h.1 with e | ⟨c,e⟩
  ·rw [e] at ih ⊢
   exact ⟨μ1,jj 3 ((v_skip rfl).trans (v_seqR ((v_iteT rfl).trans ((v_set 2 (v_call rfl ih)).trans (v_take (v_orT rfl) ((v_ifT rfl).trans rfl))))))⟩
  ·rw [e] at ih ⊢
   cases c
   ·exact ⟨μ1,jj 3 ((v_skip rfl).trans (v_seqR ((v_iteT rfl).trans ((v_set 2 (v_call rfl ih)).trans ((v_skip ((v_orF rfl).trans rfl)).trans (v_ret ((v_ifT rfl).trans rfl)))))))⟩
   ·exact ⟨μ2,jj 3 ((v_skip rfl).trans (v_seqR ((v_iteT rfl).trans ((v_set 2 (v_call rfl ih)).trans ((v_skip ((v_orF rfl).trans rfl)).trans (v_ret ((v_ifF rfl).trans (v_call rfl ih2))))))))⟩
 | .eith a b,k + 1,h,hn,hk,μ=>by
  rw [a64]
  have hk':max a.dp b.dp + 1≤k + 1:=hk
  obtain ⟨μ1,ih⟩:=Q0 hB a k h.1 hn.1 (by omega) μ
  obtain ⟨μ2,ih2⟩:=Q0 hB b k h.2 hn.2 (by omega) μ1
  show ∃ μ',fnOf 3 (Zp (Y2 k)) [.tup [.str Jw,a.d,b.d],pk bs] μ=.ok (.int (sv (Bi true (a.ev bs) (b.ev bs)))) μ'
  rcases B.bl_ev hB a h.1 with e | ⟨c,e⟩
  ·rw [e] at ih ⊢
   exact ⟨μ1,jj 3 ((v_skip rfl).trans (v_seqR ((v_iteT rfl).trans ((v_set 2 (v_call rfl ih)).trans (v_take (v_orT rfl) ((v_ifT rfl).trans rfl))))))⟩
  ·rw [e] at ih ⊢
   cases c
   ·exact ⟨μ2,jj 3 ((v_skip rfl).trans (v_seqR ((v_iteT rfl).trans ((v_set 2 (v_call rfl ih)).trans ((v_skip ((v_orF rfl).trans rfl)).trans (v_ret ((v_ifF rfl).trans (v_call rfl ih2))))))))⟩
   ·exact ⟨μ1,jj 3 ((v_skip rfl).trans (v_seqR ((v_iteT rfl).trans ((v_set 2 (v_call rfl ih)).trans ((v_skip ((v_orF rfl).trans rfl)).trans (v_ret ((v_ifT rfl).trans rfl)))))))⟩
end
end K20
set_option Elab.async false
set_option linter.all false
set_option maxRecDepth 100000
set_option maxHeartbeats 400000
namespace K20
open PySem PySem.Spec PyProof.Rows L2 M
noncomputable def pm (μ0:Mu) (W V:List D):Mu:=μ0++[.lst W,.lst V]
section
variable {μ0:Mu} {W V:List D} {ρ:En} {m mo:MX} {d y:D}
theorem aK9:(pm μ0 W V)[μ0.length]? =some (.lst W):=by
 unfold pm
 rw [List.getElem?_append_right (Nat.le_refl _),Nat.sub_self]
 rfl
theorem aj3:(pm μ0 W V)[μ0.length + 1]? =some (.lst V):=by
 unfold pm
 rw [List.getElem?_append_right (by omega),show μ0.length + 1 - μ0.length=1 by omega]
 rfl
theorem aF4:j8 (pm μ0 W V) (.ref μ0.length)=.lst W:=by
 unfold j8
 dsimp only
 rw [aK9]
theorem aF5:j8 (pm μ0 W V) (.ref (μ0.length + 1))=.lst V:=by
 unfold j8
 dsimp only
 rw [aj3]
theorem aJ5 (L:List D):(pm μ0 W V).set μ0.length (.lst L)=pm μ0 L V:=by
 unfold pm
 rw [List.set_append_right _ _ (Nat.le_refl _),Nat.sub_self]
 rfl
theorem a52 (L:List D):(pm μ0 W V).set (μ0.length + 1) (.lst L)=pm μ0 W L:=by
 unfold pm
 rw [List.set_append_right _ _ (by omega),show μ0.length + 1 - μ0.length=1 by omega]
 rfl
theorem pop_v (h:mo ρ (pm μ0 W (V++[y]))=.ok (.ref (μ0.length + 1)) (pm μ0 W (V++[y]))):an2 mo ρ (pm μ0 W (V++[y]))=.ok y (pm μ0 W V):=by
 unfold an2
 rw [h,bind_ok]
 unfold ay5
 dsimp only
 rw [aj3]
 dsimp only
 rw [List.length_append,List.length_singleton,Nat.add_sub_cancel,List.getElem?_append_right (Nat.le_refl _),Nat.sub_self]
 show Res.ok y ((pm μ0 W (V++[y])).set (μ0.length + 1) (.lst (V++[y]).dropLast))=_
 rw [a52,List.dropLast_concat]
theorem app_v {V':List D} (h:mo ρ (pm μ0 W V)=.ok (.ref (μ0.length + 1)) (pm μ0 W V)) (hm:m ρ (pm μ0 W V)=.ok y (pm μ0 W V')) (hl:V'.length < 16777216):um (U6 mo m) ρ (pm μ0 W V)=.ok (.nx ρ) (pm μ0 W (V'++[y])):=by
 unfold um U6
 rw [h,bind_ok,aF5,if_pos (show Wm (D.lst _)=true from rfl),hm,bind_ok]
 unfold a30
 dsimp only
 rw [aj3]
 dsimp only
 rw [if_pos hl,a52]
 rfl
theorem app_w (h:mo ρ (pm μ0 W V)=.ok (.ref μ0.length) (pm μ0 W V)) (hm:m ρ (pm μ0 W V)=.ok y (pm μ0 W V)) (hl:W.length < 16777216):um (U6 mo m) ρ (pm μ0 W V)=.ok (.nx ρ) (pm μ0 (W++[y]) V):=by
 unfold um U6
 rw [h,bind_ok,aF4,if_pos (show Wm (D.lst _)=true from rfl),hm,bind_ok]
 unfold a30
 dsimp only
 rw [aK9]
 dsimp only
 rw [if_pos hl,aJ5]
 rfl
theorem ext_v {L:List D} (h:mo ρ (pm μ0 W V)=.ok (.ref (μ0.length + 1)) (pm μ0 W V)) (hm:m ρ (pm μ0 W V)=.ok (.lst L) (pm μ0 W V)) (hl:V.length + L.length≤16777216):um (Q5 mo m) ρ (pm μ0 W V)=.ok (.nx ρ) (pm μ0 W (V++L)):=by
 unfold um Q5
 rw [h,bind_ok,aF5,if_pos (show Wm (D.lst _)=true from rfl),hm,bind_ok]
 unfold ao9
 dsimp only
 rw [aj3]
 show Res.bind (if V.length + L.length≤16777216 then _ else _) _=_
 rw [if_pos hl,a52]
 rfl
theorem len_w {ρ:En} {x:Nat} (h:ρ[x]? =some (some (.ref μ0.length))):jm uj (mCons (mVar x) mNil) ρ (pm μ0 W V)=.ok (.int W.length) (pm μ0 W V):=by
 refine uq (v_cons (v_var x h) v_nil) ?_
 show uj [j8 (pm μ0 W V) (.ref μ0.length)]=_
 rw [aF4]
 rfl
theorem as3 {ρ:En} {x:Nat} (h:ρ[x]? =some (some (.ref (μ0.length + 1)))):jm uj (mCons (mVar x) mNil) ρ (pm μ0 W V)=.ok (.int V.length) (pm μ0 W V):=by
 refine uq (v_cons (v_var x h) v_nil) ?_
 show uj [j8 (pm μ0 W V) (.ref (μ0.length + 1))]=_
 rw [aF5]
 rfl
end
end K20
set_option Elab.async false
set_option linter.all false
set_option maxRecDepth 100000
set_option maxHeartbeats 400000
namespace K20
open PySem PySem.Spec PyProof.Rows L2 M
noncomputable abbrev ah2 (k:Int):D:=.tup [.str Zc,.int k]
noncomputable abbrev ah3:D:=.tup [.str yz]
noncomputable abbrev Jk:D:=.tup [.str w_tax]
noncomputable abbrev zb (z:Int):D:=.tup [.str Uj,.int z,.str w_x,.int 0]
noncomputable abbrev Jr (s:Nat):D:=.tup [.str w_keep,.int s]
noncomputable abbrev jg (s:Nat):D:=.tup [.str U5,.int s]
noncomputable abbrev Y6 (x:List Nat):D:=.tup [.str Zb,.str x]
noncomputable abbrev ba (n:Nat):D:=.tup [.str Uw,.int n]
noncomputable abbrev ax1 (t:List Nat) (y n:Nat):D:=.tup [.str yg,.str t,.int y,.int n]
noncomputable abbrev a58 (k:Int):D:=.tup [.str ue,.int k]
noncomputable def row (x:List Nat):List Nat×Bool:=if x=uh then (u6,true) else if x=Jm then (u6,false) else if x=J1 then (J1,true) else if x=U1 then (J1,false) else if x=jd then (jd,true) else (jd,false)
noncomputable def wx (x:List Nat) (y n:Nat):D:=if (row x).2 then ax1 (row x).1 y n else ax1 (row x).1 n y
noncomputable abbrev Cd:=List (D×Nat)
noncomputable def cN:N→Nat→Cd
 | .num k,s=>[(ah2 k,s)]
 | .len,s=>[(ah3,s)]
 | .load z a,s=>cN a s++[(Jk,s),(zb z,s)]
 | .op x a b,s=>cN a s++(Jr s,s)::(cN b (s + 1)++[(Jk,s + 1),(jg s,s + 1),(Y6 x,s)])
noncomputable def cT:B→Nat→Nat→Cd→Cd
 | .tru b,y,n,C=>(ba (C.length - (if b then y else n)),0)::C
 | .nt a,y,n,C=>cT a n y C
 | .both a b,y,n,C=>cT a (cT b y n C).length n (cT b y n C)
 | .eith a b,y,n,C=>cT a y (cT b y n C).length (cT b y n C)
 | .cmp x a b,y,n,C=>cN a 0++(Jr 0,0)::(cN b 1++(Jk,1)::(jg 0,1)::(wx x (C.length - y) (C.length - n),0)::C)
noncomputable def N.need:N→Nat
 | .num _=>0
 | .len=>0
 | .load _ a=>a.need
 | .op _ a b=>max a.need (1 + b.need)
noncomputable def B.fits:B→Prop
 | .tru _=>True
 | .nt a=>a.fits
 | .both a b=>a.fits∧b.fits
 | .eith a b=>a.fits∧b.fits
 | .cmp _ a b=>a.need≤8∧b.need≤7
noncomputable def N.co:N→Nat
 | .num _=>2
 | .len=>2
 | .load _ a=>a.co + 3
 | .op _ a b=>a.co + b.co + 5
noncomputable def B.co:B→Nat
 | .tru _=>1
 | .nt a=>a.co + 1
 | .both a b=>a.co + b.co + 2
 | .eith a b=>a.co + b.co + 2
 | .cmp _ a b=>a.co + b.co + 4
noncomputable def md (C:Cd):List D:=(C.map Prod.fst).reverse
theorem fg (d:D) (k:Nat) (C:Cd):md ((d,k)::C)=md C++[d]:=by unfold md;rw [List.map_cons,List.reverse_cons]
theorem md_len (C:Cd):(md C).length=C.length:=by unfold md;rw [List.length_reverse,List.length_map]
noncomputable abbrev kS (d:D):D:=.tup [.str Yj,d]
noncomputable abbrev kN (a:D) (s:Nat):D:=.tup [.str js,a,.int s]
noncomputable abbrev kT (b:D) (y n:Nat):D:=.tup [.str ut,b,.int y,.int n]
noncomputable abbrev kF (b:D) (y n:Nat):D:=.tup [.str Gh,b,.int y,.int n]
noncomputable abbrev tC:MB:=mTest (mBin gGt (jm uj (mCons (mVar 2) mNil)) (mC (.int 0)))
noncomputable abbrev eC (t0:Option D) (μ0:Mu) (x3:Option D):En:=[t0,some (.ref μ0.length),some (.ref (μ0.length + 1)),x3]
noncomputable def CR (t0:Option D) (μ0:Mu) (c:Nat) (C:Cd) (W:List D) (C':Cd) (W':List D):Prop:=∀ k x3,∃ x3',Zj tC Ut (k + c) (eC t0 μ0 x3) (pm μ0 (md C) W)=Zj tC Ut k (eC t0 μ0 x3') (pm μ0 (md C') W')
section
variable {t0:Option D} {μ0:Mu} {W W' W2:List D} {C C' C2:Cd} {c c1 c2:Nat}
theorem CR.then (a:CR t0 μ0 c1 C W C' W') (b:CR t0 μ0 c2 C' W' C2 W2):CR t0 μ0 (c1 + c2) C W C2 W2:=fun k x3=>by
 obtain ⟨y3,e1⟩:=a (k + c2) x3
 obtain ⟨z3,e2⟩:=b k y3
 exact ⟨z3,by rw [show k + (c1 + c2)=k + c2 + c1 by omega,e1,e2]⟩
theorem ac {t:D} (h:∀ x3,Ut (eC t0 μ0 x3) (pm μ0 (md C) (W++[t]))=.ok (.nx (eC t0 μ0 (some t))) (pm μ0 (md C') W')):CR t0 μ0 1 C (W++[t]) C' W':=fun k x3=>by
 refine ⟨some t,?_⟩
 have tt:tC (eC t0 μ0 x3) (pm μ0 (md C) (W++[t]))=.ok true (pm μ0 (md C) (W++[t])):=by
  refine ji (v_bin (as3 rfl) rfl ?_)
  rw [deref_int,deref_int,Cp,decide_eq_true (by rw [List.length_append,List.length_singleton];omega)]
 rw [Zj,tt,bind_ok,if_pos rfl,h]
 rfl
theorem W7 (d:D) (k:Nat) (hl:C.length < 10000):CR t0 μ0 1 C (W++[kS d]) ((d,k)::C) W:=ac fun x3=>by
 rw [fg]
 exact (v_set 3 (pop_v rfl)).trans ((v_iteT rfl).trans (app_w rfl rfl (by rw [md_len];omega)))
theorem aa {a:D} {s:Nat} {L:List D} (e:∀ μ,Uf [a,.int s] μ=.ok (.lst L) μ) (hl:W.length + L.length≤10000):CR t0 μ0 1 C (W++[kN a s]) C (W++L):=ac fun x3 =>
 (v_set 3 (pop_v rfl)).trans ((v_iteF rfl).trans ((v_iteT rfl).trans (ext_v rfl (v_call rfl (e _)) (by omega))))
theorem Dk {b:D} {y n:Nat} (e:Yc [b,.int y,.int n,.ref μ0.length,.ref (μ0.length + 1)] (pm μ0 (md C) W)=.ok .non (pm μ0 (md C') W')):CR t0 μ0 1 C (W++[kT b y n]) C' W':=ac fun x3 =>
 (v_set 3 (pop_v rfl)).trans ((v_iteF rfl).trans ((v_iteF rfl).trans ((v_iteT rfl).trans (v_drop (v_call rfl e)))))
theorem Bz {x:List Nat} {a b:D} {s:Nat} (hs:s < 8) (μ:Mu):U9 [.tup [.str x,a,b],.int s] μ=.ok (.lst [kN a s,kS (Jr s),kN b (s + 1),kS Jk,kS (jg s)]) μ:=by
 refine jj 0 ((v_skip (ji (v_bin (y:=.int 8) rfl rfl ?_))).trans (v_ret (b8 (v_cons (d:=kN a s) rfl (v_cons (d:=kS (Jr s)) rfl (v_cons (d:=kN b (s + 1)) rfl (v_cons (d:=kS Jk) rfl (v_cons (d:=kS (jg s)) rfl v_nil))))))))
 rw [deref_int,deref_int,Fu,decide_eq_false (by omega)]
theorem opO:∀ x∈opL,gIn (.str x) c_OPS=some (.bl true):=ww ⟨rfl,rfl,rfl,rfl,rfl,rfl,rfl,rfl,rfl,rfl⟩
theorem ku:∀ (a:N) (s:Nat) (C:Cd) (W:List D),a.ok→s + a.need≤8→C.length + a.co≤9000→W.length + 2 * a.co≤9000→CR t0 μ0 a.co C (W++[kN a.d s]) (cN a s++C) W∧(cN a s).length≤a.co
 | .num k,s,C,W,h,hs,hc,hw=>⟨(aa (L:=[kS (ah2 k)]) (fun μ=>jj 0 (v_take rfl rfl)) (by simp only [N.co] at hw;simp;omega)).then (W7 _ s (by simp only [N.co] at hc;omega)),by simp [cN,N.co]⟩
 | .len,s,C,W,h,hs,hc,hw=>⟨(aa (L:=[kS ah3]) (fun μ=>jj 0 ((v_skip rfl).trans ((v_skip rfl).trans ((v_skip rfl).trans rfl)))) (by simp only [N.co] at hw;simp;omega)).then (W7 _ s (by simp only [N.co] at hc;omega)),by simp [cN,N.co]⟩
 | .load z a,s,C,W,h,hs,hc,hw=>by
  simp only [N.co] at hc hw
  obtain ⟨ra,la⟩:=ku a s ((Jk,s)::(zb z,s)::C) W h.2 hs (by simp;omega) (by omega)
  have r1:CR t0 μ0 1 C (W++[kN (N.load z a).d s]) C (W++[kN a.d s,kS Jk,kS (zb z)]):=aa (fun μ=>jj 0 ((v_skip rfl).trans (v_take rfl rfl))) (by simp;omega)
  have r2:CR t0 μ0 1 C (W++[kN a.d s,kS Jk,kS (zb z)]) ((zb z,s)::C) (W++[kN a.d s,kS Jk]):=by
   have:=W7 (t0:=t0) (μ0:=μ0) (C:=C) (W:=W++[kN a.d s,kS Jk]) (zb z) s (by omega)
   simpa using this
  have r3:CR t0 μ0 1 ((zb z,s)::C) (W++[kN a.d s,kS Jk]) ((Jk,s)::(zb z,s)::C) (W++[kN a.d s]):=by
   have:=W7 (t0:=t0) (μ0:=μ0) (C:=(zb z,s)::C) (W:=W++[kN a.d s]) Jk s (by simp;omega)
   simpa using this
  refine ⟨?_,by simp only [cN,N.co,List.length_append,List.length_cons,List.length_nil];omega⟩
  have:=((r1.then r2).then r3).then ra
  simp only [cN,N.co,List.append_assoc,List.cons_append,List.nil_append]
  rw [show a.co + 3=1 + 1 + 1 + a.co by omega]
  exact this
 | .op x a b,s,C,W,h,hs,hc,hw=>by
  simp only [N.co] at hc hw
  have hn:max a.need (1 + b.need) + s≤8:=by simp only [N.need] at hs;omega
  obtain ⟨rb,lb⟩:=ku b (s + 1) ((Jk,s + 1)::(jg s,s + 1)::(Y6 x,s)::C) (W++[kN a.d s,kS (Jr s)]) h.2.2 (by omega) (by simp;omega) (by simp;omega)
  obtain ⟨ra,la⟩:=ku a s ((Jr s,s)::(cN b (s + 1)++(Jk,s + 1)::(jg s,s + 1)::(Y6 x,s)::C)) W h.2.1 (by omega) (by simp;omega) (by omega)
  obtain ⟨o1,o2,o3⟩:=opN x h.1
  have r1:CR t0 μ0 1 C (W++[kN (N.op x a b).d s]) C (W++([kN a.d s,kS (Jr s),kN b.d (s + 1),kS Jk,kS (jg s)]++[kS (Y6 x)])):=by
   refine aa (fun μ=>?_) (by simp;omega)
   refine jj 0 ((v_skip (ji (v_bin (x:=.str x) (v_bin (x:=.tup [.str x,a.d,b.d]) rfl rfl (Yw _ _)) rfl o1))).trans ((v_skip (ji (v_bin (x:=.str x) (v_bin (x:=.tup [.str x,a.d,b.d]) rfl rfl (Yw _ _)) rfl o3))).trans (v_take (ji (v_bin (x:=.str x) (v_bin (x:=.tup [.str x,a.d,b.d]) rfl rfl (Yw _ _)) rfl (opO x h.1))) (v_bin (x:=.lst [kN a.d s,kS (Jr s),kN b.d (s + 1),kS Jk,kS (jg s)]) (y:=.lst [kS (Y6 x)]) (v_call rfl (Bz (by omega) μ)) (b8 (v_cons (v_tup (v_cons rfl (v_cons (v_tup (v_cons rfl (v_cons (v_bin (x:=.tup [.str x,a.d,b.d]) rfl rfl (Yw _ _)) v_nil))) v_nil))) v_nil)) rfl))))
  have st:∀ (W0:List D) (d:D) (k:Nat) (C0:Cd),C0.length < 10000→CR t0 μ0 1 C0 (W0++[kS d]) ((d,k)::C0) W0:=fun W0 d k C0 hl=>W7 d k hl
  have r2:CR t0 μ0 1 C (W++([kN a.d s,kS (Jr s),kN b.d (s + 1),kS Jk,kS (jg s)]++[kS (Y6 x)])) ((Y6 x,s)::C) (W++[kN a.d s,kS (Jr s),kN b.d (s + 1),kS Jk,kS (jg s)]):=by
   have:=st (W++[kN a.d s,kS (Jr s),kN b.d (s + 1),kS Jk,kS (jg s)]) (Y6 x) s C (by omega)
   simpa using this
  have r3:CR t0 μ0 1 ((Y6 x,s)::C) (W++[kN a.d s,kS (Jr s),kN b.d (s + 1),kS Jk,kS (jg s)]) ((jg s,s + 1)::(Y6 x,s)::C) (W++[kN a.d s,kS (Jr s),kN b.d (s + 1),kS Jk]):=by
   have:=st (W++[kN a.d s,kS (Jr s),kN b.d (s + 1),kS Jk]) (jg s) (s + 1) ((Y6 x,s)::C) (by simp;omega)
   simpa using this
  have r4:CR t0 μ0 1 ((jg s,s + 1)::(Y6 x,s)::C) (W++[kN a.d s,kS (Jr s),kN b.d (s + 1),kS Jk]) ((Jk,s + 1)::(jg s,s + 1)::(Y6 x,s)::C) (W++[kN a.d s,kS (Jr s),kN b.d (s + 1)]):=by
   have:=st (W++[kN a.d s,kS (Jr s),kN b.d (s + 1)]) Jk (s + 1) ((jg s,s + 1)::(Y6 x,s)::C) (by simp;omega)
   simpa using this
  have r5:CR t0 μ0 b.co ((Jk,s + 1)::(jg s,s + 1)::(Y6 x,s)::C) (W++[kN a.d s,kS (Jr s),kN b.d (s + 1)]) (cN b (s + 1)++(Jk,s + 1)::(jg s,s + 1)::(Y6 x,s)::C) (W++[kN a.d s,kS (Jr s)]):=by simpa using rb
  have r6:CR t0 μ0 1 (cN b (s + 1)++(Jk,s + 1)::(jg s,s + 1)::(Y6 x,s)::C) (W++[kN a.d s,kS (Jr s)]) ((Jr s,s)::(cN b (s + 1)++(Jk,s + 1)::(jg s,s + 1)::(Y6 x,s)::C)) (W++[kN a.d s]):=by
   have:=st (W++[kN a.d s]) (Jr s) s (cN b (s + 1)++(Jk,s + 1)::(jg s,s + 1)::(Y6 x,s)::C) (by simp;omega)
   simpa using this
  refine ⟨?_,by simp only [cN,N.co,List.length_append,List.length_cons,List.length_nil];omega⟩
  have:=(((((r1.then r2).then r3).then r4).then r5).then r6).then ra
  simp only [cN,N.co,List.append_assoc,List.cons_append,List.nil_append]
  rw [show a.co + b.co + 5=1 + 1 + 1 + 1 + b.co + 1 + a.co by omega]
  exact this
end
end K20
set_option Elab.async false
set_option linter.all false
set_option maxRecDepth 100000
set_option maxHeartbeats 400000
namespace K20
open PySem PySem.Spec PyProof.Rows L2 M
section
variable {t0:Option D} {μ0:Mu} {W:List D} {C:Cd}
theorem v9 {y n:Nat} (h:n≤y):yu (.int y) (.int n)=some (.int ((y - n:Nat):Int)):=by
 show some (D.int ((y:Int) - n))=_
 rw [Int.ofNat_sub h]
theorem av6 {x:List Nat} (hx:x∈cpL) (y n:Nat) (μ:Mu):Y0 [.str x,.int y,.int n] μ=.ok (wx x y n) μ:=by
 revert hx
 revert x
 show ∀ x∈cpL,_
 exact W5 ⟨jj 1 ((v_set 3 (d:=.tup [.str u6,.bl true]) rfl).trans (v_take rfl rfl)),jj 1 ((v_set 3 (d:=.tup [.str u6,.bl false]) rfl).trans ((v_skip rfl).trans rfl)),jj 1 ((v_set 3 (d:=.tup [.str jd,.bl false]) rfl).trans ((v_skip rfl).trans rfl)),jj 1 ((v_set 3 (d:=.tup [.str J1,.bl true]) rfl).trans (v_take rfl rfl)),jj 1 ((v_set 3 (d:=.tup [.str J1,.bl false]) rfl).trans ((v_skip rfl).trans rfl)),jj 1 ((v_set 3 (d:=.tup [.str jd,.bl true]) rfl).trans (v_take rfl rfl))⟩
theorem cpM:∀ x∈cpL,gEq (.str x) (.str ut)=some (.bl false)∧gEq (.str x) (.str w_not)=some (.bl false)∧gIn (.str x) (.tup [.str Jb,.str Jw])=some (.bl false):=W5 ⟨⟨rfl,rfl,rfl⟩,⟨rfl,rfl,rfl⟩,⟨rfl,rfl,rfl⟩,⟨rfl,rfl,rfl⟩,⟨rfl,rfl,rfl⟩,⟨rfl,rfl,rfl⟩⟩
theorem A0 {b:D} {y n:Nat} {t:D} (e:∀ μ,yn [b,.int y,.int n,.int C.length] μ=.ok t μ) (hl:W.length < 10000):CR t0 μ0 1 C (W++[kF b y n]) C (W++[t]):=ac fun x3=>by
 refine (v_set 3 (pop_v rfl)).trans ((v_iteF rfl).trans ((v_iteF rfl).trans ((v_iteF rfl).trans (app_v rfl (v_call (v_cons rfl (v_cons rfl (v_cons rfl (v_cons (len_w rfl) v_nil)))) ?_) (by omega)))))
 rw [md_len]
 exact e _
theorem Vt:∀ (b:B) (y n:Nat) (C:Cd) (W:List D),b.ok→b.fits→y≤C.length→n≤C.length→C.length + b.co≤9000→W.length + 2 * b.co≤9000→CR t0 μ0 b.co C (W++[kT b.d y n]) (cT b y n C) W∧C.length≤(cT b y n C).length∧(cT b y n C).length≤C.length + b.co
 | .tru b,y,n,C,W,h,hf,hy,hn,hc,hw=>by
  refine ⟨Dk ?_,by simp [cT],by simp [cT,B.co]⟩
  simp only [cT]
  rw [fg]
  cases b with
  | true=>exact zh 0 ((v_iteT rfl).trans (app_w rfl (v_tup (v_cons rfl (v_cons (v_bin (len_w rfl) ((v_ifT rfl).trans rfl) (by rw [md_len];exact v9 hy)) v_nil))) (by rw [md_len];omega)))
  | false=>exact zh 0 ((v_iteT rfl).trans (app_w rfl (v_tup (v_cons rfl (v_cons (v_bin (len_w rfl) ((v_ifF rfl).trans rfl) (by rw [md_len];exact v9 hn)) v_nil))) (by rw [md_len];omega)))
 | .nt a,y,n,C,W,h,hf,hy,hn,hc,hw=>by
  simp only [B.co] at hc hw ⊢
  obtain ⟨ra,l1,l2⟩:=Vt a n y C W h hf hn hy (by omega) (by omega)
  have r1:CR t0 μ0 1 C (W++[kT (B.nt a).d y n]) C (W++[kT a.d n y]):=Dk (zh 0 ((v_iteF rfl).trans ((v_iteT rfl).trans (app_v rfl rfl (by omega)))))
  refine ⟨?_,l1,by simp only [cT];omega⟩
  rw [Nat.add_comm]
  exact r1.then ra
 | .both a b,y,n,C,W,h,hf,hy,hn,hc,hw=>by
  simp only [B.co] at hc hw ⊢
  obtain ⟨rb,l1,l2⟩:=Vt b y n C (W++[kF (B.both a b).d y n]) h.2 hf.2 hy hn (by omega) (by simp;omega)
  obtain ⟨ra,l3,l4⟩:=Vt a (cT b y n C).length n (cT b y n C) W h.1 hf.1 (Nat.le_refl _) (by omega) (by omega) (by omega)
  have r1:CR t0 μ0 1 C (W++[kT (B.both a b).d y n]) C (W++[kF (B.both a b).d y n]++[kT b.d y n]):=by
   rw [List.append_assoc]
   exact Dk (zh 0 ((v_iteF rfl).trans ((v_iteF rfl).trans ((v_iteT rfl).trans (ext_v rfl rfl (by simp;omega))))))
  have r3:CR t0 μ0 1 (cT b y n C) (W++[kF (B.both a b).d y n]) (cT b y n C) (W++[kT a.d (cT b y n C).length n]):=A0 (fun μ=>jj 0 (v_take rfl rfl)) (by omega)
  refine ⟨?_,by simp only [cT];omega,by simp only [cT];omega⟩
  have:=((r1.then rb).then r3).then ra
  rw [show a.co + b.co + 2=1 + b.co + 1 + a.co by omega]
  exact this
 | .eith a b,y,n,C,W,h,hf,hy,hn,hc,hw=>by
  simp only [B.co] at hc hw ⊢
  obtain ⟨rb,l1,l2⟩:=Vt b y n C (W++[kF (B.eith a b).d y n]) h.2 hf.2 hy hn (by omega) (by simp;omega)
  obtain ⟨ra,l3,l4⟩:=Vt a y (cT b y n C).length (cT b y n C) W h.1 hf.1 (by omega) (Nat.le_refl _) (by omega) (by omega)
  have r1:CR t0 μ0 1 C (W++[kT (B.eith a b).d y n]) C (W++[kF (B.eith a b).d y n]++[kT b.d y n]):=by
   rw [List.append_assoc]
   exact Dk (zh 0 ((v_iteF rfl).trans ((v_iteF rfl).trans ((v_iteT rfl).trans (ext_v rfl rfl (by simp;omega))))))
  have r3:CR t0 μ0 1 (cT b y n C) (W++[kF (B.eith a b).d y n]) (cT b y n C) (W++[kT a.d y (cT b y n C).length]):=A0 (fun μ=>jj 0 ((v_skip rfl).trans rfl)) (by omega)
  refine ⟨?_,by simp only [cT];omega,by simp only [cT];omega⟩
  have:=((r1.then rb).then r3).then ra
  rw [show a.co + b.co + 2=1 + b.co + 1 + a.co by omega]
  exact this
 | .cmp x a b,y,n,C,W,h,hf,hy,hn,hc,hw=>by
  simp only [B.co] at hc hw ⊢
  obtain ⟨m1,m2,m3⟩:=cpM x h.1
  let T:D×Nat:=(wx x (C.length - y) (C.length - n),0)
  obtain ⟨rb,lb⟩:=ku (t0:=t0) (μ0:=μ0) b 1 ((Jk,1)::(jg 0,1)::T::C) (W++[kN a.d 0,kS (Jr 0)]) h.2.2 (by have:=hf.2;omega) (by simp;omega) (by simp;omega)
  obtain ⟨ra,la⟩:=ku (t0:=t0) (μ0:=μ0) a 0 ((Jr 0,0)::(cN b 1++(Jk,1)::(jg 0,1)::T::C)) W h.2.1 (by have:=hf.1;omega) (by simp;omega) (by omega)
  have st:∀ (W0:List D) (d:D) (k:Nat) (C0:Cd),C0.length < 10000→CR t0 μ0 1 C0 (W0++[kS d]) ((d,k)::C0) W0:=fun W0 d k C0 hl=>W7 d k hl
  have r1:CR t0 μ0 1 C (W++[kT (B.cmp x a b).d y n]) (T::C) (W++[kN a.d 0,kS (Jr 0),kN b.d 1,kS Jk,kS (jg 0)]):=by
   refine Dk ?_
   rw [fg]
   refine zh 0 ((v_iteF (ji (v_bin (x:=.str x) (v_bin (x:=.tup [.str x,a.d,b.d]) rfl rfl (Yw _ _)) rfl m1))).trans ((v_iteF (ji (v_bin (x:=.str x) (v_bin (x:=.tup [.str x,a.d,b.d]) rfl rfl (Yw _ _)) rfl m2))).trans ((v_iteF (ji (v_bin (x:=.str x) (v_bin (x:=.tup [.str x,a.d,b.d]) rfl rfl (Yw _ _)) rfl m3))).trans ((v_seqN (app_w rfl (v_call (v_cons (v_bin (x:=.tup [.str x,a.d,b.d]) rfl rfl (Yw _ _)) (v_cons (v_bin (len_w rfl) rfl (by rw [md_len];exact v9 hy)) (v_cons (v_bin (len_w rfl) rfl (by rw [md_len];exact v9 hn)) v_nil))) (av6 h.1 _ _ _)) (by rw [md_len];omega))).trans (ext_v rfl (v_call rfl (Bz (s:=0) (by decide) _)) (by simp;omega))))))
  have r3:CR t0 μ0 1 (T::C) (W++[kN a.d 0,kS (Jr 0),kN b.d 1,kS Jk,kS (jg 0)]) ((jg 0,1)::T::C) (W++[kN a.d 0,kS (Jr 0),kN b.d 1,kS Jk]):=by
   have:=st (W++[kN a.d 0,kS (Jr 0),kN b.d 1,kS Jk]) (jg 0) 1 (T::C) (by simp;omega)
   simpa using this
  have r4:CR t0 μ0 1 ((jg 0,1)::T::C) (W++[kN a.d 0,kS (Jr 0),kN b.d 1,kS Jk]) ((Jk,1)::(jg 0,1)::T::C) (W++[kN a.d 0,kS (Jr 0),kN b.d 1]):=by
   have:=st (W++[kN a.d 0,kS (Jr 0),kN b.d 1]) Jk 1 ((jg 0,1)::T::C) (by simp;omega)
   simpa using this
  have r5:CR t0 μ0 b.co ((Jk,1)::(jg 0,1)::T::C) (W++[kN a.d 0,kS (Jr 0),kN b.d 1]) (cN b 1++(Jk,1)::(jg 0,1)::T::C) (W++[kN a.d 0,kS (Jr 0)]):=by simpa using rb
  have r6:CR t0 μ0 1 (cN b 1++(Jk,1)::(jg 0,1)::T::C) (W++[kN a.d 0,kS (Jr 0)]) ((Jr 0,0)::(cN b 1++(Jk,1)::(jg 0,1)::T::C)) (W++[kN a.d 0]):=by
   have:=st (W++[kN a.d 0]) (Jr 0) 0 (cN b 1++(Jk,1)::(jg 0,1)::T::C) (by simp;omega)
   simpa using this
  refine ⟨?_,by simp only [cT,List.length_append,List.length_cons];omega,by simp only [cT,List.length_append,List.length_cons];omega⟩
  have:=((((r1.then r3).then r4).then r5).then r6).then ra
  rw [show a.co + b.co + 4=1 + 1 + 1 + b.co + 1 + a.co by omega]
  exact this
noncomputable def C0:Cd:=[(a58 1,0),(a58 0,0)]
noncomputable abbrev Je (b:B):Cd:=cT b 2 1 C0
theorem Dn {b:B} (h:b.ok) (hf:b.fits) (hc:b.co≤2000) (μ:Mu):∃ μ',Yq [b.d] μ=.ok (.lst ((Je b).map Prod.fst)) μ':=by
 obtain ⟨r,_,_⟩:=Vt (t0:=some b.d) (μ0:=μ) b 2 1 C0 [] h hf (by decide) (by decide) (by simp [C0];omega) (by simp;omega)
 obtain ⟨x3,e⟩:=r (3000 - b.co) none
 rw [show 3000 - b.co + b.co=3000 by omega] at e
 obtain ⟨q,hq⟩:∃ q,3000 - b.co=q + 1:=⟨3000 - b.co - 1,by omega⟩
 have tt:tC (eC (some b.d) μ x3) (pm μ (md (Je b)) [])=.ok false (pm μ (md (Je b)) []):=by
  refine ji (v_bin (as3 rfl) rfl ?_)
  rfl
 have e2:Zj tC Ut (3000 - b.co) (eC (some b.d) μ x3) (pm μ (md (Je b)) [])=.ok (.nx (eC (some b.d) μ x3)) (pm μ (md (Je b)) []):=by
  rw [hq,Zj,tt]
  rfl
 have e0:∀ {r:MSt},(jz (Js 1 (Wp (mCons (ja (mCons (mC (.str ue)) (mCons (mC (.int 0)) mNil))) (mCons (ja (mCons (mC (.str ue)) (mCons (mC (.int 1)) mNil))) mNil)))) (jz (Js 2 (Wp (mCons (ja (mCons (mC (.str ut)) (mCons (mVar 0) (mCons (mC (.int 2)) (mCons (mC (.int 1)) mNil))))) mNil))) r)) [some b.d,none,none,none] μ=r (eC (some b.d) μ none) (pm μ (md C0) [kT b.d 2 1]):=fun {r}=>by
  refine (v_set 1 (d:=.ref μ.length) (μ1:=μ++[.lst (md C0)]) rfl).trans ((v_set 2 (d:=.ref (μ.length + 1)) (μ1:=pm μ (md C0) [kT b.d 2 1]) ?_).trans rfl)
  unfold Wp pm
  show Res.ok (D.ref (μ++[Cell.lst (md C0)]).length) (μ++[Cell.lst (md C0)]++[.lst [kT b.d 2 1]])=_
  rw [List.length_append,List.append_assoc]
  rfl
 refine ⟨pm μ (md (Je b)) [],jj 3 (e0.trans ((v_seqN (e.trans e2)).trans (v_ret ?_)))⟩
 unfold Xy
 rw [v_var 1 rfl,bind_ok,aF4]
 show ofO _ (some (D.lst (md (Je b)).reverse))=_
 unfold md
 rw [List.reverse_reverse]
 rfl
end
end K20
set_option Elab.async false
set_option linter.all false
set_option maxRecDepth 100000
set_option maxHeartbeats 400000
namespace K20
open PySem PySem.Spec PyProof.Rows L2 M
noncomputable def St1 (k:Nat) (v:Vw) (r:Cd):Prop:=(∀ s,v=.ft s→s < k)∧∀ g∈v.goals 0,∃ e,r[g - 1]? =some e∧(e.2≤k∨(v=.kp k∧e.2≤k + 1))
noncomputable def WF:Cd→Prop
 | []=>True
 | e::r=>WF r∧∃ v,Sh e.1 v∧St1 e.2 v r
theorem Uy {d:D} {k:Nat} {v:Vw} {C:Cd} (hs:Sh d v) (hv:v.goals 0=[1]) (hf:∀ s,v=.ft s→s < k) (hC:WF C) {e:D×Nat} (h0:C[0]? =some e) (he:e.2≤k∨(v=.kp k∧e.2≤k + 1)):WF ((d,k)::C) :=
 ⟨hC,v,hs,hf,fun g hg=>by
  rw [hv,List.mem_singleton] at hg
  subst hg
  exact ⟨e,h0,he⟩⟩
theorem Xj:∀ (a:N) (s:Nat) (C:Cd),∃ d,(cN a s++C)[0]? =some (d,s)
 | .num k,s,C=>⟨_,rfl⟩
 | .len,s,C=>⟨_,rfl⟩
 | .load z a,s,C=>by
  simp only [cN,List.append_assoc]
  exact Xj a s _
 | .op x a b,s,C=>by
  simp only [cN,List.append_assoc]
  exact Xj a s _
theorem opT {x:List Nat} (h:x∈opL):PlK .op (.str x):=.op h
theorem V5:∀ (a:N) (s:Nat) (C:Cd),a.ok→s + a.need≤8→WF C→(∃ e,C[0]? =some e∧e.2≤s)→WF (cN a s++C)
 | .num k,s,C,h,hs,hC,⟨e,h0,he⟩=>Uy (.set (.num h.1 h.2)) rfl (fun _ z=>by cases z) hC h0 (.inl he)
 | .len,s,C,h,hs,hC,⟨e,h0,he⟩=>Uy .len rfl (fun _ z=>by cases z) hC h0 (.inl he)
 | .load z a,s,C,h,hs,hC,⟨e,h0,he⟩=>by
  simp only [cN,List.append_assoc,List.cons_append,List.nil_append]
  have w1:WF ((zb z,s)::C):=Uy (.load (.size h.1) (.base (by simp [atx])) (.num (by decide) (by decide))) rfl (fun _ z=>by cases z) hC h0 (.inl he)
  have w2:WF ((Jk,s)::(zb z,s)::C):=Uy .tax rfl (fun _ z=>by cases z) w1 rfl (.inl (Nat.le_refl _))
  exact V5 a s _ h.2 hs w2 ⟨_,rfl,Nat.le_refl _⟩
 | .op x a b,s,C,h,hs,hC,⟨e,h0,he⟩=>by
  simp only [cN,List.append_assoc,List.cons_append,List.nil_append]
  have hn:max a.need (1 + b.need) + s≤8:=by simp only [N.need] at hs;omega
  have w1:WF ((Y6 x,s)::C):=Uy (.dox (opT h.1)) rfl (fun _ z=>by cases z) hC h0 (.inl he)
  have w2:WF ((jg s,s + 1)::(Y6 x,s)::C):=Uy (.fetch (by omega)) rfl (fun t z=>by cases z;omega) w1 rfl (.inl (Nat.le_succ _))
  have w3:WF ((Jk,s + 1)::(jg s,s + 1)::(Y6 x,s)::C):=Uy .tax rfl (fun _ z=>by cases z) w2 rfl (.inl (Nat.le_refl _))
  have w4:=V5 b (s + 1) _ h.2.2 (by omega) w3 ⟨_,rfl,Nat.le_refl _⟩
  obtain ⟨d,hd⟩:=Xj b (s + 1) ((Jk,s + 1)::(jg s,s + 1)::(Y6 x,s)::C)
  have w5:WF ((Jr s,s)::(cN b (s + 1)++(Jk,s + 1)::(jg s,s + 1)::(Y6 x,s)::C)):=Uy (.keep (by omega)) rfl (fun _ z=>by cases z) w4 hd (.inr ⟨rfl,Nat.le_refl _⟩)
  exact V5 a s _ h.2.1 (by omega) w5 ⟨_,rfl,Nat.le_refl _⟩
noncomputable def Ze (C:Cd) (y:Nat):Prop:=1≤y∧y≤C.length∧∃ d,C[C.length - y]? =some (d,0)
theorem Ze.cons {C:Cd} {y:Nat} (h:Ze C y) (e:D×Nat):Ze (e::C) y:=by
 obtain ⟨h1,h2,d,hd⟩:=h
 refine ⟨h1,by simp;omega,d,?_⟩
 rw [List.length_cons,show C.length + 1 - y=C.length - y + 1 by omega]
 exact hd
theorem Ze.app {C:Cd} {y:Nat} (h:Ze C y):∀ L:Cd,Ze (L++C) y
 | []=>h
 | e::L=>(Ze.app h L).cons e
theorem Ze.self {C:Cd} {d:D} (h:C[0]? =some (d,0)):Ze C C.length:=by
 have:0 < C.length:=(List.getElem?_eq_some_iff.mp h).1
 exact ⟨by omega,Nat.le_refl _,d,by rw [Nat.sub_self];exact h⟩
theorem av5 {x:List Nat} (hx:x∈cpL) {y n:Nat} (hy:y≤2000) (hn:n≤2000):Sh (wx x y n) (if (row x).2 then .br y n else .br n y):=by
 have t:PlK .test (.str (row x).1):=by
  revert hx
  revert x
  show ∀ x∈cpL,_
  exact W5 ⟨.test (by simp [tsL,row]),.test (by simp [tsL,row];decide),.test (by simp [tsL,row];decide),.test (by simp [tsL,row];decide),.test (by simp [tsL,row];decide),.test (by simp [tsL,row];decide)⟩
 unfold wx
 split
 ·exact .ifx t hy hn
 ·exact .ifx t hn hy
theorem Xd:∀ (b:B) (y n:Nat) (C:Cd),b.ok→b.fits→WF C→Ze C y→Ze C n→C.length + b.co≤2000→WF (cT b y n C)∧(∃ d,(cT b y n C)[0]? =some (d,0))∧(∀ z,Ze C z→Ze (cT b y n C) z)∧C.length≤(cT b y n C).length∧(cT b y n C).length≤C.length + b.co
 | .tru b,y,n,C,h,hf,hC,hy,hn,hc=>by
  have hz:Ze C (if b then y else n):=by split <;> assumption
  obtain ⟨z1,z2,d,hd⟩:=hz
  refine ⟨⟨hC,.jp (C.length - (if b then y else n)),.jump (by omega),fun _ z=>(by cases z),fun g hg=>?_⟩,⟨_,rfl⟩,fun z hz=>hz.cons _,by simp [cT],by simp [cT,B.co]⟩
  rw [show Vw.goals (.jp (C.length - (if b then y else n))) 0=[0 + 1 + (C.length - (if b then y else n))] from rfl,List.mem_singleton] at hg
  subst hg
  exact ⟨(d,0),by rw [show 0 + 1 + (C.length - (if b then y else n)) - 1=C.length - (if b then y else n) by omega];exact hd,.inl (Nat.le_refl _)⟩
 | .nt a,y,n,C,h,hf,hC,hy,hn,hc=>by
  simp only [B.co] at hc ⊢
  obtain ⟨h1,h2,h3,h4,h5⟩:=Xd a n y C h hf hC hn hy (by omega)
  exact ⟨h1,h2,h3,h4,by simp only [cT];omega⟩
 | .both a b,y,n,C,h,hf,hC,hy,hn,hc=>by
  simp only [B.co] at hc ⊢
  obtain ⟨b1,⟨d,b2⟩,b3,b4,b5⟩:=Xd b y n C h.2 hf.2 hC hy hn (by omega)
  obtain ⟨a1,a2,a3,a4,a5⟩:=Xd a (cT b y n C).length n (cT b y n C) h.1 hf.1 b1 (Ze.self b2) (b3 n hn) (by omega)
  exact ⟨a1,a2,fun z hz=>a3 z (b3 z hz),by simp only [cT];omega,by simp only [cT];omega⟩
 | .eith a b,y,n,C,h,hf,hC,hy,hn,hc=>by
  simp only [B.co] at hc ⊢
  obtain ⟨b1,⟨d,b2⟩,b3,b4,b5⟩:=Xd b y n C h.2 hf.2 hC hy hn (by omega)
  obtain ⟨a1,a2,a3,a4,a5⟩:=Xd a y (cT b y n C).length (cT b y n C) h.1 hf.1 b1 (b3 y hy) (Ze.self b2) (by omega)
  exact ⟨a1,a2,fun z hz=>a3 z (b3 z hz),by simp only [cT];omega,by simp only [cT];omega⟩
 | .cmp x a b,y,n,C,h,hf,hC,hy,hn,hc=>by
  simp only [B.co] at hc ⊢
  have w0:WF ((wx x (C.length - y) (C.length - n),0)::C):=by
   obtain ⟨y1,y2,dy,hdy⟩:=hy
   obtain ⟨n1,n2,dn,hdn⟩:=hn
   refine ⟨hC,_,av5 h.1 (by omega) (by omega),fun s z=>(by split at z <;> cases z),fun g hg=>?_⟩
   have hg':g=0 + 1 + (C.length - y)∨g=0 + 1 + (C.length - n):=by
    split at hg
    ·simpa [Vw.goals] using hg
    ·have:g=0 + 1 + (C.length - n)∨g=0 + 1 + (C.length - y):=by simpa [Vw.goals] using hg
     exact this.symm
   rcases hg' with rfl | rfl
   ·exact ⟨(dy,0),by rw [show 0 + 1 + (C.length - y) - 1=C.length - y by omega];exact hdy,.inl (Nat.le_refl _)⟩
   ·exact ⟨(dn,0),by rw [show 0 + 1 + (C.length - n) - 1=C.length - n by omega];exact hdn,.inl (Nat.le_refl _)⟩
  have w2:WF ((jg 0,1)::(wx x (C.length - y) (C.length - n),0)::C):=Uy (.fetch (by decide)) rfl (fun t z=>by cases z;decide) w0 rfl (.inl (Nat.le_succ _))
  have w3:WF ((Jk,1)::(jg 0,1)::(wx x (C.length - y) (C.length - n),0)::C):=Uy .tax rfl (fun _ z=>by cases z) w2 rfl (.inl (Nat.le_refl _))
  have w4:=V5 b 1 _ h.2.2 (by have:=hf.2;omega) w3 ⟨_,rfl,Nat.le_refl _⟩
  obtain ⟨d,hd⟩:=Xj b 1 ((Jk,1)::(jg 0,1)::(wx x (C.length - y) (C.length - n),0)::C)
  have w5:WF ((Jr 0,0)::(cN b 1++(Jk,1)::(jg 0,1)::(wx x (C.length - y) (C.length - n),0)::C)):=Uy (.keep (by decide)) rfl (fun _ z=>by cases z) w4 hd (.inr ⟨rfl,Nat.le_refl _⟩)
  have w6:=V5 a 0 _ h.2.1 (by have:=hf.1;omega) w5 ⟨_,rfl,Nat.le_refl _⟩
  have la:=(ku (t0:=none) (μ0:=[]) a 0 [] [] h.2.1 (by have:=hf.1;omega) (by simp;omega) (by simp;omega)).2
  have lb:=(ku (t0:=none) (μ0:=[]) b 1 [] [] h.2.2 (by have:=hf.2;omega) (by simp;omega) (by simp;omega)).2
  exact ⟨w6,Xj a 0 _,fun z hz=>((((hz.cons _).cons _).cons _).app _).cons _ |>.app _,by simp only [cT,List.length_append,List.length_cons];omega,by simp only [cT,List.length_append,List.length_cons];omega⟩
theorem aH6:WF C0:=⟨⟨trivial,.tl,.tell (.num (by decide) (by decide)),fun _ z=>(by cases z),fun g hg=>by simp [Vw.goals] at hg⟩,.tl,.tell (.num (by decide) (by decide)),fun _ z=>(by cases z),fun g hg=>by simp [Vw.goals] at hg⟩
theorem aH3:Ze C0 2:=⟨by decide,by decide,_,rfl⟩
theorem aH4:Ze C0 1:=⟨by decide,by decide,_,rfl⟩
theorem aq8:∀ {L:Cd} {p:Nat} {e:D×Nat},WF L→L[p]? =some e→∃ v,Sh e.1 v∧(∀ s,v=.ft s→s < e.2)∧∀ g∈v.goals p,∃ e',L[g]? =some e'∧(e'.2≤e.2∨(v=.kp e.2∧e'.2≤e.2 + 1))
 | [],p,e,h,hp=>by simp at hp
 | x::r,0,e,h,hp=>by
  have:x=e:=by simpa using hp
  subst this
  obtain ⟨_,v,hs,h1,h2⟩:=h
  refine ⟨v,hs,h1,fun g hg=>?_⟩
  obtain ⟨e',he,q⟩:=h2 g hg
  have:=Xu hg
  obtain ⟨g',rfl⟩:∃ g',g=g' + 1:=⟨g - 1,by omega⟩
  exact ⟨e',by simpa using he,q⟩
 | x::r,p + 1,e,h,hp=>by
  obtain ⟨v,hs,h1,h2⟩:=aq8 (p:=p) h.1 (by simpa using hp)
  refine ⟨v,hs,h1,fun g hg=>?_⟩
  have hg':∃ g',g=g' + 1∧g'∈v.goals p:=by
   cases v with
   | tl=>simp [Vw.goals] at hg
   | jp n=>simp [Vw.goals] at hg;exact ⟨p + 1 + n,by omega,by simp [Vw.goals]⟩
   | br n m=>simp [Vw.goals] at hg;rcases hg with e | e;exact ⟨p + 1 + n,by omega,by simp [Vw.goals]⟩;exact ⟨p + 1 + m,by omega,by simp [Vw.goals]⟩
   | _=>simp [Vw.goals] at hg;exact ⟨p + 1,by omega,by simp [Vw.goals]⟩
  obtain ⟨g',rfl,hg'⟩:=hg'
  obtain ⟨e',he,q⟩:=h2 g' hg'
  exact ⟨e',by simpa using he,q⟩
theorem aH5 {L:Cd} (hL:WF L) {d0:D} (h0:L[0]? =some (d0,0)):∃ f:Nat→Vw,(∀ i e,L[i]? =some e→Sh e.1 (f i))∧∀ q,q < L.length→fl f L.length q=false:=by
 have hv:∀ i,∃ v:Vw,∀ e,L[i]? =some e→Sh e.1 v∧(∀ s,v=.ft s→s < e.2)∧∀ g∈v.goals i,∃ e',L[g]? =some e'∧(e'.2≤e.2∨(v=.kp e.2∧e'.2≤e.2 + 1)):=fun i=>by
  cases h:L[i]? with
  | none=>exact ⟨.tl,fun e z=>by cases z⟩
  | some e =>
   obtain ⟨v,h1,h2,h3⟩:=aq8 hL h
   exact ⟨v,fun e' z=>by cases z;exact ⟨h1,h2,h3⟩⟩
 obtain ⟨f,hf⟩:=Classical.skolem.mp hv
 have un:∀ (s p q:Nat),q∈Ul f s p→∀ e,L[q]? =some e→e.2≤s:=by
  intro s p
  induction p with
  | zero =>
   intro q hq e he
   have:q=0:=by simpa [Ul] using hq
   subst this
   rw [h0] at he
   cases he
   exact Nat.zero_le _
  | succ p ih =>
   intro q hq e he
   rcases kr.mp hq with hq | ⟨⟨h1,h2⟩,h3⟩
   ·exact ih q hq e he
   ·cases hp:L[p]? with
    | none =>
     have:=Xu h3
     rw [List.getElem?_eq_none_iff] at hp
     have hl:=(List.getElem?_eq_some_iff.mp he).1
     omega
    | some ep =>
     obtain ⟨_,_,h6⟩:=hf p ep hp
     obtain ⟨e',he',hk⟩:=h6 q h3
     rw [he] at he'
     cases he'
     have hi:=ih p h1 ep hp
     rcases hk with hk | ⟨hk,hk2⟩
     ·omega
     ·rw [hk] at h2
      have:¬ ep.2=s:=fun z=>by
       subst z
       simp [Vw.isK] at h2
      omega
 refine ⟨f,fun i e he=>(hf i e he).1,fun q hq=>?_⟩
 have hget:=List.getElem?_eq_getElem hq
 obtain ⟨_,h2,h3⟩:=hf q _ hget
 unfold fl
 rw [Bool.or_eq_false_iff]
 constructor
 ·cases hfq:f q with
  | ft s =>
   have hs:=h2 s hfq
   have:¬ q∈Ul f s q:=fun z=>by
    have:=un s q q z _ hget
    omega
   show (decide (q∈Tl f q) && decide (q∈Ul f s q))=false
   rw [decide_eq_false this,Bool.and_false]
  | _=>rfl
 ·rw [List.any_eq_false]
  intro g hg
  obtain ⟨e',he',_⟩:=h3 g hg
  have:=(List.getElem?_eq_some_iff.mp he').1
  simpa using this
end K20
set_option Elab.async false
set_option linter.all false
set_option maxRecDepth 100000
set_option maxHeartbeats 4000000
namespace K20
open PySem PySem.Spec PyProof.Rows L2 M
theorem vo {β:Type} {nm:Str}:∀ {ns:List Str} {ds:List β} {i:Nat},ns.Nodup→ns.length=ds.length→ns[i]? =some nm→Qs nm ns ds=ds[i]?
 | [],ds,i,_,_,h=>by simp at h
 | n::ns,[],i,_,hl,_=>by simp at hl
 | n::ns,d::ds,0,_,_,h=>by
  have:n=nm:=by simpa using h
  unfold Qs
  rw [if_pos this]
  rfl
 | n::ns,d::ds,i + 1,hd,hl,h=>by
  have h':ns[i]? =some nm:=by simpa using h
  have hne:n≠nm:=fun z=>by
   have:=(List.nodup_cons.mp hd).1
   exact this (z ▸ List.mem_of_getElem? h')
  unfold Qs
  rw [if_neg hne,vo (List.nodup_cons.mp hd).2 (by simpa using hl) h']
  rfl
theorem B7 {β:Type} {nm:Str} {v:β}:∀ {ns:List Str} {ds:List β} {i:Nat},ns.Nodup→ns.length=ds.length→ns[i]? =some nm→putN nm v ns ds=(ns,ds.set i v)
 | [],ds,i,_,_,h=>by simp at h
 | n::ns,[],i,_,hl,_=>by simp at hl
 | n::ns,d::ds,0,_,_,h=>by
  have:n=nm:=by simpa using h
  unfold putN
  rw [if_pos this]
  rfl
 | n::ns,d::ds,i + 1,hd,hl,h=>by
  have h':ns[i]? =some nm:=by simpa using h
  have hne:n≠nm:=fun z=>by
   have:=(List.nodup_cons.mp hd).1
   exact this (z ▸ List.mem_of_getElem? h')
  unfold putN
  rw [if_neg hne,B7 (List.nodup_cons.mp hd).2 (by simpa using hl) h']
  rfl
theorem Ec {β:Type} {nm:Str} {v:β}:∀ {ns:List Str} {ds:List β},nm∉ns→ns.length=ds.length→putN nm v ns ds=(ns++[nm],ds++[v])
 | [],[],_,_=>rfl
 | [],_::_,_,hl=>by simp at hl
 | n::ns,[],_,hl=>by simp at hl
 | n::ns,d::ds,h,hl=>by
  rw [List.mem_cons,not_or] at h
  unfold putN
  rw [if_neg (fun z=>h.1 z.symm),Ec h.2 (by simpa using hl)]
  rfl
noncomputable def nms:List Str:=["hand","other","slots","place","done","told"]
theorem fm:nms.Nodup:=by decide +kernel
noncomputable abbrev okM:Str→Bool:=j9
theorem Bw:okM "Machine"=true:=by decide +kernel
noncomputable def mac (μ0:Mu) (h o:Int) (ks:List DK) (ds:List D) (p n:Int) (t:D):Mu:=μ0++[.obj "Machine" nms [.int h,.int o,.ref (μ0.length + 1),.int p,.int n,t],.dic ks ds]
section
variable {μ0:Mu} {h o:Int} {ks:List DK} {ds:List D} {p n:Int} {t:D} {ρ:En} {mo mv:MX}
theorem an1:(mac μ0 h o ks ds p n t)[μ0.length]? =some (.obj "Machine" nms [.int h,.int o,.ref (μ0.length + 1),.int p,.int n,t]):=by
 unfold mac
 rw [List.getElem?_append_right (Nat.le_refl _),Nat.sub_self]
 rfl
theorem Br:(mac μ0 h o ks ds p n t)[μ0.length + 1]? =some (.dic ks ds):=by
 unfold mac
 rw [List.getElem?_append_right (by omega),show μ0.length + 1 - μ0.length=1 by omega]
 rfl
theorem Xz:wu okM (.ref μ0.length) (mac μ0 h o ks ds p n t)=some (μ0.length,("Machine":Str),nms,[.int h,.int o,.ref (μ0.length + 1),.int p,.int n,t]):=by
 unfold wu
 dsimp only
 rw [an1]
 dsimp only
 rw [if_pos Bw]
theorem g9 (i:Nat) {nm:Str} {v:D} (hm:mo ρ (mac μ0 h o ks ds p n t)=.ok (.ref μ0.length) (mac μ0 h o ks ds p n t)) (hn:nms[i]? =some nm) (hv:([.int h,.int o,.ref (μ0.length + 1),.int p,.int n,t]:List D)[i]? =some v) :
  u8 okM nm mo ρ (mac μ0 h o ks ds p n t)=.ok v (mac μ0 h o ks ds p n t):=by
 unfold u8
 rw [hm,bind_ok,Xz]
 show ofO _ (Qs nm nms ([.int h,.int o,.ref (μ0.length + 1),.int p,.int n,t]:List D))=_
 rw [vo (ds:=([.int h,.int o,.ref (μ0.length + 1),.int p,.int n,t]:List D)) fm rfl hn,hv]
 rfl
theorem an0 (c:Cell):(mac μ0 h o ks ds p n t).set μ0.length c=μ0++[c,.dic ks ds]:=by
 unfold mac
 rw [List.set_append_right _ _ (Nat.le_refl _),Nat.sub_self]
 rfl
theorem di (c:Cell):(mac μ0 h o ks ds p n t).set (μ0.length + 1) c=μ0++[.obj "Machine" nms [.int h,.int o,.ref (μ0.length + 1),.int p,.int n,t],c]:=by
 unfold mac
 rw [List.set_append_right _ _ (by omega),show μ0.length + 1 - μ0.length=1 by omega]
 rfl
theorem bo (i:Nat) {nm:Str} {v:D} (hn:nms[i]? =some nm):Em okM nm ρ (.ref μ0.length) v (mac μ0 h o ks ds p n t)=.ok (.nx ρ) (μ0++[.obj "Machine" nms (([.int h,.int o,.ref (μ0.length + 1),.int p,.int n,t]:List D).set i v),.dic ks ds]):=by
 unfold Em
 rw [Xz]
 dsimp only
 rw [if_pos (show nms.length < 900 by decide),B7 (ds:=([.int h,.int o,.ref (μ0.length + 1),.int p,.int n,t]:List D)) fm rfl hn,an0]
theorem A4 (i:Nat) {nm:Str} {v:D} (hv:mv ρ (mac μ0 h o ks ds p n t)=.ok v (mac μ0 h o ks ds p n t)) (hm:mo ρ (mac μ0 h o ks ds p n t)=.ok (.ref μ0.length) (mac μ0 h o ks ds p n t)) (hn:nms[i]? =some nm) :
  yq okM nm mo mv ρ (mac μ0 h o ks ds p n t)=.ok (.nx ρ) (μ0++[.obj "Machine" nms (([.int h,.int o,.ref (μ0.length + 1),.int p,.int n,t]:List D).set i v),.dic ks ds]):=by
 unfold yq
 rw [hv,bind_ok,hm,bind_ok,bo i hn]
theorem au3 (i:Nat) {nm:Str} {a b:Int} (hm:mo ρ (mac μ0 h o ks ds p n t)=.ok (.ref μ0.length) (mac μ0 h o ks ds p n t)) (hn:nms[i]? =some nm) (ha:([.int h,.int o,.ref (μ0.length + 1),.int p,.int n,t]:List D)[i]? =some (.int a)) (hv:mv ρ (mac μ0 h o ks ds p n t)=.ok (.int b) (mac μ0 h o ks ds p n t)) :
  de okM nm mo mv ρ (mac μ0 h o ks ds p n t)=.ok (.nx ρ) (μ0++[.obj "Machine" nms (([.int h,.int o,.ref (μ0.length + 1),.int p,.int n,t]:List D).set i (.int (a + b))),.dic ks ds]):=by
 unfold de
 have e:((wu okM (.ref μ0.length) (mac μ0 h o ks ds p n t)).bind fun q=>Qs nm q.2.2.1 q.2.2.2)=some (.int a):=by
  rw [Xz]
  exact (vo (ds:=([.int h,.int o,.ref (μ0.length + 1),.int p,.int n,t]:List D)) fm rfl hn).trans ha
 rw [hm,bind_ok,e]
 dsimp only
 rw [hv,bind_ok]
 exact bo i hn
end
theorem kj {q:DK} {v:D} (r:DK):∀ (ks:List DK) (ds:List D),J2 ks (putVs ks ds q v) r=if r=q then (J2 ks ds q).map (fun _=>v) else J2 ks ds r
 | [],ds=>by unfold putVs;simp [J2]
 | k::ks,[]=>by unfold putVs;simp [J2]
 | k::ks,d::ds=>by
  have ih:=kj (q:=q) (v:=v) r ks ds
  show (if k=r then some (if k=q then v else d) else J2 ks (putVs ks ds q v) r)=if r=q then (if k=q then some d else J2 ks ds q).map (fun _=>v) else (if k=r then some d else J2 ks ds r)
  rw [ih]
  by_cases h1:k=r
  ·subst h1
   by_cases h2:k=q
   ·subst h2;simp
   ·simp [h2]
  ·by_cases h2:r=q
   ·subst h2;simp [h1]
   ·simp [h1,h2]
theorem kh {q:DK}:∀ {ks:List DK} {ds:List D},ks.length=ds.length→(J2 ks ds q).isSome=ks.any fun k=>decide (k=q)
 | [],[],_=>rfl
 | [],_::_,h=>by simp at h
 | _::_,[],h=>by simp at h
 | k::ks,d::ds,h=>by
  show (if k=q then some d else J2 ks ds q).isSome=_
  rw [List.any_cons,← kh (q:=q) (ks:=ks) (ds:=ds) (by simpa using h)]
  by_cases z:k=q <;> simp [z]
theorem wp {q r:DK} {v:D}:∀ {ks:List DK} {ds:List D},ks.length=ds.length→J2 (ks++[q]) (ds++[v]) r=(J2 ks ds r).or (if q=r then some v else none)
 | [],[],_=>by simp [J2]
 | [],_::_,h=>by simp at h
 | _::_,[],h=>by simp at h
 | k::ks,d::ds,h=>by
  show (if k=r then some d else J2 (ks++[q]) (ds++[v]) r)=_
  rw [wp (by simpa using h)]
  show _=Option.or (if k=r then some d else J2 ks ds r) _
  by_cases z:k=r <;> simp [z]
theorem Ao {q:DK} {v:D} {ks:List DK} {ds:List D} (h:ks.length=ds.length):ks.length=(putVs ks ds q v).length:=by unfold putVs;rw [List.length_zipWith,← h,Nat.min_self]
end K20
set_option Elab.async false
set_option linter.all false
set_option maxRecDepth 100000
set_option maxHeartbeats 400000
namespace K20
open PySem PySem.Spec PyProof.Rows L2 M
structure SN (ks:List DK) (ds:List D):Prop where
 len:ks.length=ds.length
 num:∀ q d,J2 ks ds q=some d→Num d
noncomputable def pK (ks:List DK) (q:DK):List DK:=if (ks.any fun k=>decide (k=q))=true then ks else ks++[q]
noncomputable def pD (ks:List DK) (ds:List D) (q:DK) (v:D):List D:=if (ks.any fun k=>decide (k=q))=true then putVs ks ds q v else ds++[v]
theorem SN.put {ks:List DK} {ds:List D} (h:SN ks ds) (q:DK) {v:D} (hv:Num v):SN (pK ks q) (pD ks ds q v):=by
 unfold pK pD
 by_cases z:(ks.any fun k=>decide (k=q))=true
 ·rw [if_pos z,if_pos z]
  refine ⟨Ao h.len,fun r d e=>?_⟩
  rw [kj] at e
  split at e
  ·cases e2:J2 ks ds q with
   | none=>rw [e2] at e;cases e
   | some y=>rw [e2] at e;cases e;exact hv
  ·exact h.num r d e
 ·rw [if_neg z,if_neg z]
  refine ⟨by simp [h.len],fun r d e=>?_⟩
  rw [wp h.len] at e
  cases e2:J2 ks ds r with
  | none =>
   rw [e2,Option.none_or] at e
   split at e
   ·cases e;exact hv
   ·cases e
  | some y=>rw [e2,Option.some_or] at e;cases e;exact h.num r _ e2
theorem a88 (ks:List DK) (q:DK):(pK ks q).length≤ks.length + 1:=by
 unfold pK
 split
 ·omega
 ·simp
section
variable {μ0:Mu} {h o:Int} {ks:List DK} {ds:List D} {p n:Int} {t:D} {ρ:En}
theorem aK7 {s:Nat} {v:D} (hk:ks.length < 16777216):Eb ρ (.ref (μ0.length + 1)) (.int s) v (mac μ0 h o ks ds p n t)=.ok (.nx ρ) (mac μ0 h o (pK ks (.inl s)) (pD ks ds (.inl s) v) p n t):=by
 unfold Eb
 dsimp only
 rw [Br]
 show (if ks.length < 16777216 then (if (ks.any fun k=>decide (k=.inl (s:Int)))=true then _ else _) else _)=_
 rw [if_pos hk]
 unfold pK pD
 by_cases z:(ks.any fun k=>decide (k=.inl (s:Int)))=true
 ·rw [if_pos z,if_pos z,if_pos z,di]
  rfl
 ·rw [if_neg z,if_neg z,if_neg z,di]
  rfl
end
structure In (h o:Int) (ks:List DK) (ds:List D):Prop where
 h0:0≤h
 h1:h < 4294967296
 o0:0≤o
 o1:o < 4294967296
 sl:SN ks ds
noncomputable abbrev ar7:MSt:=(jl (mTest (mBin gEq (mBin gIdx (mVar 1) (mC (.int 0))) (mC (.str ue))))
  (yq j9 "told" (mVar 0) (mBin gIdx (mVar 1) (mC (.int 1))))
  (jl (mTest (mBin gEq (mBin gIdx (mVar 1) (mC (.int 0))) (mC (.str U4))))
  (yq j9 "told" (mVar 0) (u8 j9 "hand" (mVar 0)))
  (jl (mTest (mBin gIn (mBin gIdx (mVar 1) (mC (.int 0))) (ja (mCons (mC (.str yf)) (mCons (mC (.str w_tax)) (mCons (mC (.str w_keep)) mNil))))))
  (um (mCall Zr (mCons (mVar 0) (mCons (mVar 1) mNil))))
  (jl (mTest (mBin zr (mBin gIdx (mVar 1) (mC (.int 0))) (ja (mCons (mC (.str Uw)) (mCons (mC (.str x0)) (mCons (mC (.str yg)) mNil))))))
  (um (mCall u9 (mCons (mVar 0) (mCons (mCall yo (mCons (mVar 0) (mCons (mVar 1) (mCons (mVar 2) mNil)))) mNil))))
  jx))))
section
variable {bs:List Int} {d:D} {h o h' o':Int} {ks ks':List DK} {ds ds':List D} {μ0:Mu} {n:Int} {t':D}
theorem Qg {p z:Nat} (hz:∀ n,Yr [.ref μ0.length,d] (mac μ0 h' o' ks' ds' p n t')=.ok (.int z) (mac μ0 h' o' ks' ds' p n t'))
  (e:ar7 [some (.ref μ0.length),some d,some (pk bs)] (mac μ0 h o ks ds p n .non)=.ok (.nx [some (.ref μ0.length),some d,some (pk bs)]) (mac μ0 h' o' ks' ds' p n t')) :
  yv [.ref μ0.length,d,pk bs] (mac μ0 h o ks ds p n .non)=.ok .non (mac μ0 h' o' ks' ds' ((p + 1 + z:Nat):Int) (n + 1) t'):=by
 have:((p + 1 + z:Nat):Int)=p + (1 + z):=by omega
 rw [this]
 exact zh 0 ((v_seqN e).trans ((v_seqN (au3 4 (v_var 0 rfl) rfl rfl rfl)).trans (au3 3 (v_var 0 rfl) rfl rfl (v_bin rfl (v_call rfl (hz _)) rfl))))
theorem Wr {v:Vw} (hs:Sh d v) (hv:∀ z,v.goals z=[z + 1]∨v.goals z=[]) {p t:D} {μ:Mu}:Yr [.ref μ0.length,d] μ=.ok (.int ((0:Nat):Int)) μ:=by
 cases hs with
 | jump _=>exact ((hv 0).elim (fun z=>by simp [Vw.goals] at z;subst z;rfl) (fun z=>by simp [Vw.goals] at z))
 | if_ _ _ _ _=>exact ((hv 0).elim (fun z=>by simp [Vw.goals] at z) (fun z=>by simp [Vw.goals] at z))
 | ifx _ _ _=>exact ((hv 0).elim (fun z=>by simp [Vw.goals] at z) (fun z=>by simp [Vw.goals] at z))
 | _=>exact jj 0 ((v_skip rfl).trans ((v_skip rfl).trans ((v_skip rfl).trans rfl)))
theorem h_get {ρ:En} {μ0:Mu} {p n:Int} {t:D} (hρ:ρ[0]? =some (some (.ref μ0.length))):u8 okM "hand" (mVar 0) ρ (mac μ0 h o ks ds p n t)=.ok (.int h) (mac μ0 h o ks ds p n t):=g9 0 (v_var 0 hρ) rfl rfl
theorem o_get {ρ:En} {μ0:Mu} {p n:Int} {t:D} (hρ:ρ[0]? =some (some (.ref μ0.length))):u8 okM "other" (mVar 0) ρ (mac μ0 h o ks ds p n t)=.ok (.int o) (mac μ0 h o ks ds p n t):=g9 1 (v_var 0 hρ) rfl rfl
theorem a56 {ρ:En} {μ0:Mu} {p n:Int} {t:D} (hρ:ρ[0]? =some (some (.ref μ0.length))):u8 okM "slots" (mVar 0) ρ (mac μ0 h o ks ds p n t)=.ok (.ref (μ0.length + 1)) (mac μ0 h o ks ds p n t):=g9 2 (v_var 0 hρ) rfl rfl
theorem dh {μ0:Mu} {p n:Int} {t:D}:j8 (mac μ0 h o ks ds p n t) (.ref (μ0.length + 1))=.dic ks ds:=by
 unfold j8
 dsimp only
 rw [Br]
theorem a47 {μ0:Mu} {p n:Int}:u9 [.ref μ0.length,.non] (mac μ0 h o ks ds p n .non)=.ok .non (mac μ0 h o ks ds p n (.int 0)):=zh 0 ((v_iteT rfl).trans (A4 5 rfl (v_var 0 rfl) rfl))
theorem xh {μ0:Mu} {p n i:Int}:u9 [.ref μ0.length,.int i] (mac μ0 h o ks ds p n .non)=.ok .non (mac μ0 i o ks ds p n .non):=zh 0 ((v_iteF rfl).trans (A4 0 rfl (v_var 0 rfl) rfl))
theorem ki (hl:ks.length=ds.length) (q r:DK) (v:D):J2 (pK ks q) (pD ks ds q v) r=if r=q then some v else J2 ks ds r:=by
 unfold pK pD
 by_cases z:(ks.any fun k=>decide (k=q))=true
 ·rw [if_pos z,if_pos z,kj]
  split
  ·have hs:∃ y,J2 ks ds q=some y:=Option.isSome_iff_exists.mp ((kh hl).trans z)
   obtain ⟨y,e⟩:=hs
   rw [e]
   rfl
  ·rfl
 ·rw [if_neg z,if_neg z,wp hl]
  have hs:J2 ks ds q=none:=by
   have:=kh (q:=q) hl
   rw [Bool.not_eq_true] at z
   rw [z] at this
   simpa using this
  by_cases e:r=q
  ·subst e
   rw [hs,if_pos rfl]
   rfl
  ·rw [if_neg e,if_neg (Ne.symm e)]
   cases J2 ks ds r <;> rfl
noncomputable def PS1 (bs:List Int) (d:D) (h o:Int) (ks:List DK) (ds:List D) (h' o':Int) (ks':List DK) (ds':List D) (z:Nat):Prop:=∀ (μ0:Mu) (p:Nat) (n:Int),yv [.ref μ0.length,d,pk bs] (mac μ0 h o ks ds p n .non)=.ok .non (mac μ0 h' o' ks' ds' ((p + 1 + z:Nat):Int) (n + 1) .non)
noncomputable def PT1 (bs:List Int) (d:D) (h o:Int) (ks:List DK) (ds:List D) (t:Int):Prop:=∀ (μ0:Mu) (p:Nat) (n:Int),∃ h' o' ks' ds' g,yv [.ref μ0.length,d,pk bs] (mac μ0 h o ks ds p n .non)=.ok .non (mac μ0 h' o' ks' ds' g (n + 1) (.int t))
theorem bw {i:Int} (i0:0≤i) (i1:i < 4294967296):PT1 bs (a58 i) h o ks ds i:=fun μ0 p n=>⟨h,o,ks,ds,_,Qg (z:=0) (fun _=>Wr (.tell (.num i0 i1)) (fun _=>.inr rfl) (p:=.non) (t:=.non)) ((v_iteT rfl).trans (A4 5 rfl (v_var 0 rfl) rfl))⟩
theorem cu:PS1 bs Jk h o ks ds h h ks ds 0:=fun μ0 p n=>Qg (fun _=>Wr .tax (fun _=>.inl rfl) (p:=.non) (t:=.non)) ((v_iteF rfl).trans ((v_iteF rfl).trans ((v_iteT rfl).trans (v_drop (v_call rfl (zh 0 ((v_iteF rfl).trans ((v_iteT rfl).trans (A4 1 (h_get rfl) (v_var 0 rfl) rfl)))))))))
theorem bv (hk:ks.length < 16777216) {s:Nat} (hs:s < 8):PS1 bs (Jr s) h o ks ds h o (pK ks (.inl s)) (pD ks ds (.inl s) (.int h)) 0:=fun μ0 p n=>Qg (fun _=>Wr (.keep hs) (fun _=>.inl rfl) (p:=.non) (t:=.non)) ((v_iteF rfl).trans ((v_iteF rfl).trans ((v_iteT rfl).trans (v_drop (v_call rfl (zh 0 ((v_iteF rfl).trans ((v_iteF rfl).trans ((c8 (h_get rfl) (a56 rfl) rfl).trans (aK7 hk))))))))))
theorem ag7 {k:Nat}:PS1 bs (ba k) h o ks ds h o ks ds k:=fun μ0 p n=>Qg (fun _=>jj 0 (v_take rfl rfl)) ((v_iteF rfl).trans ((v_iteF rfl).trans ((v_iteF rfl).trans ((v_iteF rfl).trans rfl))))
theorem K1 {x:List Nat} {r:List D} {d':D} (g1:gEq (.str x) (.str ue)=some (.bl false)) (g2:gEq (.str x) (.str U4)=some (.bl false)) (g3:gIn (.str x) (.tup [.str yf,.str w_tax,.str w_keep])=some (.bl false)) (g4:zr (.str x) (.tup [.str Uw,.str x0,.str yg])=some (.bl true))
  (e1:∀ (μ0:Mu) (p n:Int),yo [.ref μ0.length,.tup (.str x::r),pk bs] (mac μ0 h o ks ds p n .non)=.ok d' (mac μ0 h o ks ds p n .non)) {μ0:Mu} {p:Nat} {n h':Int} {t':D} (et:u9 [.ref μ0.length,d'] (mac μ0 h o ks ds p n .non)=.ok .non (mac μ0 h' o ks ds p n t')) :
  ar7 [some (.ref μ0.length),some (.tup (.str x::r)),some (pk bs)] (mac μ0 h o ks ds p n .non)=.ok (.nx [some (.ref μ0.length),some (.tup (.str x::r)),some (pk bs)]) (mac μ0 h' o ks ds p n t') :=
 (v_iteF (ji (v_bin (x:=.str x) (v_bin rfl rfl (Yw _ _)) rfl g1))).trans ((v_iteF (ji (v_bin (x:=.str x) (v_bin rfl rfl (Yw _ _)) rfl g2))).trans ((v_iteF (ji (v_bin (x:=.str x) (v_bin rfl rfl (Yw _ _)) rfl g3))).trans ((v_iteT (ji (v_bin (x:=.str x) (v_bin rfl rfl (Yw _ _)) rfl g4))).trans (v_drop (v_call (v_cons rfl (v_cons ((v_call rfl (e1 _ _ _))) v_nil)) et)))))
theorem aw4 {i:Int} (i0:0≤i) (i1:i < 4294967296):PS1 bs (ah2 i) h o ks ds i o ks ds 0:=fun μ0 p n=>Qg (fun _=>Wr (.set (.num i0 i1)) (fun _=>.inl rfl) (p:=.non) (t:=.non)) (K1 rfl rfl rfl rfl (d':=.int i) (fun μ0 p n=>jj 1 ((v_skip rfl).trans ((v_skip rfl).trans (v_take rfl rfl)))) xh)
theorem aw5:PS1 bs ah3 h o ks ds bs.length o ks ds 0:=fun μ0 p n=>by
 have e:(bs.map D.int).length=bs.length:=List.length_map _
 rw [← e]
 exact Qg (fun _=>Wr .len (fun _=>.inl rfl) (p:=.non) (t:=.non)) (K1 rfl rfl rfl rfl (d':=.int (bs.map D.int).length) (fun μ0 p n=>jj 1 ((v_skip rfl).trans (v_take rfl rfl))) xh)
theorem a49 {x:List Nat} {r:List D} {d':D} (hs:Sh (.tup (.str x::r)) .ot) (g1:gEq (.str x) (.str ue)=some (.bl false)) (g2:gEq (.str x) (.str U4)=some (.bl false)) (g3:gIn (.str x) (.tup [.str yf,.str w_tax,.str w_keep])=some (.bl false)) (g4:zr (.str x) (.tup [.str Uw,.str x0,.str yg])=some (.bl true))
  (e1:∀ (μ0:Mu) (p n:Int),yo [.ref μ0.length,.tup (.str x::r),pk bs] (mac μ0 h o ks ds p n .non)=.ok d' (mac μ0 h o ks ds p n .non)) :
  (d'=.non→PT1 bs (.tup (.str x::r)) h o ks ds 0)∧∀ i,d'=.int i→PS1 bs (.tup (.str x::r)) h o ks ds i o ks ds 0:=by
 refine ⟨fun z=>?_,fun i z=>?_⟩
 ·subst z
  exact fun μ0 p n=>⟨h,o,ks,ds,_,Qg (z:=0) (fun _=>Wr hs (fun _=>.inl rfl) (p:=.non) (t:=.non)) (K1 g1 g2 g3 g4 e1 a47)⟩
 ·subst z
  exact fun μ0 p n=>Qg (fun _=>Wr hs (fun _=>.inl rfl) (p:=.non) (t:=.non)) (K1 g1 g2 g3 g4 e1 xh)
theorem ag6 (hB:Zk bs) {z:Int} (hz:z=1∨z=2∨z=4) (ho:0≤o):(ld bs z o=.non→PT1 bs (zb z) h o ks ds 0)∧∀ i,ld bs z o=.int i→PS1 bs (zb z) h o ks ds i o ks ds 0 :=
 a49 (.load (.size hz) (.base (by simp [atx])) (.num (by decide) (by decide))) rfl rfl rfl rfl fun μ0 p n=>by
  have e:∀ μ,Yb [pk bs,.int z,.int (o + 0)] μ=.ok (ld bs z o) μ:=by rw [Int.add_zero];exact (ld_eq hB hz ho).2.1
  exact jj 1 (v_seqR ((v_iteT rfl).trans ((v_set 3 ((v_ifT rfl).trans (o_get rfl))).trans (v_ret (v_call (v_cons rfl (v_cons rfl (v_cons (v_bin (x:=.int o) rfl rfl rfl) v_nil))) (e _))))))
theorem aw6 {x:List Nat} (hx:x∈opL) (I:In h o ks ds):(rk x h o=.non→PT1 bs (Y6 x) h o ks ds 0)∧∀ i,rk x h o=.int i→PS1 bs (Y6 x) h o ks ds i o ks ds 0 :=
 a49 (.dox (.op hx)) rfl rfl rfl rfl fun μ0 p n=>jj 1 ((v_skip rfl).trans ((v_skip rfl).trans ((v_skip rfl).trans ((v_skip rfl).trans ((v_skip rfl).trans (v_take rfl (v_call (v_cons rfl (v_cons (h_get rfl) (v_cons (o_get rfl) v_nil))) ((B2 hx I.h0 I.h1 I.o0 I.o1).2.1 _))))))))
theorem Ep {s:Nat} (hs:s < 8) {i:Int} (hl:J2 ks ds (.inl (s:Int))=some (.int i)):PS1 bs (jg s) h o ks ds i o ks ds 0:=fun μ0 p n=>by
 refine Qg (fun _=>Wr (.fetch hs) (fun _=>.inl rfl) (p:=.non) (t:=.non)) (K1 rfl rfl rfl rfl (d':=.int i) (fun μ0 p n=>?_) xh)
 refine jj 1 ((v_skip rfl).trans ((v_skip rfl).trans ((v_skip rfl).trans ((v_skip rfl).trans ((v_skip rfl).trans ((v_skip rfl).trans (v_ret (v_call rfl (jj 0 ((v_skip (ji (v_bin rfl (a56 rfl) ?_))).trans (v_ret (v_bin (a56 rfl) rfl ?_))))))))))))
 ·rw [dh]
  show some (D.bl (!(J2 ks ds (.inl (s:Int))).isSome))=_
  rw [hl]
  rfl
 ·rw [dh]
  exact hl
theorem aw3 {x:List Nat} (hx:x∈cpL) {y n:Nat} {k:Bool} (hk:cp x h o=.bl k):PS1 bs (wx x y n) h o ks ds h o ks ds (if k then y else n):=by
 have go:∀ (t:List Nat) (b:Bool) (y' n':Nat),(∀ μ,Qz [.str t,.int h,.int o] μ=.ok (.bl b) μ)→PS1 bs (ax1 t y' n') h o ks ds h o ks ds (if b then y' else n'):=fun t b y' n' e μ0 p m=>Qg (fun n''=>by
  cases b
  ·exact jj 0 ((v_skip rfl).trans ((v_skip rfl).trans (v_take rfl ((v_ifF (Za (v_call (v_cons rfl (v_cons (h_get rfl) (v_cons (o_get rfl) v_nil))) (e _)) rfl)).trans rfl))))
  ·exact jj 0 ((v_skip rfl).trans ((v_skip rfl).trans (v_take rfl ((v_ifT (Za (v_call (v_cons rfl (v_cons (h_get rfl) (v_cons (o_get rfl) v_nil))) (e _)) rfl)).trans rfl))))) ((v_iteF rfl).trans ((v_iteF rfl).trans ((v_iteF rfl).trans ((v_iteF rfl).trans rfl))))
 revert hk
 revert hx
 revert x
 show ∀ x∈cpL,_
 refine W5 ⟨fun hk=>?_,fun hk=>?_,fun hk=>?_,fun hk=>?_,fun hk=>?_,fun hk=>?_⟩
 ·have hk:(h == o)=k:=D.bl.inj hk
  have:=go u6 (h == o) y n (fun _=>rfl)
  rw [hk] at this
  exact this
 ·have hk:(!(h == o))=k:=D.bl.inj hk
  have:=go u6 (h == o) n y (fun _=>rfl)
  rw [show (h == o)= !k by rw [← hk,Bool.not_not]] at this
  cases k <;> exact this
 ·have hk:decide (h < o)=k:=D.bl.inj hk
  have:=go jd (decide (h ≥ o)) n y (fun _=>rfl)
  rw [show decide (h ≥ o)= !k by rw [← hk,← decide_not];exact decide_eq_decide.mpr (by omega)] at this
  cases k <;> exact this
 ·have hk:decide (h > o)=k:=D.bl.inj hk
  have:=go J1 (decide (h > o)) y n (fun _=>rfl)
  rw [hk] at this
  exact this
 ·have hk:decide (h≤o)=k:=D.bl.inj hk
  have:=go J1 (decide (h > o)) n y (fun _=>rfl)
  rw [show decide (h > o)= !k by rw [← hk,← decide_not];exact decide_eq_decide.mpr (by omega)] at this
  cases k <;> exact this
 ·have hk:decide (h ≥ o)=k:=D.bl.inj hk
  have:=go jd (decide (h ≥ o)) y n (fun _=>rfl)
  rw [hk] at this
  exact this
end
end K20
set_option Elab.async false
set_option linter.all false
set_option maxRecDepth 100000
set_option maxHeartbeats 400000
namespace K20
open PySem PySem.Spec PyProof.Rows L2 M
noncomputable abbrev tT:MB:=mTest (Zh (u8 j9 "told" (mVar 2)))
noncomputable abbrev pE (cs:List D) (bs:List Int) (μ0:Mu):En:=[some (.lst cs),some (pk bs),some (.ref μ0.length)]
structure S5 where
 p:Nat
 h:Int
 o:Int
 ks:List DK
 ds:List D
noncomputable def MR (F:Cd) (bs:List Int) (c:Nat) (a b:S5):Prop:=∀ (μ0:Mu) (k:Nat) (n:Int),Zj tT Uu (k + c) (pE (F.map Prod.fst) bs μ0) (mac μ0 a.h a.o a.ks a.ds a.p n .non)=Zj tT Uu k (pE (F.map Prod.fst) bs μ0) (mac μ0 b.h b.o b.ks b.ds b.p (n + c) .non)
noncomputable def MT (F:Cd) (bs:List Int) (c:Nat) (a:S5) (t:Int):Prop:=∀ (μ0:Mu) (k:Nat) (n:Int),∃ h o ks ds g m,Zj tT Uu (k + c + 1) (pE (F.map Prod.fst) bs μ0) (mac μ0 a.h a.o a.ks a.ds a.p n .non)=.ok (.nx (pE (F.map Prod.fst) bs μ0)) (mac μ0 h o ks ds g m (.int t))
section
variable {F:Cd} {bs:List Int} {a b c:S5} {m n:Nat} {t:Int}
theorem MR.then (x:MR F bs m a b) (y:MR F bs n b c):MR F bs (m + n) a c:=fun μ0 k q=>by
 rw [show k + (m + n)=k + n + m by omega,x μ0 (k + n) q,y μ0 k (q + m),Int.add_assoc,← Int.natCast_add]
theorem MR.tell (x:MR F bs m a b) (y:MT F bs n b t):MT F bs (m + n) a t:=fun μ0 k q=>by
 obtain ⟨h,o,ks,ds,g,w,e⟩:=y μ0 k (q + m)
 exact ⟨h,o,ks,ds,g,w,by rw [show k + (m + n) + 1=k + n + 1 + m by omega,x μ0 (k + n + 1) q,e]⟩
theorem MT.more (y:MT F bs n a t) (h:n≤m):MT F bs m a t:=fun μ0 k q=>by
 obtain ⟨h1,o,ks,ds,g,w,e⟩:=y μ0 (k + (m - n)) q
 exact ⟨h1,o,ks,ds,g,w,by rw [← e];congr 1;omega⟩
theorem y8 {p:Nat} {e:D×Nat} {X:Cd} (h:F.drop p=e::X):F[p]? =some e∧F.drop (p + 1)=X:=by
 constructor
 ·have:(F.drop p)[0]? =some e:=by rw [h];rfl
  rwa [List.getElem?_drop] at this
 ·rw [← List.drop_drop,h]
  rfl
theorem Ku {μ0:Mu} {p:Nat} {h o:Int} {ks:List DK} {ds:List D} {q:Int} {e:D×Nat} (hp:F[p]? =some e):tT (pE (F.map Prod.fst) bs μ0) (mac μ0 h o ks ds p q .non)=.ok true (mac μ0 h o ks ds p q .non) ∧
  Uu (pE (F.map Prod.fst) bs μ0) (mac μ0 h o ks ds p q .non)=(um (mCall yv (mCons (mVar 2) (mCons (mBin gIdx (mVar 0) (u8 j9 "place" (mVar 2))) (mCons (mVar 1) mNil))))) (pE (F.map Prod.fst) bs μ0) (mac μ0 h o ks ds p q .non) ∧
  mCons (mVar 2) (mCons (mBin gIdx (mVar 0) (u8 j9 "place" (mVar 2))) (mCons (mVar 1) mNil)) (pE (F.map Prod.fst) bs μ0) (mac μ0 h o ks ds p q .non)=.ok [.ref μ0.length,e.1,pk bs] (mac μ0 h o ks ds p q .non):=by
 have hl:p < F.length:=(List.getElem?_eq_some_iff.mp hp).1
 have hl2:(F.map Prod.fst).length=F.length:=List.length_map _
 refine ⟨?_,v_skip (ji (v_bin (x:=.int p) (y:=.int (F.map Prod.fst).length) (g9 3 (v_var 2 rfl) rfl rfl) (uq (v_cons rfl v_nil) rfl) ?_)),v_cons rfl (v_cons (v_bin (x:=.lst (F.map Prod.fst)) (y:=.int p) rfl (g9 3 (v_var 2 rfl) rfl rfl) (Zo ?_)) (v_cons rfl v_nil))⟩
 ·show mTest (Zh (u8 j9 "told" (mVar 2))) _ _=_
  unfold mTest Zh
  rw [g9 5 (v_var 2 rfl) rfl rfl]
  rfl
 ·rw [deref_int,deref_int,Fu,decide_eq_false (by rw [hl2];omega)]
 ·rw [List.getElem?_map,hp]
  rfl
theorem mr1 {p z:Nat} {e:D×Nat} {h o h' o':Int} {ks ks':List DK} {ds ds':List D} (hp:F[p]? =some e) (s:PS1 bs e.1 h o ks ds h' o' ks' ds' z):MR F bs 1 ⟨p,h,o,ks,ds⟩ ⟨p + 1 + z,h',o',ks',ds'⟩:=fun μ0 k q=>by
 obtain ⟨t1,t2,t3⟩:=Ku (bs:=bs) (μ0:=μ0) (h:=h) (o:=o) (ks:=ks) (ds:=ds) (q:=q) hp
 show Zj tT Uu (k + 1) _ (mac μ0 h o ks ds p q .non)=_
 rw [Zj,t1,bind_ok,if_pos rfl,t2,v_drop (v_call t3 (s μ0 p q)),bind_ok]
 rfl
theorem mt1 {p:Nat} {e:D×Nat} {h o:Int} {ks:List DK} {ds:List D} (hp:F[p]? =some e) (s:PT1 bs e.1 h o ks ds t):MT F bs 1 ⟨p,h,o,ks,ds⟩ t:=fun μ0 k q=>by
 obtain ⟨t1,t2,t3⟩:=Ku (bs:=bs) (μ0:=μ0) (h:=h) (o:=o) (ks:=ks) (ds:=ds) (q:=q) hp
 obtain ⟨h',o',ks',ds',g,e1⟩:=s μ0 p q
 refine ⟨h',o',ks',ds',g,q + 1,?_⟩
 show Zj tT Uu (k + 1 + 1) _ (mac μ0 h o ks ds p q .non)=_
 rw [Zj,t1,bind_ok,if_pos rfl,t2,v_drop (v_call t3 e1),bind_ok]
 dsimp only
 have t4:tT (pE (F.map Prod.fst) bs μ0) (mac μ0 h' o' ks' ds' g (q + 1) (.int t))=.ok false (mac μ0 h' o' ks' ds' g (q + 1) (.int t)):=by
  show mTest (Zh (u8 j9 "told" (mVar 2))) _ _=_
  unfold mTest Zh
  rw [g9 5 (v_var 2 rfl) rfl rfl]
  rfl
 rw [Zj,t4,bind_ok]
 rfl
structure Gd (a:S5):Prop extends In a.h a.o a.ks a.ds where
 kl:a.ks.length≤a.p
theorem Z8 {p:Nat} {L C:Cd} (h:F.drop p=L++C):F.drop (p + L.length)=C:=by
 rw [← List.drop_drop,h,List.drop_left]
theorem kz (hB:Zk bs) (hF:F.length≤9000):∀ (x:N) (s:Nat) (C:Cd) (a:S5),x.ok→s + x.need≤8→F.drop a.p=cN x s++C→Gd a→(x.ev bs=.non→MT F bs (cN x s).length a 0)∧∀ i,x.ev bs=.int i→∃ b,MR F bs (cN x s).length a b∧Gd b∧b.h=i∧b.p=a.p + (cN x s).length∧∀ j:Nat,j < s→J2 b.ks b.ds (.inl j)=J2 a.ks a.ds (.inl j)
 | .num k,s,C,a,hx,hs,hd,G=>by
  refine ⟨fun z=>(by cases z),fun i hi=>?_⟩
  have hi:k=i:=D.int.inj hi
  subst hi
  obtain ⟨g1,g2⟩:=y8 (F:=F) (e:=(ah2 k,s)) (X:=C) hd
  exact ⟨_,mr1 g1 (aw4 hx.1 hx.2),⟨⟨hx.1,hx.2,G.o0,G.o1,G.sl⟩,Nat.le_trans G.kl (by simp)⟩,rfl,rfl,fun _ _=>rfl⟩
 | .len,s,C,a,hx,hs,hd,G=>by
  refine ⟨fun z=>(by cases z),fun i hi=>?_⟩
  have hi:(bs.length:Int)=i:=D.int.inj hi
  subst hi
  obtain ⟨g1,g2⟩:=y8 (F:=F) (e:=(ah3,s)) (X:=C) hd
  exact ⟨_,mr1 g1 aw5,⟨⟨by show 0≤(bs.length:Int);omega,by show (bs.length:Int) < 4294967296;have:=hB.2;omega,G.o0,G.o1,G.sl⟩,Nat.le_trans G.kl (by simp)⟩,rfl,rfl,fun _ _=>rfl⟩
 | .load z x,s,C,a,hx,hs,hd,G=>by
  simp only [cN,List.append_assoc,List.cons_append,List.nil_append] at hd
  obtain ⟨f1,r1⟩:=kz hB hF x s _ a hx.2 hs hd G
  have hl:(cN (.load z x) s).length=(cN x s).length + 2:=by simp [cN]
  simp only [N.ev]
  rw [hl]
  rcases N.num_ev hB x hx.2 with e | ⟨i,e,i0,i1⟩
  ·rw [e]
   exact ⟨fun _=>(f1 e).more (by omega),fun i z=>(by cases z)⟩
  ·rw [e]
   obtain ⟨b,rb,gb,hbh,hbp,hbl⟩:=r1 i e
   have hd2:=Z8 hd
   rw [← hbp] at hd2
   obtain ⟨g1,g2⟩:=y8 hd2
   obtain ⟨g3,g4⟩:=y8 g2
   have m1:=mr1 (h:=b.h) (o:=b.o) (ks:=b.ks) (ds:=b.ds) g1 (cu (bs:=bs))
   obtain ⟨p1,p2⟩:=ag6 (bs:=bs) (h:=b.h) (o:=b.h) (ks:=b.ks) (ds:=b.ds) hB hx.1 gb.h0
   rw [hbh] at p1 p2
   refine ⟨fun z=>?_,fun q hq=>?_⟩
   ·have t1:=mt1 (F:=F) g3 (p1 z)
    rw [← hbh] at t1
    exact ((rb.then m1).tell t1).more (by omega)
   ·have nq:=(ld_eq hB hx.1 i0).1
    have hq':ld bs z i=.int q:=hq
    rw [hq'] at nq
    obtain ⟨q',eq',q0,q1⟩:=nq.resolve_left (by intro z;cases z)
    cases eq'
    have m2:=mr1 (F:=F) g3 (p2 q hq')
    rw [← hbh] at m2
    have fin:=(rb.then m1).then m2
    rw [show (cN x s).length + 1 + 1=(cN x s).length + 2 by omega] at fin
    refine ⟨_,fin,⟨⟨q0,q1,gb.h0,gb.h1,gb.sl⟩,by show b.ks.length≤b.p + 1 + 0 + 1 + 0;have:=gb.kl;omega⟩,rfl,by show b.p + 1 + 0 + 1 + 0=_;rw [hbp];omega,hbl⟩
 | .op x u v,s,C,a,hx,hs,hd,G=>by
  have hn:max u.need (1 + v.need) + s≤8:=by simp only [N.need] at hs;omega
  simp only [cN,List.append_assoc,List.cons_append,List.nil_append] at hd
  have hl:(cN (.op x u v) s).length=(cN u s).length + (cN v (s + 1)).length + 4:=by simp [cN];omega
  obtain ⟨f1,r1⟩:=kz hB hF u s _ a hx.2.1 (by omega) hd G
  simp only [N.ev]
  rw [hl]
  rcases N.num_ev hB u hx.2.1 with e | ⟨i,e,i0,i1⟩
  ·rw [e]
   exact ⟨fun _=>(f1 e).more (by omega),fun i z=>(by cases z)⟩
  ·rw [e]
   obtain ⟨b,rb,gb,hbh,hbp,hbl⟩:=r1 i e
   have hd2:=Z8 hd
   rw [← hbp] at hd2
   obtain ⟨g1,g2⟩:=y8 hd2
   have hbF:b.p < F.length:=(List.getElem?_eq_some_iff.mp g1).1
   have hkb:=gb.kl
   have m1:=mr1 (h:=b.h) (o:=b.o) (ks:=b.ks) (ds:=b.ds) g1 (bv (bs:=bs) (by omega) (by omega))
   have gb2:Gd ⟨b.p + 1 + 0,b.h,b.o,pK b.ks (.inl s),pD b.ks b.ds (.inl s) (.int b.h)⟩:=⟨⟨gb.h0,gb.h1,gb.o0,gb.o1,gb.sl.put _ ⟨b.h,rfl,gb.h0,gb.h1⟩⟩,by have:=a88 b.ks (.inl s);show (pK b.ks (.inl (s:Int))).length≤b.p + 1 + 0;omega⟩
   obtain ⟨f3,r3⟩:=kz hB hF v (s + 1) _ _ hx.2.2 (by omega) (show F.drop (b.p + 1 + 0)=_ from g2) gb2
   rcases N.num_ev hB v hx.2.2 with e' | ⟨j,e',j0,j1⟩
   ·rw [e']
    exact ⟨fun _=>((rb.then m1).tell (f3 e')).more (by omega),fun i z=>(by cases z)⟩
   ·rw [e']
    obtain ⟨c,rc,gc,hch,hcp,hcl⟩:=r3 j e'
    have hd4:=Z8 (show F.drop (b.p + 1 + 0)=_ from g2)
    rw [← hcp] at hd4
    obtain ⟨k1,k2⟩:=y8 hd4
    obtain ⟨k3,k4⟩:=y8 k2
    obtain ⟨k5,k6⟩:=y8 k4
    have n1:=mr1 (h:=c.h) (o:=c.o) (ks:=c.ks) (ds:=c.ds) k1 (cu (bs:=bs))
    have hlk:J2 c.ks c.ds (.inl (s:Int))=some (.int i):=by
     have:=hcl s (Nat.lt_succ_self s)
     rw [this]
     show J2 (pK b.ks (.inl (s:Int))) (pD b.ks b.ds (.inl (s:Int)) (.int b.h)) (.inl (s:Int))=_
     rw [ki gb.sl.len,if_pos rfl,hbh]
    have n2:=mr1 (h:=c.h) (o:=c.h) (ks:=c.ks) (ds:=c.ds) k3 (Ep (bs:=bs) (by omega) hlk)
    have Ic:In i c.h c.ks c.ds:=⟨i0,i1,gc.h0,gc.h1,gc.sl⟩
    obtain ⟨p1,p2⟩:=aw6 (bs:=bs) hx.1 Ic
    have all:=(((rb.then m1).then rc).then n1).then n2
    rw [hch] at p1 p2
    have hkc:=gc.kl
    refine ⟨fun z=>?_,fun q hq=>?_⟩
    ·have t1:=mt1 (F:=F) k5 (p1 z)
     rw [← hch] at t1
     exact (all.tell t1).more (by omega)
    ·have hq':rk x i j=.int q:=hq
     have nq:=(B2 hx.1 i0 i1 j0 j1).1
     rw [hq'] at nq
     obtain ⟨q',eq',q0,q1⟩:=nq.resolve_left (by intro z;cases z)
     cases eq'
     have m4:=mr1 (F:=F) k5 (p2 q hq')
     rw [← hch] at m4
     have fin:=all.then m4
     rw [show (cN u s).length + 1 + (cN v (s + 1)).length + 1 + 1 + 1=(cN u s).length + (cN v (s + 1)).length + 4 by omega] at fin
     refine ⟨_,fin,⟨⟨q0,q1,gc.h0,gc.h1,gc.sl⟩,by show c.ks.length≤c.p + 1 + 0 + 1 + 0 + 1 + 0;omega⟩,rfl,by show c.p + 1 + 0 + 1 + 0 + 1 + 0=_;rw [hcp];show b.p + 1 + 0 + _ + 1 + 0 + 1 + 0 + 1 + 0=_;rw [hbp];omega,fun y hy=>?_⟩
     have:=hcl y (by omega)
     rw [this]
     show J2 (pK b.ks (.inl (s:Int))) (pD b.ks b.ds (.inl (s:Int)) (.int b.h)) (.inl (y:Int))=_
     rw [ki gb.sl.len,if_neg (fun z=>by have:=Sum.inl.inj z;omega)]
     exact hbl y hy
end
end K20
set_option Elab.async false
set_option linter.all false
set_option maxRecDepth 100000
set_option maxHeartbeats 400000
namespace K20
open PySem PySem.Spec PyProof.Rows L2 M
section
variable {μ ν ν':Mu} {ns:List Str} {ds:List D} {ρ:En} {mv:MX} {v:D}
theorem i_set {nm:Str} (h0:ρ[0]? =some (some (.ref μ.length))) (hv:mv ρ (μ++[.obj "Machine" ns ds]++ν)=.ok v (μ++[.obj "Machine" ns ds]++ν')) (hn:nm∉ns) (hl:ns.length=ds.length) (hs:ns.length < 900) :
  yq okM nm (mVar 0) mv ρ (μ++[.obj "Machine" ns ds]++ν)=.ok (.nx ρ) (μ++[.obj "Machine" (ns++[nm]) (ds++[v])]++ν'):=by
 have e:(μ++[.obj "Machine" ns ds]++ν')[μ.length]? =some (.obj "Machine" ns ds):=by
  rw [List.append_assoc,List.getElem?_append_right (Nat.le_refl _),Nat.sub_self]
  rfl
 have e2:wu okM (.ref μ.length) (μ++[.obj "Machine" ns ds]++ν')=some (μ.length,("Machine":Str),ns,ds):=by
  unfold wu
  dsimp only
  rw [e]
  dsimp only
  rw [if_pos Bw]
 unfold yq
 rw [hv,bind_ok,v_var 0 h0,bind_ok]
 unfold Em
 rw [e2]
 dsimp only
 rw [if_pos hs,Ec hn hl,List.append_assoc,List.set_append_right _ _ (Nat.le_refl _),Nat.sub_self,List.append_assoc]
 rfl
end
theorem ao2 (μ:Mu):u5 [.ref μ.length] (μ++[.obj "Machine" [] []])=.ok .non (mac μ 0 0 [] [] 0 0 .non):=by
 have e0:μ++[Cell.obj "Machine" [] []]=μ++[Cell.obj "Machine" [] []]++[]:=(List.append_nil _).symm
 rw [e0]
 have ed:∀ (ns:List Str) (ds:List D),Bq [some (.ref μ.length)] (μ++[.obj "Machine" ns ds]++[])=.ok (.ref (μ.length + 1)) (μ++[.obj "Machine" ns ds]++[.dic [] []]):=fun ns ds=>by
  unfold Bq
  rw [List.append_nil,List.length_append]
  rfl
 have em:mac μ 0 0 [] [] 0 0 .non=μ++[.obj "Machine" nms [.int 0,.int 0,.ref (μ.length + 1),.int 0,.int 0,.non]]++[.dic [] []]:=by
  unfold mac
  rw [List.append_assoc]
  rfl
 rw [em]
 exact zh 0 ((v_seqN (i_set rfl rfl (by decide +kernel) rfl (by decide))).trans ((v_seqN (i_set rfl rfl (by decide +kernel) rfl (by decide))).trans ((v_seqN (i_set rfl (ed _ _) (by decide +kernel) rfl (by decide))).trans ((v_seqN (i_set rfl rfl (by decide +kernel) rfl (by decide))).trans ((v_seqN (i_set rfl rfl (by decide +kernel) rfl (by decide))).trans (i_set rfl rfl (by decide +kernel) rfl (by decide)))))))
theorem aQ9 (i:Nat) {μ μ0:Mu} {h o:Int} {ks:List DK} {ds:List D} {p n:Int} {t:D} {ρ:En} {mo:MX} {nm:Str} {v:D} (hm:mo ρ μ=.ok (.ref μ0.length) (mac μ0 h o ks ds p n t)) (hn:nms[i]? =some nm) (hv:([.int h,.int o,.ref (μ0.length + 1),.int p,.int n,t]:List D)[i]? =some v) :
  u8 okM nm mo ρ μ=.ok v (mac μ0 h o ks ds p n t):=by
 unfold u8
 rw [hm,bind_ok,Xz]
 show ofO _ (Qs nm nms ([.int h,.int o,.ref (μ0.length + 1),.int p,.int n,t]:List D))=_
 rw [vo (ds:=([.int h,.int o,.ref (μ0.length + 1),.int p,.int n,t]:List D)) fm rfl hn,hv]
 rfl
section
variable {F:Cd} {bs:List Int}
theorem zp:∀ (b:B) (y n:Nat) (C:Cd),∃ L,cT b y n C=L++C
 | .tru b,y,n,C=>⟨[_],rfl⟩
 | .nt a,y,n,C=>zp a n y C
 | .both a b,y,n,C=>by
  obtain ⟨L,e⟩:=zp b y n C
  obtain ⟨L',e'⟩:=zp a (cT b y n C).length n (cT b y n C)
  exact ⟨L'++L,by simp only [cT];rw [e',e,List.append_assoc]⟩
 | .eith a b,y,n,C=>by
  obtain ⟨L,e⟩:=zp b y n C
  obtain ⟨L',e'⟩:=zp a y (cT b y n C).length (cT b y n C)
  exact ⟨L'++L,by simp only [cT];rw [e',e,List.append_assoc]⟩
 | .cmp x a b,y,n,C=>⟨cN a 0++(Jr 0,0)::(cN b 1++[(Jk,1),(jg 0,1),(wx x (C.length - y) (C.length - n),0)]),by simp [cT]⟩
theorem Vr {p:Nat} {L C:Cd} (h:F.drop p=L++C) (hp:p≤F.length):F.drop (F.length - C.length)=C∧F.length=p + L.length + C.length:=by
 have hl:F.length - p=L.length + C.length:=by rw [← List.length_drop,h,List.length_append]
 have e:F.length - C.length=p + L.length:=by omega
 exact ⟨by rw [e];exact Z8 h,by omega⟩
theorem q8 (hB:Zk bs) (hF:F.length≤9000):∀ (b:B) (y n:Nat) (C:Cd) (a:S5),b.ok→b.fits→F.drop a.p=cT b y n C→a.p≤F.length→y≤C.length→n≤C.length→Gd a →
  (b.ev bs=.non→MT F bs (F.length - a.p) a 0)∧∀ k,b.ev bs=.bl k→∃ c s,MR F bs c a s∧Gd s∧s.p=F.length - (if k then y else n)∧c + a.p≤s.p
 | .tru b,y,n,C,a,h,hf,hd,hp,hy,hn,G=>by
  refine ⟨fun z=>(by cases z),fun k hk=>?_⟩
  have hk:b=k:=D.bl.inj hk
  subst hk
  obtain ⟨g1,g2⟩:=y8 (F:=F) (e:=(ba (C.length - (if b then y else n)),0)) (X:=C) hd
  obtain ⟨_,hl⟩:=Vr (F:=F) (L:=[(ba (C.length - (if b then y else n)),0)]) (C:=C) hd hp
  have hl:F.length=a.p + 1 + C.length:=hl
  have hz:(if b then y else n)≤C.length:=by split <;> assumption
  have hk:=G.kl
  refine ⟨1,_,mr1 g1 ag7,⟨G.toIn,by show a.ks.length≤a.p + 1 + (C.length - (if b then y else n));omega⟩,?_,?_⟩
  ·show a.p + 1 + (C.length - (if b then y else n))=_
   omega
  ·show 1 + a.p≤a.p + 1 + (C.length - (if b then y else n))
   omega
 | .nt u,y,n,C,a,h,hf,hd,hp,hy,hn,G=>by
  obtain ⟨f1,r1⟩:=q8 hB hF u n y C a h hf hd hp hn hy G
  simp only [B.ev]
  rcases B.bl_ev hB u h with e | ⟨k,e⟩
  ·rw [e]
   exact ⟨fun _=>f1 e,fun k z=>(by cases z)⟩
  ·rw [e]
   refine ⟨fun z=>(by cases z),fun k' hk=>?_⟩
   have hk:(!k)=k':=D.bl.inj hk
   subst hk
   obtain ⟨c,s,h1,h2,h3,h4⟩:=r1 k e
   exact ⟨c,s,h1,h2,by rw [h3];cases k <;> rfl,h4⟩
 | .both u v,y,n,C,a,h,hf,hd,hp,hy,hn,G=>by
  obtain ⟨L,eL⟩:=zp v y n C
  have hvl:C.length≤(cT v y n C).length:=by rw [eL,List.length_append];omega
  obtain ⟨L',eL'⟩:=zp u (cT v y n C).length n (cT v y n C)
  obtain ⟨f1,r1⟩:=q8 hB hF u (cT v y n C).length n (cT v y n C) a h.1 hf.1 hd hp (Nat.le_refl _) (by omega) G
  obtain ⟨hs,hlen⟩:=Vr (F:=F) (C:=cT v y n C) (hd.trans eL') hp
  simp only [B.ev]
  rcases B.bl_ev hB u h.1 with e | ⟨k,e⟩
  ·rw [e]
   exact ⟨fun _=>f1 e,fun k z=>(by cases z)⟩
  ·rw [e]
   obtain ⟨c,s,h1,h2,h3,h4⟩:=r1 k e
   cases k with
   | false =>
    refine ⟨fun z=>(by cases z),fun k' hk=>?_⟩
    have hk:false=k':=D.bl.inj hk
    subst hk
    exact ⟨c,s,h1,h2,h3,h4⟩
   | true =>
    have h3:s.p=F.length - (cT v y n C).length:=h3
    obtain ⟨f2,r2⟩:=q8 hB hF v y n C s h.2 hf.2 (by rw [h3];exact hs) (by omega) hy hn h2
    refine ⟨fun z=>(h1.tell (f2 z)).more (by omega),fun k' hk=>?_⟩
    obtain ⟨c',s',g1,g2,g3,g4⟩:=r2 k' hk
    exact ⟨c + c',s',h1.then g1,g2,g3,by omega⟩
 | .eith u v,y,n,C,a,h,hf,hd,hp,hy,hn,G=>by
  obtain ⟨L,eL⟩:=zp v y n C
  have hvl:C.length≤(cT v y n C).length:=by rw [eL,List.length_append];omega
  obtain ⟨L',eL'⟩:=zp u y (cT v y n C).length (cT v y n C)
  obtain ⟨f1,r1⟩:=q8 hB hF u y (cT v y n C).length (cT v y n C) a h.1 hf.1 hd hp (by omega) (Nat.le_refl _) G
  obtain ⟨hs,hlen⟩:=Vr (F:=F) (C:=cT v y n C) (hd.trans eL') hp
  simp only [B.ev]
  rcases B.bl_ev hB u h.1 with e | ⟨k,e⟩
  ·rw [e]
   exact ⟨fun _=>f1 e,fun k z=>(by cases z)⟩
  ·rw [e]
   obtain ⟨c,s,h1,h2,h3,h4⟩:=r1 k e
   cases k with
   | true =>
    refine ⟨fun z=>(by cases z),fun k' hk=>?_⟩
    have hk:true=k':=D.bl.inj hk
    subst hk
    exact ⟨c,s,h1,h2,h3,h4⟩
   | false =>
    have h3:s.p=F.length - (cT v y n C).length:=h3
    obtain ⟨f2,r2⟩:=q8 hB hF v y n C s h.2 hf.2 (by rw [h3];exact hs) (by omega) hy hn h2
    refine ⟨fun z=>(h1.tell (f2 z)).more (by omega),fun k' hk=>?_⟩
    obtain ⟨c',s',g1,g2,g3,g4⟩:=r2 k' hk
    exact ⟨c + c',s',h1.then g1,g2,g3,by omega⟩
 | .cmp x u v,y,n,C,a,h,hf,hd,hp,hy,hn,G=>by
  have hd':F.drop a.p=cN u 0++(Jr 0,0)::(cN v 1++(Jk,1)::(jg 0,1)::(wx x (C.length - y) (C.length - n),0)::C):=hd
  obtain ⟨_,hlen⟩:=Vr (F:=F) hd' hp
  simp only [List.length_cons,List.length_append] at hlen
  obtain ⟨f1,r1⟩:=kz hB hF u 0 _ a h.2.1 (by have:=hf.1;omega) hd' G
  simp only [B.ev]
  rcases N.num_ev hB u h.2.1 with e | ⟨i,e,i0,i1⟩
  ·rw [e]
   exact ⟨fun _=>(f1 e).more (by omega),fun i z=>(by cases z)⟩
  ·rw [e]
   obtain ⟨b,rb,gb,hbh,hbp,hbl⟩:=r1 i e
   have hd2:=Z8 hd'
   rw [← hbp] at hd2
   obtain ⟨g1,g2⟩:=y8 hd2
   have hkb:=gb.kl
   have m1:=mr1 (h:=b.h) (o:=b.o) (ks:=b.ks) (ds:=b.ds) g1 (bv (bs:=bs) (by omega) (by decide))
   have gb2:Gd ⟨b.p + 1 + 0,b.h,b.o,pK b.ks (.inl ((0:Nat):Int)),pD b.ks b.ds (.inl ((0:Nat):Int)) (.int b.h)⟩:=⟨⟨gb.h0,gb.h1,gb.o0,gb.o1,gb.sl.put _ ⟨b.h,rfl,gb.h0,gb.h1⟩⟩,by have:=a88 b.ks (.inl ((0:Nat):Int));show (pK b.ks (.inl ((0:Nat):Int))).length≤b.p + 1 + 0;omega⟩
   obtain ⟨f3,r3⟩:=kz hB hF v 1 _ _ h.2.2 (by have:=hf.2;omega) (show F.drop (b.p + 1 + 0)=_ from g2) gb2
   rcases N.num_ev hB v h.2.2 with e' | ⟨j,e',j0,j1⟩
   ·rw [e']
    exact ⟨fun _=>((rb.then m1).tell (f3 e')).more (by omega),fun i z=>(by cases z)⟩
   ·rw [e']
    obtain ⟨c,rc,gc,hch,hcp,hcl⟩:=r3 j e'
    have hcp:c.p=b.p + 1 + 0 + (cN v 1).length:=hcp
    have hd4:=Z8 (show F.drop (b.p + 1 + 0)=_ from g2)
    rw [← hcp] at hd4
    obtain ⟨k1,k2⟩:=y8 hd4
    obtain ⟨k3,k4⟩:=y8 k2
    obtain ⟨k5,k6⟩:=y8 k4
    have n1:=mr1 (h:=c.h) (o:=c.o) (ks:=c.ks) (ds:=c.ds) k1 (cu (bs:=bs))
    have hlk:J2 c.ks c.ds (.inl ((0:Nat):Int))=some (.int i):=by
     have:=hcl 0 (by decide)
     rw [this]
     show J2 (pK b.ks (.inl ((0:Nat):Int))) (pD b.ks b.ds (.inl ((0:Nat):Int)) (.int b.h)) (.inl ((0:Nat):Int))=_
     rw [ki gb.sl.len,if_pos rfl,hbh]
    have n2:=mr1 (h:=c.h) (o:=c.h) (ks:=c.ks) (ds:=c.ds) k3 (Ep (bs:=bs) (s:=0) (by decide) hlk)
    refine ⟨fun z=>(by cases z),fun k hk=>?_⟩
    have hk':cp x i c.h=.bl k:=by rw [hch];exact hk
    have n3:=mr1 (F:=F) (bs:=bs) (h:=i) (o:=c.h) (ks:=c.ks) (ds:=c.ds) k5 (aw3 h.1 hk')
    have hkc:=gc.kl
    have hz:(if k then C.length - y else C.length - n)=C.length - (if k then y else n):=by cases k <;> rfl
    rw [hz] at n3
    have hzz:(if k then y else n)≤C.length:=by split <;> assumption
    refine ⟨_,_,((((rb.then m1).then rc).then n1).then n2).then n3,⟨⟨i0,i1,gc.h0,gc.h1,gc.sl⟩,?_⟩,?_,?_⟩
    ·show c.ks.length≤c.p + 1 + 0 + 1 + 0 + 1 + (C.length - (if k then y else n))
     omega
    ·show c.p + 1 + 0 + 1 + 0 + 1 + (C.length - (if k then y else n))=_
     omega
    ·show _≤c.p + 1 + 0 + 1 + 0 + 1 + (C.length - (if k then y else n))
     omega
noncomputable def tk:D→Bool
 | .bl b=>b
 | _=>false
theorem v_new {cs:List D} {μ:Mu}:aD0 "Machine" u5 mNil [some (.lst cs),some (pk bs),none] μ=.ok (.ref μ.length) (mac μ 0 0 [] [] 0 0 .non):=by
 show aa4 "Machine" u5 [] μ=_
 unfold aa4
 rw [ao2]
 rfl
theorem ax2 (hB:Zk bs) {b:B} (h:b.ok) (hf:b.fits) (hl:(Je b).length≤2000) (μ:Mu):∃ μ',vm [.lst ((Je b).map Prod.fst),pk bs] μ=.ok (.int (if tk (b.ev bs) then 1 else 0)) μ':=by
 have G:Gd ⟨0,0,0,[],[]⟩:=⟨⟨by decide,by decide,by decide,by decide,⟨rfl,fun q d h=>by cases h⟩⟩,Nat.le_refl _⟩
 obtain ⟨f1,r1⟩:=q8 (F:=Je b) hB (by omega) b 2 1 C0 ⟨0,0,0,[],[]⟩ h hf rfl (Nat.zero_le _) (by decide) (by decide) G
 obtain ⟨L,eL⟩:=zp b 2 1 C0
 obtain ⟨hs,hlen⟩:=Vr (F:=Je b) (p:=0) (C:=C0) eL (Nat.zero_le _)
 have hlen:(Je b).length=0 + L.length + 2:=hlen
 have hs:(Je b).drop ((Je b).length - 2)=C0:=hs
 obtain ⟨e1,e2⟩:=y8 hs
 obtain ⟨e3,_⟩:=y8 e2
 have fin:∀ t:Int,MT (Je b) bs 2050 ⟨0,0,0,[],[]⟩ t→∃ μ',vm [.lst ((Je b).map Prod.fst),pk bs] μ=.ok (.int t) μ':=fun t ht=>by
  obtain ⟨h',o',ks',ds',g,m,e⟩:=ht μ 49 0
  have ee:wc [.lst ((Je b).map Prod.fst),pk bs] μ=.ok (.ref μ.length) (mac μ h' o' ks' ds' g m (.int t)):=jj 1 ((v_set 2 v_new).trans ((v_seqN e).trans (v_ret rfl)))
  exact ⟨_,jj 0 (v_ret (aQ9 5 (v_call rfl ee) rfl rfl))⟩
 rcases B.bl_ev hB b h with e | ⟨k,e⟩
 ·rw [e]
  exact fin 0 ((f1 e).more (by omega))
 ·rw [e]
  obtain ⟨c,s,h1,h2,h3,h4⟩:=r1 k e
  have h4:c + 0≤s.p:=h4
  cases k with
  | true =>
   have h3:s.p=(Je b).length - 2:=h3
   exact fin 1 ((h1.tell (mt1 (h:=s.h) (o:=s.o) (ks:=s.ks) (ds:=s.ds) (by rw [h3];exact e1) (bw (i:=1) (by decide) (by decide)))).more (by omega))
  | false =>
   have h3:s.p=(Je b).length - 2 + 1:=by rw [h3];show (Je b).length - 1=_;omega
   exact fin 0 ((h1.tell (mt1 (h:=s.h) (o:=s.o) (ks:=s.ks) (ds:=s.ds) (by rw [h3];exact e3) (bw (i:=0) (by decide) (by decide)))).more (by omega))
end
end K20
set_option Elab.async false
set_option linter.all false
set_option maxRecDepth 100000
set_option maxHeartbeats 400000
namespace K20
open PySem PySem.Spec PyProof.Rows L2 M
theorem aJ9 (k:Nat):yd (k + 1) 0=fnOf 3 (Ka (yd k)):=rfl
theorem rc_t (k:Nat):Uv (k + 1) 0=fnOf 3 (Xi (Uv k)):=rfl
noncomputable def ncN:Nat→Nat
 | 0=>1
 | d + 1=>2 * ncN d + 2
noncomputable def ncB:Nat→Nat
 | 0=>16
 | d + 1=>2 * ncB d + 2
theorem am3:∀ d,1≤ncN d
 | 0=>Nat.le_refl _
 | d + 1=>by simp only [ncN];omega
theorem ae9:∀ d,16≤ncB d
 | 0=>Nat.le_refl _
 | d + 1=>by have:=ae9 d;simp only [ncB];omega
section
variable {ns:List Int} {μ:Mu}
theorem v_lin {ρ:En} {x b:Nat} (h:ρ[x]? =some (some (.int b))) (p q:Nat) (hp:p < 100):mBin Jj (mBin Uh (mC (.int p)) (mVar x)) (mC (.int q)) ρ μ=.ok (.int ((p * b + q:Nat):Int)) μ:=by
 refine v_bin (x:=.int (p * b)) (y:=.int q) (v_bin rfl (v_var x h) (y0 _ _ (by omega) (by omega))) rfl ?_
 show some (D.int ((p:Int) * b + q))=_
 congr 2
theorem v_dec {ρ:En} {x d:Nat} (h:ρ[x]? =some (some (.int ((d + 1:Nat):Int)))):mBin yu (mVar x) (mC (.int 1)) ρ μ=.ok (.int d) μ:=by
 refine v_bin (v_var x h) rfl ?_
 show some (D.int (((d + 1:Nat):Int) - 1))=_
 congr 2
 omega
theorem aJ0 {d:D} (h:d∈[D.int 1,.int 2,.int 4]):∃ s,d=.int s∧(s=1∨s=2∨s=4):=by
 simp only [List.mem_cons,List.not_mem_nil,or_false] at h
 rcases h with rfl | rfl | rfl
 ·exact ⟨1,rfl,.inl rfl⟩
 ·exact ⟨2,rfl,.inr (.inl rfl)⟩
 ·exact ⟨4,rfl,.inr (.inr rfl)⟩
theorem aN6 {n:Int} {d:D} (h0:0≤n) (h:d∈[D.int 0,.int 1,.int 2,.int 7,.int 12,.int 20,.int 33,.int 255,.int 4294967295,.int (n % 4294967296)]):∃ i,d=.int i∧0≤i∧i < 4294967296:=by
 simp only [List.mem_cons,List.not_mem_nil,or_false] at h
 rcases h with rfl | rfl | rfl | rfl | rfl | rfl | rfl | rfl | rfl | rfl
 all_goals first | exact ⟨_,rfl,by decide,by decide⟩ | exact ⟨_,rfl,by omega,by omega⟩
theorem Bo {r:MSt} {b:Nat} {dp:D}:∃ a:N,(jz (Js 4 (mBin gIdx (ua (mCons (mC (.int 0)) (mCons (mC (.int 1)) (mCons (mC (.int 2)) (mCons (mC (.int 7)) (mCons (mC (.int 12)) (mCons (mC (.int 20)) (mCons (mC (.int 33)) (mCons (mC (.int 255)) (mCons (mC (.int 4294967295)) (mCons (mBin Jp (mVar 3) (mC (.int 4294967296))) mNil))))))))))) (mBin Jp (mBin Ug (mVar 3) (mC (.int 5))) (mC (.int 10)))))
  (jt (mBin gIdx (ua (mCons (ja (mCons (mC (.str yz)) mNil)) (mCons (ja (mCons (mC (.str js)) (mCons (mVar 4) mNil))) (mCons (ja (mCons (mC (.str js)) (mCons (mVar 4) mNil))) mNil)))) (mBin Jp (mBin Ug (mVar 3) (mC (.int 50))) (mC (.int 3)))))) [some (sc ns),some (.int b),some dp,some (.int (mix ns b)),none,none] μ=.ok (.rt a.d) μ∧a.ok∧a.c≤1∧a.dp≤1:=by
 have h0:=fi ns b
 obtain ⟨d,hd,e⟩:=wz (ρ:=[some (sc ns),some (.int b),some dp,some (.int (mix ns b)),none,none]) (μ:=μ) (m:=mBin Ug (mVar 3) (mC (.int 5))) (L:=[.int 0,.int 1,.int 2,.int 7,.int 12,.int 20,.int 33,.int 255,.int 4294967295,.int (mix ns b % 4294967296)]) (n:=10)
  (ms:=mCons (mC (.int 0)) (mCons (mC (.int 1)) (mCons (mC (.int 2)) (mCons (mC (.int 7)) (mCons (mC (.int 12)) (mCons (mC (.int 20)) (mCons (mC (.int 33)) (mCons (mC (.int 255)) (mCons (mC (.int 4294967295)) (mCons (mBin Jp (mVar 3) (mC (.int 4294967296))) mNil))))))))))
  (v_cons rfl (v_cons rfl (v_cons rfl (v_cons rfl (v_cons rfl (v_cons rfl (v_cons rfl (v_cons rfl (v_cons rfl (v_cons (v_mod rfl (by decide)) v_nil)))))))))) (v_div (x:=3) rfl (by decide) (by decide)) rfl (by decide)
 obtain ⟨i,rfl,i0,i1⟩:=aN6 h0 hd
 obtain ⟨d2,hd2,e2⟩:=wz (ρ:=[some (sc ns),some (.int b),some dp,some (.int (mix ns b)),some (.int i),none]) (μ:=μ) (m:=mBin Ug (mVar 3) (mC (.int 50))) (L:=[.tup [.str yz],.tup [.str js,.int i],.tup [.str js,.int i]]) (n:=3)
  (ms:=mCons (ja (mCons (mC (.str yz)) mNil)) (mCons (ja (mCons (mC (.str js)) (mCons (mVar 4) mNil))) (mCons (ja (mCons (mC (.str js)) (mCons (mVar 4) mNil))) mNil))) rfl (v_div (x:=3) rfl (by decide) (by decide)) rfl (by decide)
 simp only [List.mem_cons,List.not_mem_nil,or_false] at hd2
 rcases hd2 with rfl | rfl | rfl
 ·exact ⟨.len,(v_set 4 e).trans (v_ret e2),trivial,Nat.le_refl _,Nat.le_refl _⟩
 ·exact ⟨.num i,(v_set 4 e).trans (v_ret e2),⟨i0,i1⟩,Nat.le_refl _,Nat.le_refl _⟩
 ·exact ⟨.num i,(v_set 4 e).trans (v_ret e2),⟨i0,i1⟩,Nat.le_refl _,Nat.le_refl _⟩
theorem Q1 (ns:List Int) (μ:Mu):∀ (k d b:Nat),d < k→∃ a:N,yd k 0 [sc ns,.int b,.int d] μ=.ok a.d μ∧a.ok∧a.c≤ncN d∧a.dp≤d + 1
 | 0,d,b,h=>absurd h (by omega)
 | k + 1,0,b,h=>by
  rw [aJ9]
  obtain ⟨a,e,h1,h2,h3⟩:=Bo (ns:=ns) (μ:=μ) (r:=jx) (b:=b) (dp:=.int ((0:Nat):Int))
  exact ⟨a,jj 3 ((v_set 3 (v_call rfl (mix_at ns b rfl μ))).trans (v_seqR ((v_iteT (v_orT rfl)).trans e))),h1,h2,h3⟩
 | k + 1,d + 1,b,h=>by
  rw [aJ9]
  have h0:=fi ns b
  have tz:mTest (mBin gEq (mVar 2) (mC (.int 0))) [some (sc ns),some (.int b),some (.int ((d + 1:Nat):Int)),some (.int (mix ns b)),none,none] μ=.ok false μ:=by
   refine ji (v_bin rfl rfl ?_)
   rw [deref_int,deref_int,Z3,show (((d + 1:Nat):Int) == 0)=false by rw [beq_eq_false_iff_ne];omega]
  have t5:mTest (mBin gLt (mBin Jp (mVar 3) (mC (.int 5))) (mC (.int 2))) [some (sc ns),some (.int b),some (.int ((d + 1:Nat):Int)),some (.int (mix ns b)),none,none] μ=.ok (decide (mix ns b % 5 < 2)) μ:=ji (v_bin (v_mod rfl (by decide)) rfl (D7 _ _))
  have t2:mTest (mBin gEq (mBin Jp (mVar 3) (mC (.int 5))) (mC (.int 2))) [some (sc ns),some (.int b),some (.int ((d + 1:Nat):Int)),some (.int (mix ns b)),none,none] μ=.ok (mix ns b % 5 == 2) μ:=ji (v_bin (v_mod rfl (by decide)) rfl (Z3 _ _))
  obtain ⟨a1,ea,oka,ca,da⟩:=Q1 ns μ k d (3 * b + 1) (by omega)
  obtain ⟨a2,eb,okb,cb,db⟩:=Q1 ns μ k d (3 * b + 2) (by omega)
  by_cases h5:mix ns b % 5 < 2
  ·rw [decide_eq_true h5] at t5
   obtain ⟨a,e,h1,h2,h3⟩:=Bo (ns:=ns) (μ:=μ) (r:=jx) (b:=b) (dp:=.int ((d + 1:Nat):Int))
   exact ⟨a,jj 3 ((v_set 3 (v_call rfl (mix_at ns b rfl μ))).trans (v_seqR ((v_iteT ((v_orF tz).trans t5)).trans e))),h1,by have:=am3 (d + 1);omega,by omega⟩
  ·rw [decide_eq_false h5] at t5
   by_cases h2:(mix ns b % 5 == 2)=true
   ·rw [h2] at t2
    obtain ⟨s,hs,es⟩:=wz (ρ:=[some (sc ns),some (.int b),some (.int ((d + 1:Nat):Int)),some (.int (mix ns b)),none,none]) (μ:=μ) (m:=mBin Ug (mVar 3) (mC (.int 5))) (L:=[.int 1,.int 2,.int 4]) (n:=3) (ms:=mCons (mC (.int 1)) (mCons (mC (.int 2)) (mCons (mC (.int 4)) mNil))) rfl (v_div (x:=3) rfl (by decide) (by decide)) rfl (by decide)
    obtain ⟨s,rfl,hs3⟩:=aJ0 hs
    exact ⟨.load s a1,jj 3 ((v_set 3 (v_call rfl (mix_at ns b rfl μ))).trans ((v_skip ((v_orF tz).trans t5)).trans (v_take t2 (v_tup (v_cons rfl (v_cons es (v_cons (v_call (v_cons rfl (v_cons (v_lin rfl 3 1 (by decide)) (v_cons (v_dec rfl) v_nil))) ea) v_nil))))))),⟨hs3,oka⟩,by simp only [N.c,ncN];omega,by simp only [N.dp];omega⟩
   ·rw [Bool.not_eq_true] at h2
    rw [h2] at t2
    have eo:=aM9 (mix ns b / 5) μ
    exact ⟨.op (opw (mix ns b / 5)) a1 a2,jj 3 ((v_set 3 (v_call rfl (mix_at ns b rfl μ))).trans ((v_skip ((v_orF tz).trans t5)).trans ((v_skip t2).trans ((v_set 5 (v_call (v_cons rfl (v_cons (v_lin rfl 3 1 (by decide)) (v_cons (v_dec rfl) v_nil))) ea)).trans (v_ret (v_tup (v_cons (v_call (v_cons (v_div (x:=3) rfl (by decide) (by decide)) v_nil) eo) (v_cons rfl (v_cons (v_call (v_cons rfl (v_cons (v_lin rfl 3 2 (by decide)) (v_cons (v_dec rfl) v_nil))) eb) v_nil))))))))),⟨ak9 _,oka,okb⟩,by simp only [N.c,ncN];omega,by simp only [N.dp];omega⟩
theorem Vx (ns:List Int) (μ:Mu):∀ (k d b:Nat),d < k→∃ a:B,Uv k 0 [sc ns,.int b,.int d] μ=.ok a.d μ∧a.ok∧a.nd∧a.c≤ncB d∧a.dp≤d + 1
 | 0,d,b,h=>absurd h (by omega)
 | k + 1,d,b,h=>by
  rw [rc_t]
  have h0:=fi ns b
  have t0:mTest (mBin gGt (mVar 2) (mC (.int 0))) [some (sc ns),some (.int b),some (.int d),some (.int (mix ns b)),none,none] μ=.ok (decide ((d:Int) > 0)) μ:=ji (v_bin rfl rfl (Cp _ _))
  have t3:mTest (mBin gLt (mBin Jp (mVar 3) (mC (.int 5))) (mC (.int 3))) [some (sc ns),some (.int b),some (.int d),some (.int (mix ns b)),none,none] μ=.ok (decide (mix ns b % 5 < 3)) μ:=ji (v_bin (v_mod rfl (by decide)) rfl (D7 _ _))
  have leaf:mAnd (mTest (mBin gGt (mVar 2) (mC (.int 0)))) (mTest (mBin gLt (mBin Jp (mVar 3) (mC (.int 5))) (mC (.int 3)))) [some (sc ns),some (.int b),some (.int d),some (.int (mix ns b)),none,none] μ=.ok false μ→∃ a:B,fnOf 3 (Xi (Uv k)) [sc ns,.int b,.int d] μ=.ok a.d μ∧a.ok∧a.nd∧a.c≤ncB d∧a.dp≤d + 1:=fun hf=>by
   have t7:mTest (mBin gEq (mBin Jp (mBin Ug (mVar 3) (mC (.int 5))) (mC (.int 7))) (mC (.int 0))) [some (sc ns),some (.int b),some (.int d),some (.int (mix ns b)),none,none] μ=.ok (mix ns b / 5 % 7 == 0) μ:=ji (v_bin (v_mod (v_div (x:=3) rfl (by decide) (by decide)) (by decide)) rfl (Z3 _ _))
   have hcb:=ae9 d
   by_cases h7:(mix ns b / 5 % 7 == 0)=true
   ·rw [h7] at t7
    exact ⟨.tru (mix ns b / 35 % 2 == 0),jj 3 ((v_set 3 (v_call rfl (mix_at ns b rfl μ))).trans ((v_skip hf).trans (v_take t7 (v_tup (v_cons rfl (v_cons (v_bin (v_mod (v_div (x:=3) rfl (by decide) (by decide)) (by decide)) rfl (Z3 _ _)) v_nil)))))),trivial,trivial,by simp only [B.c];omega,by simp only [B.dp];omega⟩
   ·rw [Bool.not_eq_true] at h7
    rw [h7] at t7
    obtain ⟨s,hs,es⟩:=wz (ρ:=[some (sc ns),some (.int b),some (.int d),some (.int (mix ns b)),none,none]) (μ:=μ) (m:=mBin Ug (mVar 3) (mC (.int 35))) (L:=[.str uh,.str Jm,.str ur,.str J1,.str U1,.str jd]) (n:=6) (ms:=mCons (mC (.str uh)) (mCons (mC (.str Jm)) (mCons (mC (.str ur)) (mCons (mC (.str J1)) (mCons (mC (.str U1)) (mCons (mC (.str jd)) mNil)))))) rfl (v_div (x:=3) rfl (by decide) (by decide)) rfl (by decide)
    obtain ⟨x,rfl,hx⟩:∃ x,s=.str x∧x∈cpL:=by
     simp only [List.mem_cons,List.not_mem_nil,or_false] at hs
     rcases hs with rfl | rfl | rfl | rfl | rfl | rfl <;> exact ⟨_,rfl,by simp [cpL]⟩
    obtain ⟨a1,ea,oka,ca,da⟩:=Q1 ns μ 8 2 (5 * b + 3) (by decide)
    obtain ⟨a2,eb,okb,cb,db⟩:=Q1 ns μ 8 1 (5 * b + 4) (by decide)
    have c2:ncN 2=10:=rfl
    have c1:ncN 1=4:=rfl
    exact ⟨.cmp x a1 a2,jj 3 ((v_set 3 (v_call rfl (mix_at ns b rfl μ))).trans ((v_skip hf).trans ((v_skip t7).trans ((v_set 5 es).trans (v_ret (v_tup (v_cons rfl (v_cons (v_call (v_cons rfl (v_cons (v_lin rfl 5 3 (by decide)) (v_cons rfl v_nil))) ea) (v_cons (v_call (v_cons rfl (v_cons (v_lin rfl 5 4 (by decide)) (v_cons rfl v_nil))) eb) v_nil))))))))),⟨hx,oka,okb⟩,⟨by omega,by omega⟩,by simp only [B.c];omega,by simp only [B.dp];omega⟩
  cases d with
  | zero=>exact leaf (yt t0)
  | succ d =>
   rw [decide_eq_true (show ((d + 1:Nat):Int) > 0 by omega)] at t0
   by_cases h3:mix ns b % 5 < 3
   ·rw [decide_eq_true h3] at t3
    obtain ⟨a1,ea,oka,na,ca,da⟩:=Vx ns μ k d (2 * b + 1) (by omega)
    obtain ⟨a2,eb,okb,nb,cb,db⟩:=Vx ns μ k d (2 * b + 2) (by omega)
    have tn:mTest (mBin gEq (mBin Jp (mVar 3) (mC (.int 5))) (mC (.int 0))) [some (sc ns),some (.int b),some (.int ((d + 1:Nat):Int)),some (.int (mix ns b)),some a1.d,none] μ=.ok (mix ns b % 5 == 0) μ:=ji (v_bin (v_mod rfl (by decide)) rfl (Z3 _ _))
    have hd:∀ {r:MSt} {x:D},(jz (jl (mTest (mBin gEq (mBin Jp (mVar 3) (mC (.int 5))) (mC (.int 0)))) (jt (ja (mCons (mC (.str w_not)) (mCons (mVar 4) mNil)))) jx) (jt (ja (mCons (mBin gIdx (ua (mCons (mC (.str Jb)) (mCons (mC (.str Jw)) mNil))) (mBin yu (mBin Jp (mVar 3) (mC (.int 5))) (mC (.int 1)))) (mCons (mVar 4) (mCons (mCall (Uv k 0) (mCons (mVar 0) (mCons (mBin Jj (mBin Uh (mC (.int 2)) (mVar 1)) (mC (.int 2))) (mCons (mBin yu (mVar 2) (mC (.int 1))) mNil)))) mNil)))))) [some (sc ns),some (.int b),some (.int ((d + 1:Nat):Int)),some (.int (mix ns b)),some a1.d,none] μ=.ok (.rt x) μ→fnOf 3 (Xi (Uv k)) [sc ns,.int b,.int ((d + 1:Nat):Int)] μ=.ok x μ:=fun {r x} e =>
     jj 3 ((v_set 3 (v_call rfl (mix_at ns b rfl μ))).trans (v_seqR ((v_iteT ((v_andT t0).trans t3)).trans ((v_set 4 (v_call (v_cons rfl (v_cons (v_lin rfl 2 1 (by decide)) (v_cons (v_dec rfl) v_nil))) ea)).trans e))))
    have jn:∀ (y:List Nat) (i:Nat),mix ns b % 5=((i + 1:Nat):Int)→[D.str Jb,.str Jw][i]? =some (.str y)→(jz (jl (mTest (mBin gEq (mBin Jp (mVar 3) (mC (.int 5))) (mC (.int 0)))) (jt (ja (mCons (mC (.str w_not)) (mCons (mVar 4) mNil)))) jx) (jt (ja (mCons (mBin gIdx (ua (mCons (mC (.str Jb)) (mCons (mC (.str Jw)) mNil))) (mBin yu (mBin Jp (mVar 3) (mC (.int 5))) (mC (.int 1)))) (mCons (mVar 4) (mCons (mCall (Uv k 0) (mCons (mVar 0) (mCons (mBin Jj (mBin Uh (mC (.int 2)) (mVar 1)) (mC (.int 2))) (mCons (mBin yu (mVar 2) (mC (.int 1))) mNil)))) mNil)))))) [some (sc ns),some (.int b),some (.int ((d + 1:Nat):Int)),some (.int (mix ns b)),some a1.d,none] μ=.ok (.rt (.tup [.str y,a1.d,a2.d])) μ:=fun y i hi hy=>by
     have hn:(mix ns b % 5 == 0)=false:=by rw [beq_eq_false_iff_ne];omega
     rw [hn] at tn
     refine (v_skip tn).trans (v_ret (v_tup (v_cons (v_bin (x:=.lst [.str Jb,.str Jw]) (y:=.int i) rfl (v_bin (v_mod rfl (by decide)) rfl ?_) (Zo hy)) (v_cons rfl (v_cons (v_call (v_cons rfl (v_cons (v_lin rfl 2 2 (by decide)) (v_cons (v_dec rfl) v_nil))) eb) v_nil)))))
     show some (D.int (mix ns b % 5 - 1))=_
     congr 2
     omega
    have h3':mix ns b % 5=0∨mix ns b % 5=1∨mix ns b % 5=2:=by omega
    rcases h3' with e | e | e
    ·rw [e] at tn
     exact ⟨.nt a1,hd (r:=jx) (v_take tn rfl),oka,na,by simp only [B.c,ncB];omega,by simp only [B.dp];omega⟩
    ·exact ⟨.both a1 a2,hd (r:=jx) (jn Jb 0 (by omega) rfl),⟨oka,okb⟩,⟨na,nb⟩,by simp only [B.c,ncB];omega,by simp only [B.dp];omega⟩
    ·exact ⟨.eith a1 a2,hd (r:=jx) (jn Jw 1 (by omega) rfl),⟨oka,okb⟩,⟨na,nb⟩,by simp only [B.c,ncB];omega,by simp only [B.dp];omega⟩
   ·rw [decide_eq_false h3] at t3
    exact leaf ((v_andT t0).trans t3)
end
end K20
set_option Elab.async false
set_option linter.all false
set_option maxRecDepth 100000
set_option maxHeartbeats 400000
namespace K20
open PySem PySem.Spec PyProof.Rows L2 M
noncomputable abbrev pEl:MX:=mBin Jp (mBin Ug (mCall Y8 (mCons (mVar 1) (mCons (mBin Jj (mBin Jj (mVar 2) (mC (.int 1))) (mBin Jp (mVar 0) (mC (.int 40)))) mNil))) (mBin Jj (mC (.int 1)) (mVar 0))) (mC (.int 256))
theorem a87 (ns:List Int) (b:Nat) (μ:Mu):∀ (m p:Nat),p + m < 1000→∀ (a:Option D) (acc:List D),∃ bs:List Int,J6 (gN 0) mTT pEl (iL (List.range' p m)) [a,some (sc ns),some (.int b)] μ acc=.ok (acc++bs.map .int) μ∧bs.length=m∧∀ i∈bs,0≤i∧i < 256
 | 0,p,_,a,acc=>⟨[],by simp [J6,iL],rfl,fun _ h=>by simp at h⟩
 | m + 1,p,hp,a,acc=>by
  have e1:pEl [some (.int p),some (sc ns),some (.int b)] μ=.ok (.int (mix ns (b + 1 + p % 40) / (1 + (p:Int)) % 256)) μ:=by
   refine v_bin (x:=.int (mix ns (b + 1 + p % 40) / (1 + (p:Int)))) (v_bin (x:=.int (mix ns (b + 1 + p % 40))) (y:=.int (1 + (p:Int))) (v_call (v_cons rfl (v_cons (v_bin (x:=.int ((b:Int) + 1)) (y:=.int ((p:Int) % 40)) (z:=.int ((b:Int) + 1 + (p:Int) % 40)) rfl (v_bin rfl rfl (Y7 _ _ (by decide))) rfl) v_nil)) (mix_at ns (b + 1 + p % 40) (by omega) μ)) rfl (Z4 _ _ (by omega) (by omega))) rfl (Y7 _ _ (by decide))
  obtain ⟨ds,ih,hl,hb⟩:=a87 ns b μ m (p + 1) (by omega) (some (.int p)) (acc++[.int (mix ns (b + 1 + p % 40) / (1 + (p:Int)) % 256)])
  refine ⟨(mix ns (b + 1 + p % 40) / (1 + (p:Int)) % 256)::ds,?_,by rw [List.length_cons,hl],List.forall_mem_cons.mpr ⟨⟨Int.emod_nonneg _ (by decide),Int.emod_lt_of_pos _ (by decide)⟩,hb⟩⟩
  rw [Xv]
  refine (Zx (ds:=iL (List.range' (p + 1) m)) rfl e1).trans (ih.trans ?_)
  rw [List.append_assoc,List.singleton_append]
  rfl
theorem Ag (ns:List Int) (b:Nat) (μ:Mu):∃ bs,Kw [sc ns,.int b] μ=.ok (pk bs) μ∧Zk bs:=by
 obtain ⟨d,hd,e⟩:=wz (ρ:=[some (sc ns),some (.int b),none]) (μ:=μ) (m:=mCall Y8 (mCons (mVar 0) (mCons (mVar 1) mNil))) (L:=[.int 0,.int 1,.int 3,.int 20,.int 34,.int 60]) (ms:=mCons (mC (.int 0)) (mCons (mC (.int 1)) (mCons (mC (.int 3)) (mCons (mC (.int 20)) (mCons (mC (.int 34)) (mCons (mC (.int 60)) mNil)))))) (n:=6) rfl (v_call rfl (mix_at ns b rfl μ)) rfl (by decide)
 have hk:∃ k:Nat,d=.int k∧k≤60:=by
  simp only [List.mem_cons,List.not_mem_nil,or_false] at hd
  rcases hd with rfl | rfl | rfl | rfl | rfl | rfl
  ·exact ⟨0,rfl,by decide⟩
  ·exact ⟨1,rfl,by decide⟩
  ·exact ⟨3,rfl,by decide⟩
  ·exact ⟨20,rfl,by decide⟩
  ·exact ⟨34,rfl,by decide⟩
  ·exact ⟨60,rfl,by decide⟩
 obtain ⟨k,rfl,hk⟩:=hk
 obtain ⟨ds,ec,hl,hb⟩:=a87 ns b μ k 0 (by omega) none []
 refine ⟨ds,jj 1 ((v_set 2 e).trans (v_ret ?_)),hb,by omega⟩
 unfold ug
 rw [qa (n:=k) rfl (by omega),bind_ok,if_pos (by rw [iL,List.length_map,List.length_range'];omega)]
 show (J6 (gN 0) mTT pEl _ [none,some (sc ns),some (.int b)] μ []).bind _=_
 rw [ec]
 rfl
end K20
set_option Elab.async false
set_option linter.all false
set_option maxRecDepth 100000
set_option maxHeartbeats 400000
namespace K20
open PySem PySem.Spec PyProof.Rows L2 M
theorem N.need_dp:∀ a:N,a.need + 1≤a.dp
 | .num _=>Nat.le_refl _
 | .len=>Nat.le_refl _
 | .load _ a=>by have:=N.need_dp a;simp only [N.need,N.dp];omega
 | .op _ a b=>by have:=N.need_dp a;have:=N.need_dp b;simp only [N.need,N.dp];omega
theorem B.fits_nd:∀ b:B,b.nd→b.fits
 | .tru _,_=>trivial
 | .nt a,h=>B.fits_nd a h
 | .both a b,h=>⟨B.fits_nd a h.1,B.fits_nd b h.2⟩
 | .eith a b,h=>⟨B.fits_nd a h.1,B.fits_nd b h.2⟩
 | .cmp _ a b,h=>by
  have h1:=N.need_dp a
  have h2:=N.need_dp b
  exact ⟨by have:=h.1;omega,by have:=h.2;omega⟩
theorem N.co_c:∀ a:N,a.co≤3 * a.c
 | .num _=>by simp [N.co,N.c]
 | .len=>by simp [N.co,N.c]
 | .load _ a=>by have:=N.co_c a;simp only [N.co,N.c];omega
 | .op _ a b=>by have:=N.co_c a;have:=N.co_c b;simp only [N.co,N.c];omega
theorem B.co_c:∀ b:B,b.co≤3 * b.c
 | .tru _=>by simp [B.co,B.c]
 | .nt a=>by have:=B.co_c a;simp only [B.co,B.c];omega
 | .both a b=>by have:=B.co_c a;have:=B.co_c b;simp only [B.co,B.c];omega
 | .eith a b=>by have:=B.co_c a;have:=B.co_c b;simp only [B.co,B.c];omega
 | .cmp _ a b=>by have:=N.co_c a;have:=N.co_c b;simp only [B.co,B.c];omega
noncomputable def jn (e:Bool) (a b:B):B:=if e then .both a b else .eith a b
noncomputable def jw (e:Bool):List Nat:=if e then Jb else Jw
theorem aP3 (e:Bool) (a b:B):(jn e a b).d=.tup [.str (jw e),a.d,b.d]:=by cases e <;> rfl
structure Fine (b:B) (c d:Nat):Prop where
 ok:b.ok
 nd:b.nd
 co:b.co≤c
 dp:b.dp≤d
theorem Bh {e:Bool} {a b:B} {c1 c2 d1 d2:Nat} (h1:Fine a c1 d1) (h2:Fine b c2 d2):Fine (jn e a b) (c1 + c2 + 2) (max d1 d2 + 1):=by
 have:=h1.co;have:=h2.co;have:=h1.dp;have:=h2.dp
 cases e
 ·exact ⟨⟨h1.ok,h2.ok⟩,⟨h1.nd,h2.nd⟩,by show a.co + b.co + 2≤_;omega,by show max a.dp b.dp + 1≤_;omega⟩
 ·exact ⟨⟨h1.ok,h2.ok⟩,⟨h1.nd,h2.nd⟩,by show a.co + b.co + 2≤_;omega,by show max a.dp b.dp + 1≤_;omega⟩
theorem au6 {m:MX} {ρ:En} {μ μ1:Mu} {d:D} (i:Nat) (h:m ρ μ=.ok d μ1):Js i m ρ μ=.ok (.nx (ρ.set i (some d))) μ1:=by unfold Js;rw [h];rfl
theorem cy (ns:List Int) (e:Bool) (m:D) {b:B} {c d:Nat} (hb:Fine b c (d + 2)) (k:Nat) (x5 x6 x7:Option D) (μ:Mu):∃ (b':B) (y5 y6 y7:Option D),Fine b' (c + 20) (d + 1 + 2) ∧
  Q8 [some (sc ns),some m,some (.tup [.str (jw e),.str (jw (!e))]),some b.d,some (.int k),x5,x6,x7] μ=.ok (.nx [some (sc ns),some m,some (.tup [.str (jw e),.str (jw (!e))]),some b'.d,some (.int k),y5,y6,y7]) μ:=by
 have h0:=fi ns (70 + k)
 let n:=mix ns (70 + k)
 let s0:B:=.cmp jd .len (.num (n / 2 % 4))
 let s1:B:=.cmp uh .len (.num (n / 8 % 61))
 have f0:Fine s0 8 1:=⟨⟨by simp [cpL],trivial,by show 0≤n / 2 % 4∧n / 2 % 4 < 4294967296;omega⟩,⟨by simp [N.dp],by simp [N.dp]⟩,by show 2 + 2 + 4≤8;omega,Nat.le_refl _⟩
 have f1:Fine s1 8 1:=⟨⟨by simp [cpL],trivial,by show 0≤n / 8 % 61∧n / 8 % 61 < 4294967296;omega⟩,⟨by simp [N.dp],by simp [N.dp]⟩,by show 2 + 2 + 4≤8;omega,Nat.le_refl _⟩
 have e5:mCall Y8 (mCons (mVar 0) (mCons (mBin Jj (mC (.int 70)) (mVar 4)) mNil)) [some (sc ns),some m,some (.tup [.str (jw e),.str (jw (!e))]),some b.d,some (.int k),x5,x6,x7] μ=.ok (.int n) μ:=v_call (v_cons rfl (v_cons (v_bin (z:=.int (70 + k)) rfl rfl rfl) v_nil)) (mix_at ns (70 + k) (by omega) μ)
 have e6:∀ ρ:En,ρ[5]? =some (some (.int n))→ua (mCons (ja (mCons (mC (.str js)) (mCons (mBin Jp (mBin Ug (mVar 5) (mC (.int 2))) (mC (.int 4))) mNil))) (mCons (ja (mCons (mC (.str js)) (mCons (mBin Jp (mBin Ug (mVar 5) (mC (.int 8))) (mC (.int 61))) mNil))) mNil)) ρ μ=.ok (.lst [(N.num (n / 2 % 4)).d,(N.num (n / 8 % 61)).d]) μ:=fun ρ h5 =>
  b8 (v_cons (v_tup (v_cons rfl (v_cons (v_mod (v_div (x:=5) h5 (by decide) (by decide)) (by decide)) v_nil))) (v_cons (v_tup (v_cons rfl (v_cons (v_mod (v_div (x:=5) h5 (by decide) (by decide)) (by decide)) v_nil))) v_nil))
 have fin:∀ (u v:B) (iu iv:Int),n % 2=iu→1 - n % 2=iv→gIdx (.lst [s1.d,s0.d]) (.int iu)=some u.d→gIdx (.lst [s1.d,s0.d]) (.int iv)=some v.d→Fine u 8 1→Fine v 8 1→∃ (b':B) (y5 y6 y7:Option D),Fine b' (c + 20) (d + 1 + 2) ∧
   Q8 [some (sc ns),some m,some (.tup [.str (jw e),.str (jw (!e))]),some b.d,some (.int k),x5,x6,x7] μ=.ok (.nx [some (sc ns),some m,some (.tup [.str (jw e),.str (jw (!e))]),some b'.d,some (.int k),y5,y6,y7]) μ:=fun u v iu iv h1 h2 h3 h4 fu fv=>by
  have fine:=Bh (e:=e) hb (Bh (e:=!e) fu fv)
  have eu:∀ ρ:En,ρ[5]? =some (some (.int n))→ρ[7]? =some (some (.lst [s1.d,s0.d]))→mBin gIdx (mVar 7) (mBin Jp (mVar 5) (mC (.int 2))) ρ μ=.ok u.d μ:=fun ρ h5 h7=>v_bin (v_var 7 h7) (v_mod (v_var 5 h5) (by decide)) (by rw [h1];exact h3)
  have ev:∀ ρ:En,ρ[5]? =some (some (.int n))→ρ[7]? =some (some (.lst [s1.d,s0.d]))→mBin gIdx (mVar 7) (mBin yu (mC (.int 1)) (mBin Jp (mVar 5) (mC (.int 2)))) ρ μ=.ok v.d μ:=fun ρ h5 h7=>v_bin (v_var 7 h7) (v_bin rfl (v_mod (v_var 5 h5) (by decide)) rfl) (by show gIdx _ (.int (1 - n % 2))=_;rw [h2];exact h4)
  refine ⟨jn e b (jn (!e) u v),some (.int n),some (.lst [(N.num (n / 2 % 4)).d,(N.num (n / 8 % 61)).d]),some (.lst [s1.d,s0.d]),⟨fine.ok,fine.nd,by have:=fine.co;omega,by have:=fine.dp;omega⟩,(v_set 5 e5).trans ((v_set 6 (e6 _ rfl)).trans ((v_set 7 (d:=.lst [s1.d,s0.d]) rfl).trans (au6 3 (d:=(jn e b (jn (!e) u v)).d) ?_)))⟩
  rw [aP3 e,aP3 (!e)]
  exact v_tup (v_cons rfl (v_cons rfl (v_cons (v_tup (v_cons rfl (v_cons (eu _ rfl rfl) (v_cons (ev _ rfl rfl) v_nil)))) v_nil)))
 have h2:n % 2=0∨n % 2=1:=by omega
 rcases h2 with h | h
 ·exact fin s1 s0 0 1 h (by omega) rfl rfl f1 f0
 ·exact fin s0 s1 1 0 h (by omega) rfl rfl f0 f1
theorem km (ns:List Int) (e:Bool) (m:D) (μ:Mu):∀ (q p:Nat) (b:B) (c d:Nat) (x4 x5 x6 x7:Option D),Fine b c (d + 2)→∃ (b':B) (y4 y5 y6 y7:Option D),Fine b' (c + 20 * q) (d + q + 2) ∧
  Jl (gN 4) Q8 (iL (List.range' p q)) [some (sc ns),some m,some (.tup [.str (jw e),.str (jw (!e))]),some b.d,x4,x5,x6,x7] μ=.ok (.nx [some (sc ns),some m,some (.tup [.str (jw e),.str (jw (!e))]),some b'.d,y4,y5,y6,y7]) μ
 | 0,p,b,c,d,x4,x5,x6,x7,h=>⟨b,x4,x5,x6,x7,h,rfl⟩
 | q + 1,p,b,c,d,x4,x5,x6,x7,h=>by
  obtain ⟨b1,y5,y6,y7,h1,e1⟩:=cy ns e m h p x5 x6 x7 μ
  obtain ⟨b2,z4,z5,z6,z7,h2,e2⟩:=km ns e m μ q (p + 1) b1 (c + 20) (d + 1) (some (.int p)) y5 y6 y7 h1
  refine ⟨b2,z4,z5,z6,z7,⟨h2.ok,h2.nd,by have:=h2.co;omega,by have:=h2.dp;omega⟩,?_⟩
  rw [Xv]
  exact (Vz e1).trans e2
theorem ae6 (ns:List Int) (many:Nat) (hm:many≤40) (μ:Mu):∃ b:B,Fq [sc ns,.int many] μ=.ok b.d μ∧Fine b (1 + 20 * many) (many + 2):=by
 have pick:∃ e:Bool,mBin gIdx (ua (mCons (ja (mCons (mC (.str Jb)) (mCons (mC (.str Jw)) mNil))) (mCons (ja (mCons (mC (.str Jw)) (mCons (mC (.str Jb)) mNil))) mNil))) (mBin Jp (mCall Y8 (mCons (mVar 0) (mCons (mC (.int 57)) mNil))) (mC (.int 2))) [some (sc ns),some (.int many),none,none,none,none,none,none] μ=.ok (.tup [.str (jw e),.str (jw (!e))]) μ:=by
  obtain ⟨d,hd,e⟩:=wz (ρ:=[some (sc ns),some (.int many),none,none,none,none,none,none]) (μ:=μ) (m:=mCall Y8 (mCons (mVar 0) (mCons (mC (.int 57)) mNil))) (L:=[.tup [.str Jb,.str Jw],.tup [.str Jw,.str Jb]]) (n:=2) (ms:=mCons (ja (mCons (mC (.str Jb)) (mCons (mC (.str Jw)) mNil))) (mCons (ja (mCons (mC (.str Jw)) (mCons (mC (.str Jb)) mNil))) mNil)) rfl (v_call rfl (mix_at ns 57 rfl μ)) rfl (by decide)
  simp only [List.mem_cons,List.not_mem_nil,or_false] at hd
  rcases hd with rfl | rfl
  ·exact ⟨true,e⟩
  ·exact ⟨false,e⟩
 obtain ⟨e,he⟩:=pick
 have f0:Fine (.tru e) 1 (0 + 2):=⟨trivial,trivial,Nat.le_refl _,by simp [B.dp]⟩
 obtain ⟨b,y4,y5,y6,y7,hb,el⟩:=km ns e (.int many) μ many 0 (.tru e) 1 0 none none none none f0
 refine ⟨b,jj 6 ((v_set 2 he).trans ((v_set 3 (d:=(B.tru e).d) ?_).trans ((v_seqN ((zi (qa (n:=many) rfl (by omega))).trans el)).trans (v_ret rfl)))),⟨hb.ok,hb.nd,hb.co,by have:=hb.dp;omega⟩⟩
 cases e <;> rfl
theorem aI9 {v:D} (h:v=.non∨∃ b,v=.bl b):(sv v == 1)=tk v:=by
 rcases h with rfl | ⟨b,rfl⟩
 ·rfl
 ·cases b <;> rfl
theorem Vy (ns:List Int) {b:B} {c d:Nat} (hb:Fine b c d) (hc:c≤1900) (hd:d≤50) (l:D) (k:Nat) (x5 x6:Option D) (μ:Mu):∃ μ' y5 y6,F0 [some (sc ns),some l,some b.d,some (.lst ((Je b).map Prod.fst)),some (.int k),x5,x6] μ=.ok (.nx [some (sc ns),some l,some b.d,some (.lst ((Je b).map Prod.fst)),some (.int k),y5,y6]) μ':=by
 obtain ⟨bs,ep,hB⟩:=Ag ns (20 + 11 * k) μ
 have hfit:=B.fits_nd b hb.nd
 have hco:=hb.co
 have hdp:=hb.dp
 obtain ⟨_,_,hlen⟩:=Vt (t0:=none) (μ0:=[]) b 2 1 C0 [] hb.ok hfit (by decide) (by decide) (by simp [C0];omega) (by simp;omega)
 have hlen:(Je b).length≤2 + b.co:=hlen
 obtain ⟨μ1,er⟩:=ax2 hB hb.ok hfit (by omega) μ
 obtain ⟨μ2,es⟩:=Q0 hB b 50 hb.ok hb.nd (by omega) μ1
 refine ⟨μ2,some (pk bs),some (.int (if tk (b.ev bs) then 1 else 0)),(v_set 5 (d:=pk bs) (v_call (v_cons rfl (v_cons (v_bin (x:=.int 20) (y:=.int (11 * k)) (z:=.int ((20 + 11 * k:Nat):Int)) rfl (v_bin rfl rfl (y0 _ _ (by decide) (by decide))) ?_) v_nil)) ep)).trans ((v_set 6 (v_call rfl er)).trans ((v_iteF ?_).trans rfl))⟩
 ·show some (D.int (20 + 11 * (k:Int)))=_
  congr 2
 ·refine (v_orF (v_not (k:=true) (Za (d:=.bl true) (v_call rfl (jj 0 rfl)) rfl))).trans (ji (v_bin (x:=.int (if tk (b.ev bs) then 1 else 0)) (y:=.int (if tk (b.ev bs) then 1 else 0)) rfl (uq (v_cons (d:=.bl (tk (b.ev bs))) (v_bin (v_call rfl es) rfl ?_) v_nil) rfl) ?_))
  ·rw [deref_int,deref_int,Z3,aI9 (B.bl_ev hB b hb.ok)]
  ·rw [deref_int,K9]
   simp
theorem Ek (ns:List Int) {b:B} {c d:Nat} (hb:Fine b c d) (hc:c≤1900) (hd:d≤50) (long:Bool) (hl:long=false→c≤900) (μ:Mu):∃ μ',(jz (Js 3 (mCall Yq (mCons (mVar 2) mNil)))
  (jz (jl (mOr (mNot (mTru (gm .list (mVar 3)))) (mOr (mNot (mTru (mCall Uc (mCons (mVar 3) mNil)))) (mAnd (mNot (mTru (mVar 1))) (mTest (mBin gGe (mCall f_fault (mCons (mVar 3) mNil)) (mC (.int 0)))))))
  (jt (mC (.bl false)))
  jx)
  (jz (qr (gN 4) (uo (mC (.int 3))) F0)
  (jt (mC (.bl true)))))) [some (sc ns),some (.bl long),some b.d,none,none,none,none] μ=.ok (.rt (.bl true)) μ':=by
 have hfit:=B.fits_nd b hb.nd
 have hco:=hb.co
 obtain ⟨μ1,ec⟩:=Dn hb.ok hfit (by omega) μ
 obtain ⟨w1,⟨d0,w2⟩,_,w4,w5⟩:=Xd b 2 1 C0 hb.ok hfit aH6 aH3 aH4 (by simp [C0];omega)
 have w5:(Je b).length≤2 + b.co:=w5
 obtain ⟨f,hsh,hfl⟩:=aH5 w1 w2
 let cs:=(Je b).map Prod.fst
 have hcs:cs.length=(Je b).length:=List.length_map _
 have hcode:Code cs f:=fun i x hx=>by
  rw [List.getElem?_map,Option.map_eq_some_iff] at hx
  obtain ⟨e,he,rfl⟩:=hx
  exact hsh i e he
 have hn0:1≤cs.length:=by
  have:=(List.getElem?_eq_some_iff.mp w2).1
  rw [hcs]
  exact this
 have hfirst:first f cs.length cs.length=none:=by
  unfold first
  rw [List.find?_eq_none]
  intro q hq
  rw [List.mem_range'_1] at hq
  have:=hfl q (by rw [← hcs];omega)
  rw [hcs,this]
  simp
 have hw:Ew f cs.length none=none:=by
  unfold Ew Vu
  rw [hfirst]
  rfl
 have hF:Fwp cs (Ew f cs.length none):=fun μ=>aF0 ⟨fun i d h _=>hcode i d h,fun i d _ h=>by cases h⟩ (by omega) hn0 (fun i h=>by cases h) μ
 obtain ⟨ν,el⟩:=aD4 hF μ1
 rw [hw] at el
 have t1:mNot (mTru (mCall Uc (mCons (mVar 3) mNil))) [some (sc ns),some (.bl long),some b.d,some (.lst cs),none,none,none] μ1=.ok false (μ1++ν):=v_not (k:=true) (Za (d:=.bl true) (v_call rfl el) rfl)
 have t2:∃ μ2,mAnd (mNot (mTru (mVar 1))) (mTest (mBin gGe (mCall f_fault (mCons (mVar 3) mNil)) (mC (.int 0)))) [some (sc ns),some (.bl long),some b.d,some (.lst cs),none,none,none] (μ1++ν)=.ok false μ2:=by
  cases long with
  | true=>exact ⟨_,yt rfl⟩
  | false =>
   obtain ⟨ν2,ef⟩:=ad9 (μ0:=μ1++ν) (c:=.lst cs) hcode rfl (by have:=hl rfl;omega)
   rw [hfirst] at ef
   exact ⟨_,(v_andT rfl).trans (ji (v_bin (v_call rfl ef) rfl rfl))⟩
 obtain ⟨μ2,t2⟩:=t2
 obtain ⟨μ3,y5,y6,e1⟩:=Vy ns hb hc hd (.bl long) 0 none none μ2
 obtain ⟨μ4,z5,z6,e2⟩:=Vy ns hb hc hd (.bl long) 1 y5 y6 μ3
 obtain ⟨μ5,q5,q6,e3⟩:=Vy ns hb hc hd (.bl long) 2 z5 z6 μ4
 exact ⟨μ5,(v_set 3 (v_call rfl ec)).trans ((v_skip ((v_orF (v_not (k:=true) (Za (d:=.bl true) rfl rfl))).trans ((v_orF t1).trans t2))).trans ((v_seqN ((zi (qa (n:=3) rfl (by decide))).trans ((Vz e1).trans ((Vz e2).trans ((Vz e3).trans rfl))))).trans rfl))⟩
theorem law_true (ns:List Int) (hl:ns.length≤63):∃ μ,f_law [.lst (ns.map .int)] []=.ok (.bl true) μ:=by
 show ∃ μ,f_law [sc ns] []=.ok (.bl true) μ
 have e1:mBin gEq (mBin Jp (mCall Y8 (mCons (mVar 0) (mCons (mC (.int 59)) mNil))) (mC (.int 8))) (mC (.int 0)) [some (sc ns),none,none,none,none,none,none] []=.ok (.bl (mix ns 59 % 8 == 0)) []:=v_bin (v_mod (v_call rfl (mix_at ns 59 rfl [])) (by decide)) rfl (Z3 _ _)
 cases hk:mix ns 59 % 8 == 0 with
 | true =>
  rw [hk] at e1
  have h0:=Int.emod_nonneg (mix ns 58) (b:=23) (by decide)
  have h1:=Int.emod_lt_of_pos (mix ns 58) (b:=23) (by decide)
  obtain ⟨many,hm⟩:∃ many:Nat,8 + mix ns 58 % 23=many:=⟨(8 + mix ns 58 % 23).toNat,by omega⟩
  obtain ⟨b,eb,hb⟩:=ae6 ns many (by omega) []
  obtain ⟨μ',e⟩:=Ek ns hb (by omega) (by omega) true (fun z=>by cases z) []
  refine ⟨μ',jj 6 ((v_set 1 e1).trans ((v_set 2 ((v_ifT rfl).trans (v_call (v_cons rfl (v_cons (v_bin (x:=.int 8) rfl (v_mod (v_call rfl (mix_at ns 58 rfl [])) (by decide)) ?_) v_nil)) eb))).trans e))⟩
  show some (D.int (8 + mix ns 58 % 23))=_
  rw [hm]
 | false =>
  rw [hk] at e1
  obtain ⟨b,eb,ok,nd,hc,hdp⟩:=Vx ns [] 8 2 0 (by decide)
  have hc2:ncB 2=70:=rfl
  have hcc:=B.co_c b
  obtain ⟨μ',e⟩:=Ek ns (b:=b) (c:=210) (d:=3) ⟨ok,nd,by omega,hdp⟩ (by omega) (by omega) false (fun _=>by omega) []
  exact ⟨μ',jj 6 ((v_set 1 e1).trans ((v_set 2 ((v_ifF rfl).trans (v_call rfl eb))).trans e))⟩
end K20
noncomputable def PySem.W.Fast.tw9036987731527896193 : Unit := ()
noncomputable def PySem.W.Fast.tw4863600327364652243 : Unit := ()
noncomputable def PySem.W.Fast.tw13543995666573471278 : Unit := ()
noncomputable def PySem.W.Fast.tw12287076872455593542 : Unit := ()
noncomputable def PySem.W.Fast.tw1470715364013947445 : PySem.Program := PySem.Challenge.pw_netsieve_k20_whole_compiled
theorem PySem.W.Fast.te1470715364013947445 : PySem.Challenge.pw_netsieve_k20_whole_compiled=PySem.W.Fast.tw1470715364013947445 := rfl
noncomputable def PySem.W.Fast.tw15758125908162498838 : Unit := ()
noncomputable def PySem.W.Fast.tw9101297183275830735 : Unit := ()
noncomputable def PySem.W.Fast.tw12618927073085326018 : Unit := ()
noncomputable def PySem.W.Fast.tw6105650839312722333 : Unit := ()
noncomputable def PySem.W.Fast.tw12006229680399004447 : Unit := ()
noncomputable def PySem.W.Fast.tw1929154803111107828 : Unit := ()
noncomputable def PySem.W.Fast.tw9721007909530942501 : Unit := ()
noncomputable def PySem.W.Fast.tw10445767217859375326 : Unit := ()
noncomputable def PySem.W.Fast.tw5606166179098398432 : Unit := ()
noncomputable def PySem.W.Fast.tw600910575272150631 : Unit := ()
noncomputable def PySem.W.Fast.tw3868948836402908563 : Unit := ()
noncomputable def PySem.W.Fast.tw10733794707616486600 : Unit := ()
noncomputable def PySem.W.Fast.tw8613808802206110777 : Unit := ()
noncomputable def PySem.W.Fast.tw15578679361953580854 : Unit := ()
noncomputable def PySem.W.Fast.tw13876849239636754363 : Unit := ()
noncomputable def PySem.W.Fast.tw2224999630682937461 : Unit := ()
noncomputable def PySem.W.Fast.tw11565092322081270373 : Unit := ()
noncomputable def PySem.W.Fast.tw15420656850877869401 : Unit := ()
noncomputable def PySem.W.Fast.tw14074100213759471643 : Unit := ()
noncomputable def PySem.W.Fast.tw1252135660200952126 : Unit := ()
noncomputable def PySem.W.Fast.tw11001000294734538772 : Unit := ()
noncomputable def PySem.W.Fast.tw3146725947209562004 : Unit := ()
noncomputable def PySem.W.Fast.tw566561944807351347 : Unit := ()
noncomputable def PySem.W.Fast.tw10210370428611737779 : Unit := ()
noncomputable def PySem.W.Fast.tw18353188303881405600 : Unit := ()
open PySem PySem.W PyProof.Rows
set_option maxRecDepth 100000 in
set_option maxHeartbeats 0 in
theorem PySem.Challenge.cw_netsieve_k20_whole_compiled_holds : PySem.Challenge.rw_netsieve_k20_whole_compiled.Holds := by
 w_on;o_law;k_head;(case hw=>w_witness2)
 k_fill
 refine M.walk_lawM (l := PySem.Challenge.rw_netsieve_k20_whole_compiled) (k := 66) (x := "_law_script") (φ := K20.f_law) rfl rfl ⟨rfl, by decide, by decide⟩ (fun w h Y=>PySem.W.kIn_of Y) ?F (fun ns hl=>K20.law_true ns hl)
 case F =>
  intro w mg fa h KX G hmg
  refine K20.finish hmg ?T
  refine' K20.mkT KX G ?n_len ?n_range ?n_list ?n_reversed ?n_isinstance ?n_enumerate ?n_tuple ?n_str ?n_zip ?n_int ?n_bool ?n_all ?n_any ?n_max ?n_sum ?n_min ?a_OPS ?l_OPS ?a_SLOTS ?a_TEST_OF ?l_TEST_OF ?h_TEST_OF ?l0_TEST_OF ?l1_TEST_OF ?l2_TEST_OF ?l3_TEST_OF ?l4_TEST_OF ?l5_TEST_OF ?a_MOST_STEPS ?a_PARTS ?l_PARTS ?h_PARTS ?l0_PARTS ?l1_PARTS ?l2_PARTS ?l3_PARTS ?l4_PARTS ?l5_PARTS ?l6_PARTS ?l7_PARTS ?l8_PARTS ?l9_PARTS ?l10_PARTS ?l11_PARTS ?l12_PARTS ?l13_PARTS ?l14_PARTS ?a_ROUND ?a_SIZES ?l_SIZES ?a_FARTHEST ?a_BASES ?l_BASES ?a_TESTS ?l_TESTS ?a_DIVIDING ?l_DIVIDING ?a_SHIFTING ?l_SHIFTING ?a_WIDTH ?a_Machine ?p1_Machine ?p2_Machine ?p3_Machine ?p4_Machine ?na_Machine_hand ?na_Machine_other ?na_Machine_slots ?na_Machine_place ?na_Machine_done ?na_Machine_told ?i_p_Machine__init__ ?l_p_Machine__init__ ?c_p_Machine__init__ ?k_p_Machine__init__ ?m1_p_Machine__init__ ?m2_p_Machine__init__ ?m3_p_Machine__init__ ?d_cell ?d_mix ?d_chain ?d_op ?d_number ?d_truth ?d_p_tasks_of_pair ?d_p_tasks_of_number ?d_p_step_of_test ?d_p_make_truth ?d_p_task_of_first ?d_p_compiled ?d_p_no_slots ?d_p_is_whole ?d_p_is_number ?d_p_is_part ?d_p_can_be_done_by ?d_p_is_step ?d_p_lacks_its_slot ?d_p_goals_from ?d_p_hand_on ?d_p_kept_behind ?d_p_first_wrong_place ?d_p_is_let_in ?d_goals ?d_there ?d_unset ?d_fault ?d_packet ?d_p_put_away ?d_p_take_in_hand ?d_p_loaded ?d_p_shifted ?d_p_plainly_reckoned ?d_p_reckoned ?d_p_fetched ?d_p_value_of ?d_p_holds ?d_p_distance ?d_p_do_step ?d_p_ended ?d_p_run ?d_whole ?d_bytes ?d_reckoned ?d_worth ?d_says ?d_law
  (case n_len=>k_is);(case n_range=>k_is);(case n_list=>k_is);(case n_reversed=>k_is)
  (case n_isinstance=>k_is);(case n_enumerate=>k_is);(case n_tuple=>k_is);(case n_str=>k_is)
  (case n_zip=>k_is);(case n_int=>k_is);(case n_bool=>k_is);(case n_all=>k_is)
  (case n_any=>k_is);(case n_max=>k_is);(case n_sum=>k_is);(case n_min=>k_is)
  (case a_OPS=>k_is);(case l_OPS=>k_is);(case a_SLOTS=>k_is);(case a_TEST_OF=>k_is)
  (case l_TEST_OF=>k_is);(case h_TEST_OF=>rfl);(case l0_TEST_OF=>k_is);(case l1_TEST_OF=>k_is)
  (case l2_TEST_OF=>k_is);(case l3_TEST_OF=>k_is);(case l4_TEST_OF=>k_is);(case l5_TEST_OF=>k_is)
  (case a_MOST_STEPS=>k_is);(case a_PARTS=>k_is);(case l_PARTS=>k_is);(case h_PARTS=>rfl)
  (case l0_PARTS=>k_is);(case l1_PARTS=>k_is);(case l2_PARTS=>k_is);(case l3_PARTS=>k_is)
  (case l4_PARTS=>k_is);(case l5_PARTS=>k_is);(case l6_PARTS=>k_is);(case l7_PARTS=>k_is)
  (case l8_PARTS=>k_is);(case l9_PARTS=>k_is);(case l10_PARTS=>k_is);(case l11_PARTS=>k_is)
  (case l12_PARTS=>k_is);(case l13_PARTS=>k_is);(case l14_PARTS=>k_is);(case a_ROUND=>k_is)
  (case a_SIZES=>k_is);(case l_SIZES=>k_is);(case a_FARTHEST=>k_is);(case a_BASES=>k_is)
  (case l_BASES=>k_is);(case a_TESTS=>k_is);(case l_TESTS=>k_is);(case a_DIVIDING=>k_is)
  (case l_DIVIDING=>k_is);(case a_SHIFTING=>k_is);(case l_SHIFTING=>k_is);(case a_WIDTH=>k_is)
  (case a_Machine=>k_is);(case p1_Machine=>kernel_rfl);(case p2_Machine=>k_is);(case p3_Machine=>k_is)
  (case p4_Machine=>k_is);(case na_Machine_hand=>k_is);(case na_Machine_other=>k_is);(case na_Machine_slots=>k_is)
  (case na_Machine_place=>k_is);(case na_Machine_done=>k_is);(case na_Machine_told=>k_is);(case i_p_Machine__init__=>k_is)
  (case l_p_Machine__init__=>k_is);(case c_p_Machine__init__=>k_is);(case k_p_Machine__init__=>k_is);(case m1_p_Machine__init__=>k_is)
  (case m2_p_Machine__init__=>k_is);(case m3_p_Machine__init__=>k_is);(case d_cell=>walk_at "dm");(case d_mix=>walk_at "dm")
  (case d_chain=>walk_at "dm");(case d_op=>walk_at "dm");(case d_number=>walk_at "dm");(case d_truth=>walk_at "dm")
  (case d_p_tasks_of_pair=>walk_at "dm");(case d_p_tasks_of_number=>walk_at "dm");(case d_p_step_of_test=>walk_at "dm");(case d_p_make_truth=>walk_at "dm")
  (case d_p_task_of_first=>walk_at "dm");(case d_p_compiled=>walk_at "dm");(case d_p_no_slots=>walk_at "dm");(case d_p_is_whole=>walk_at "dm")
  (case d_p_is_number=>walk_at "dm");(case d_p_is_part=>walk_at "dm");(case d_p_can_be_done_by=>walk_at "dm");(case d_p_is_step=>walk_at "dm")
  (case d_p_lacks_its_slot=>walk_at "dm");(case d_p_goals_from=>walk_at "dm");(case d_p_hand_on=>walk_at "dm");(case d_p_kept_behind=>walk_at "dm")
  (case d_p_first_wrong_place=>walk_at "dm");(case d_p_is_let_in=>walk_at "dm");(case d_goals=>walk_at "dm");(case d_there=>walk_at "dm")
  (case d_unset=>walk_at "dm");(case d_fault=>walk_at "dm");(case d_packet=>walk_at "dm");(case d_p_put_away=>walk_at "dm")
  (case d_p_take_in_hand=>walk_at "dm");(case d_p_loaded=>walk_at "dm");(case d_p_shifted=>walk_at "dm");(case d_p_plainly_reckoned=>walk_at "dm")
  (case d_p_reckoned=>walk_at "dm");(case d_p_fetched=>walk_at "dm");(case d_p_value_of=>walk_at "dm");(case d_p_holds=>walk_at "dm")
  (case d_p_distance=>walk_at "dm");(case d_p_do_step=>walk_at "dm");(case d_p_ended=>walk_at "dm");(case d_p_run=>walk_at "dm")
  (case d_whole=>walk_at "dm");(case d_bytes=>walk_at "dm");(case d_reckoned=>walk_at "dm");(case d_worth=>walk_at "dm")
  (case d_says=>walk_at "dm");(case d_law=>walk_at "dm")
